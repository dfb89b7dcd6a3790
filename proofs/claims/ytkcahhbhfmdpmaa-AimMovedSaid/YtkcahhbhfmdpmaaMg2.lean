/- Part 2 of the texts below the claim. Conditions: none. -/
import Derived.Test.YtkcahhbhfmdpmaaMg1
set_option linter.unusedVariables false
set_option linter.unusedSimpArgs false
namespace Go.Gi
open Go.RowKit
section
variable {P:Program}{K:Nat→Prop}{w0 w:World} {φ:Phi}{H:List Ob}
theorem loadRow_core {off n B base:Nat}{c C:Array Value}{el:TypeId}{fr:Nat×Nat}(h2:w.heap[B]?=some (.cells C el fr)) (h3:∀(i:Nat) (v:Value),c[i]?=some v→∃v',C[base+i]?=some v'∧VR φ v v') (hle:off+n≤c.size) :
  ∃arr,(loadCells ⟨B,base+off,none⟩ n).run P w=.ok arr w∧VRs φ (c.extract off (off+n)) arr:=by
 have hcell:∀j,j<n→w.cell? ((⟨B,base+off,none⟩:Addr).add j)=some (C.getD (base+off+j) undef):=by
  intro j hj;rw[add_none,cell_at h2]
  obtain ⟨v',hv',_⟩:=h3 (off+j) c[off+j] (Array.getElem?_eq_getElem (by omega))
  rw[← Nat.add_assoc]at hv';rw[Array.getD_eq_getD_getElem?,hv'];rfl
 refine ⟨_,run_loadCells w _ n _ hcell,?_⟩
 intro i
 have e:∀l:List Value,l.toArray[i]?=l[i]?:=fun l=>by simp
 rw[Array.getElem?_extract,e,List.getElem?_map]
 by_cases hi:i<n
 ·rw[List.getElem?_range hi,if_pos (by omega),Array.getElem?_eq_getElem (show off+i<c.size by omega)]
  obtain ⟨v',hv',r⟩:=h3 (off+i) c[off+i] (Array.getElem?_eq_getElem (by omega))
  rw[← Nat.add_assoc]at hv'
  refine .some ?_
  show VR φ _ (C.getD (base+off+i) undef)
  rw[Array.getD_eq_getD_getElem?,hv'];exact r
 ·rw[List.getElem?_eq_none (by simp;omega),if_neg (by omega)];exact .none
theorem loadRow_sound (hI:Inv K w0 φ H w) {b off n B base tot:Nat}{c:Array Value}{ro:Bool}(hc:H[b]?=some (.cells c ro)) (hφ:φ b=some (B,base,tot)) (hle:off+n≤c.size) :
  ∃arr,(loadCells ⟨B,base+off,none⟩ n).run P w=.ok arr w∧VRs φ (c.extract off (off+n)) arr:=by
 obtain ⟨B',base',tot',h1,C,el,fr,h2,h3,_⟩:=hI.obs b _ hc rfl;rw[hφ]at h1;cases h1;exact loadRow_core h2 h3 hle
def zeroRow (z:Array Value)(n:Nat):Array Value:=(Array.range n).map (z[· % z.size]!)
def lBuildSlice (P:Program)(h:Hp)(t:TypeId)(len:Nat)(parts:List (Nat×Value)):Option (Value×Hp) :=
 match P.underlying t with
 | some (.slice e) =>
  match sizeB P e,(if len=0 then some (.agg #[]) else zeroB P e) with
  | some n,some z =>
   if len*n≤16777216∧(len*n=0→z.cells=#[])∧(zeroRow z.cells (len*n)).toList.all g0=true then
    match Instr.fill (fun i=>some (i*n,n)) (zeroRow z.cells (len*n)) parts with
    | some cells=>if cells.size=len*n then some (.slice (some ⟨h.bl.length,0,none⟩) len n,h.push (.cells cells false)) else none
    | none=>none
   else none
  | _,_=>none
 | _=>none
theorem lBuildSlice_sound {h h':Hp}(hI:Inv K w0 φ h.bl w) {t:TypeId}{len:Nat} {parts parts':Array (Nat×Value)}{v:Value}(hl:lBuildSlice P h t len parts.toList=some (v,h')) (hp:Parts φ parts.toList parts'.toList) :
  Loud P K w0 φ w (Instr.buildSlice t len parts') v h'.bl:=by
 unfold lBuildSlice at hl
 split at hl
 ·rename_i e hu
  split at hl
  ·rename_i n z hn hz
   split at hl
   ·rename_i hc
    obtain ⟨c1,c2,c3⟩:=hc
    split at hl
    ·rename_i cells hf
     split at hl
     ·rename_i hsz
      simp only[Option.some.injEq,Prod.mk.injEq]at hl;obtain ⟨rfl,rfl⟩:=hl
      obtain ⟨cells',hf',hv⟩:=fill_sound _ hp (gAll (fun _=>g0_refl) c3:VRs φ _ _) hf
      have hrow:=hI.row (el:=e) hv
      refine ⟨_,.slice (some ⟨w.heap.size,0,none⟩) len len,_,?_,hI.le_new _,.slice (up_same _ _ _) (Nat.le_refl _) (by omega),hrow⟩
      unfold zeroRow at hf';simp only[Instr.buildSlice,Sem.run_bind,run_underlying hu,Result.andThen_ok,run_size hn]
      rw[if_neg (show ¬len*n > 2 ^ 24 by omega)]
      by_cases h0:len*n=0
      ·rw[c2 h0]at hf'
       rw[if_pos h0];simp only[Sem.run_bind,Sem.run_pure,Result.andThen_ok,hf',newRow,run_newObj]
       rfl
      ·have:len≠0:=fun e0=>h0 (by simp [e0])
       rw[if_neg this]at hz;rw[if_neg h0];simp only[Sem.run_bind,(run_zero hz w).1,Result.andThen_ok,Sem.run_pure,hf',newRow,run_newObj]
       rfl
     ·cases hl
    ·cases hl
   ·cases hl
  ·cases hl
 ·cases hl
theorem parts_ground {φ:Phi}{f:Operand→Value}:∀{l:List (Nat×Operand)},(∀x∈l,VR φ (f x.2) (f x.2))→(l.all fun x=>okO x.2&&notT (f x.2))=true→Parts φ (l.map fun (i,x)=>(i,f x)) (l.map fun (i,x)=>(i,f x))
 | [],_,_=>.nil
 | (i,x)::l,h,h2=>by
  simp only[List.all_cons,Bool.and_eq_true]at h2
  exact .cons (h (i,x) (by simp)) h2.1.2 (parts_ground (fun y hy=>h y (by simp [hy])) h2.2)
theorem lBuildSlice_run {h h':Hp}{t:TypeId}{len:Nat}{parts:List (Nat×Value)}{v:Value}(hl:lBuildSlice P h t len parts=some (v,h')) (hp:∀φ:Phi,Parts φ parts parts) :
  ∃(cells:Array Value) (e:TypeId) (n:Nat),v=.slice (some ⟨h.bl.length,0,none⟩) len n∧h'=h.push (.cells cells false)∧cells.size=len*n∧(∀φ:Phi,VRs φ cells cells) ∧
   ∀(ps:Array (Nat×Value)) (w:World),ps.toList=parts→(Instr.buildSlice t len ps).run P w=.ok (.slice (some ⟨w.heap.size,0,none⟩) len len) (w.alloc (.cells cells e)):=by
 unfold lBuildSlice at hl
 split at hl
 ·rename_i e hu
  split at hl
  ·rename_i n z hn hz
   split at hl
   ·rename_i hc
    obtain ⟨c1,c2,c3⟩:=hc
    split at hl
    ·rename_i cells hf
     split at hl
     ·rename_i hsz
      simp only[Option.some.injEq,Prod.mk.injEq]at hl;obtain ⟨rfl,rfl⟩:=hl
      refine ⟨cells,e,n,rfl,rfl,hsz,fun φ=>?_,fun ps w hps=>?_⟩
      ·obtain ⟨cells',hf',hv⟩:=fill_sound _ (hp φ) (gAll (fun _=>g0_refl) c3:VRs φ _ _) hf
       rw[hf]at hf'
       cases hf'
       exact hv
      ·rw[← hps]at hf
       unfold zeroRow at hf;simp only[Instr.buildSlice,Sem.run_bind,run_underlying hu,Result.andThen_ok,run_size hn]
       rw[if_neg (show ¬len*n > 2 ^ 24 by omega)]
       by_cases h0:len*n=0
       ·rw[c2 h0]at hf
        rw[if_pos h0];simp only[Sem.run_bind,Sem.run_pure,Result.andThen_ok,hf,newRow,run_newObj]
        rfl
       ·have:len≠0:=fun e0=>h0 (by simp [e0])
        rw[if_neg this]at hz;rw[if_neg h0];simp only[Sem.run_bind,(run_zero hz w).1,Result.andThen_ok,Sem.run_pure,hf,newRow,run_newObj]
        rfl
     ·cases hl
    ·cases hl
   ·cases hl
  ·cases hl
 ·cases hl
def lMakeMap (h:Hp):Value×Hp:=(.map (some h.bl.length),h.push (.map []))
theorem lMakeMap_sound {h:Hp}(hI:Inv K w0 φ h.bl w) (t:TypeId):Loud P K w0 φ w (Instr.makeMap t none) (lMakeMap h).1 (lMakeMap h).2.bl:=by
 refine ⟨_,.map (some w.heap.size),w.alloc (.map #[] 0),?_,hI.le_new (w.heap.size,0,0),.map (up_same _ _ _),hI.alloc (.map []) (.map #[] 0) 0 ?_⟩
 ·simp only[Instr.makeMap,Sem.run_bind,Sem.run_pure,run_newObj,Result.andThen_ok];rfl
 ·exact ⟨rfl,#[],0,World.alloc_heap_new w _,rfl,fun i k v hkv=>by simp at hkv⟩
def lMapUpdate (P:Program)(h:Hp)(t:TypeId)(k v:Value):Value→Option Hp
 | .map (some r) =>
  match P.underlying t,h.bl[r]? with
  | some (.map kt _),some (.map es) =>
   if gr k=true∧pureRun P (Instr.checkKey false 10000 kt k)=some ()∧(P.underlying kt).isSome=true then
    match aFind P kt k (es.map (·.1)) 0 with
    | some (some j)=>match es[j]? with
     | some (k0,_)=>match pureRun P (Instr.keyThatStays k0 k) with
      | some k1=>some (h.put r (.map (es.set j (k1,v))))
      | none=>none
     | none=>none
    | some none=>some (h.put r (.map (es++[(k,v)])))
    | none=>none
   else none
  | _,_=>none
 | _=>none
theorem putObj_frame {B:Nat}{o:Obj}:∀k,k≠B→(w.putObj B o).heap[k]?=w.heap[k]?:=fun _ hk=>World.putObj_heap_other hk
theorem lMapUpdate_sound {h h':Hp}(hI:Inv K w0 φ h.bl w) {t:TypeId} {k k' v v' x x':Value}(hl:lMapUpdate P h t k v x=some h') (hx:VR φ x x') (hkk:VR φ k k') (hv:VR φ v v') :
  ∃w',(Instr.mapUpdate t x' k' v').run P w=.ok () w'∧Inv K w0 φ h'.bl w':=by
 unfold lMapUpdate at hl
 split at hl
 ·rename_i r
  cases hx with
  | @map _ B tot hφ =>
   split at hl
   ·rename_i kt et es hu hr
    split at hl
    ·rename_i hc
     obtain ⟨hg,hck,hks⟩:=hc;obtain rfl:=gr_eq hg hkk;obtain ⟨B',base',tot',h1,h0,E,clock,h2,h3,h4⟩:=hI.obs r _ hr rfl;rw[hφ]at h1;cases h1
     have hlt:B<w.heap.size:=(Array.getElem?_eq_some_iff.1 h2).1
     have hget:(getObj B).run P w=.ok (.map E clock) w:=by simp [getObj,Sem.run,h2]
     have hset:∀o:Obj,(setObj B o).run P w=.ok () (w.putObj B o):=fun o=>by simp [setObj,Sem.run,h2,World.putObj]
     have hkeys:=keys_eq h3 h4
     split at hl
     ·rename_i j hj
      rw[← hkeys]at hj;have hf:=findKey_run w hks hj
      split at hl
      ·rename_i k0 u0 hu0
       split at hl
       ·rename_i k1 hk1
        simp only[Option.some.injEq]at hl;subst hl;obtain ⟨en,he1,he2,he3⟩:=h4 j k0 u0 hu0
        refine ⟨w.putObj B (.map (E.modify j fun e=>{ e with key:=k1,val:=v' }) clock),?_,hI.write hr rfl hφ putObj_frame (by simp) rfl rfl rfl ?_⟩
        ·simp only[Instr.mapUpdate,Sem.run_bind,run_underlying hu,Result.andThen_ok,hget,pureRun_run hck,hf,Option.map_some,he1,Option.getD_some,he2,pureRun_run hk1,hset]
        ·refine ⟨rfl,_,clock,World.putObj_heap_same hlt,by simp [h3],?_⟩
         intro i ki vi hkv
         rw[List.getElem?_set]at hkv
         rw[Array.getElem?_modify]
         split at hkv
         ·rename_i e;subst e
          split at hkv
          ·simp only[Option.some.injEq,Prod.mk.injEq]at hkv
           obtain ⟨rfl,rfl⟩:=hkv;rw[if_pos rfl,he1];exact ⟨_,rfl,rfl,hv⟩
          ·cases hkv
         ·rename_i e
          rw[if_neg e];exact h4 i ki vi hkv
       ·cases hl
      ·cases hl
     ·rename_i hj
      rw[← hkeys]at hj;have hf:=findKey_run w hks hj;simp only[Option.some.injEq]at hl;subst hl
      refine ⟨w.putObj B (.map (E.push { key:=k',val:=v',born:=clock }) (clock+1)),?_,hI.write hr rfl hφ putObj_frame (by simp) rfl rfl rfl ?_⟩
      ·simp only[Instr.mapUpdate,Sem.run_bind,run_underlying hu,Result.andThen_ok,hget,pureRun_run hck,hf,Option.map_none,hset]
      ·refine ⟨rfl,_,_,World.putObj_heap_same hlt,by simp [h3],?_⟩
       intro i ki vi hkv
       rw[Array.getElem?_push,h3]
       rcases Nat.lt_trichotomy i es.length with hlt' | he | hgt
       ·rw[List.getElem?_append_left hlt']at hkv
        rw[if_neg (by omega)]
        exact h4 i ki vi hkv
       ·subst he
        simp at hkv
        obtain ⟨rfl,rfl⟩:=hkv;rw[if_pos rfl];exact ⟨_,rfl,rfl,hv⟩
       ·rw[List.getElem?_eq_none (by simp;omega)]at hkv;cases hkv
     ·cases hl
    ·cases hl
   ·cases hl
 ·cases hl
def strBytes (s:ByteArray):Array Value:=s.data.map fun b=>.int .u8 b.toNat
theorem gBytes (s:ByteArray):VRs φ (strBytes s) (strBytes s):=by
 intro i;unfold strBytes
 rw[Array.getElem?_map]
 cases s.data[i]? with
 | none=>exact .none
 | some b=>exact .some (.int _ _)
def lStrBytes (P:Program)(h:Hp)(src dst:TypeId)(s:ByteArray):Option (Value×Hp) :=
 match P.underlying src,P.underlying dst with
 | some .string,some (.slice e)=>match P.underlying e with
  | some (.int .u8)=>some (.slice (some ⟨h.bl.length,0,none⟩) s.size 1,h.push (.cells (strBytes s) false))
  | _=>none
 | _,_=>none
theorem lStrBytes_sound {h h':Hp}(hI:Inv K w0 φ h.bl w) {src dst:TypeId}{s:ByteArray}{v:Value}(hl:lStrBytes P h src dst s=some (v,h')):Loud P K w0 φ w (convert src dst (.string s)) v h'.bl:=by
 unfold lStrBytes at hl
 split at hl
 ·rename_i e hs hd
  split at hl
  ·rename_i he
   simp only[Option.some.injEq,Prod.mk.injEq]at hl;obtain ⟨rfl,rfl⟩:=hl
   obtain ⟨cap,hcap,hle⟩:∃cap,(Question.cut (.appendCap s.size 0 e) (w.tape w.drawn (.appendCap s.size 0 e)))=cap∧s.size≤cap:=⟨_,rfl,by simp only[Question.cut];exact Nat.le_add_right _ _⟩
   have hsz:(strBytes s).size=s.size:=by simp [strBytes]
   obtain ⟨C,hC⟩:∃C:Array Value,strBytes s++Array.replicate (cap-s.size) (.int .u8 0)=C:=⟨_,rfl⟩
   have hCs:C.size=cap:=by rw[← hC];simp [hsz];omega
   have hnew:((w.drew.alloc (.cells C e)).freeze ⟨w.heap.size,C.size,none⟩ 1).heap[w.heap.size]?=some (.cells C e (C.size,C.size+1)):=by
    have:=World.alloc_heap_new w.drew (.cells C e)
    simp only[World.freeze,Nat.one_ne_zero,if_false,Array.getElem?_modify]
    rw[show w.drew.heap.size=w.heap.size from rfl]at this
    rw[if_pos trivial,this];simp
   refine ⟨up φ h.bl.length (w.heap.size,0,cap),.slice (some ⟨w.heap.size,0,none⟩) s.size cap,(w.drew.alloc (.cells C e)).freeze ⟨w.heap.size,C.size,none⟩ 1,?_,hI.le_new _,.slice (up_same _ _ _) hle (by omega),?_⟩
   ·simp only[convert,Sem.run_bind,run_underlying hs,run_underlying hd,Result.andThen_ok,run_underlying he,Conv.stringToBytes,run_choose,Question.forced,Bool.false_eq_true,if_false,hcap]
    have hC':(s.data.map fun b=>Value.int .u8 b.toNat)++Array.replicate (cap-s.size) (.int .u8 0)=C:=hC
    simp only[hC',newRow,Sem.run_bind,run_newObj,Result.andThen_ok,Sem.run_pure,markStringish,run_shape,World.shape?,Array.getElem?_push_size,run_freeze]
    rfl
   ·have hI1:Inv K w0 (up φ h.bl.length (w.heap.size,0,cap)) (h.bl++[.cells (strBytes s) false]) (w.drew.alloc (.cells C e)) :=
     hI.drew.cells cap (fun i v hv=>by
      obtain ⟨v',h1,h2⟩:=vrs_some (gBytes (φ:=φ) s) hv
      refine ⟨v',?_,h2⟩
      rw[← hC,Array.getElem?_append_left (by rw[Array.getElem?_eq_some_iff]at hv;exact hv.1)];exact h1) (by omega) (by omega)
    have hfin:=hI1.write (b:=h.bl.length) (ob:=.cells (strBytes s) false) (ob':=.cells (strBytes s) false) (w':=(w.drew.alloc (.cells C e)).freeze ⟨w.heap.size,C.size,none⟩ 1) (by simp) rfl (up_same _ _ _)
     (fun k hk=>by simp only[World.freeze,Nat.one_ne_zero,if_false,Array.getElem?_modify];rw[if_neg (Ne.symm hk)]) (by simp [World.freeze]) rfl rfl rfl
     ⟨C,e,(C.size,C.size+1),hnew,fun i v hv=>by
       obtain ⟨v',h1,h2⟩:=vrs_some (gBytes (φ:=up φ h.bl.length (w.heap.size,0,cap)) s) hv
       refine ⟨v',?_,h2⟩
       rw[Nat.zero_add,← hC,Array.getElem?_append_left (by rw[Array.getElem?_eq_some_iff]at hv;exact hv.1)];exact h1,
       fun _=>⟨by omega,by omega,.inr (by simp only;omega)⟩⟩
    have hset:(h.bl++[Ob.cells (strBytes s) false]).set h.bl.length (Ob.cells (strBytes s) false)=h.bl++[Ob.cells (strBytes s) false]:=by
     simp
    rw[hset]at hfin;exact hfin
  ·cases hl
 ·cases hl
def lBytes (P:Program)(h:Hp)(src dst:TypeId)(x:Value):Option (Value×Hp) :=
 match x with
 | .string s=>lStrBytes P h src dst s
 | .slice (some ⟨b,off,none⟩) (n+1) sz =>
  match P.underlying src,P.underlying dst with
  | some (.slice _),some (.slice e)=>match P.underlying e,h.bl[b]? with
   | some (.int .u8),some (.cells _ false)=>if src == dst then some (.slice (some ⟨b,off,none⟩) (n+1) sz,h) else none
   | _,_=>none
  | _,_=>none
 | _=>none
theorem NF.mark {fr:Nat×Nat}{base tot m:Nat}(h:NF fr base tot) (hm:base+tot≤m) :
  NF (if fr.1 == fr.2 then (m,m+1) else (min fr.1 m,max fr.2 (m+1))) base tot:=by
 rcases h with h | h
 ·rw[if_pos (by simpa using h)];exact .inr hm
 ·split
  ·exact .inr hm
  ·exact .inr (by simp only;omega)
theorem mark_sound (hI:Inv K w0 φ H w) {b B base tot:Nat}{c:Array Value}(hb:H[b]?=some (.cells c false)) (hφ:φ b=some (B,base,tot)) (a:Nat) :
  ∃w',(markStringish ⟨B,a,none⟩).run P w=.ok () w'∧Inv K w0 φ H w':=by
 obtain ⟨B',base',tot',q1,C,el,fr,q2,q3,q4⟩:=hI.obs b _ hb rfl;rw[hφ]at q1;cases q1;obtain ⟨q4,q5,q6⟩:=q4 rfl
 refine ⟨w.freeze ⟨B,C.size,none⟩ 1,?_,?_⟩
 ·simp only[markStringish,Sem.run_bind,run_shape,World.shape?,q2,Result.andThen_ok,run_freeze]
 ·have hset:H.set b (.cells c false)=H:=by
   apply List.ext_getElem?
   intro i
   rw[List.getElem?_set]
   split
   ·rename_i e;subst e
    split
    ·exact hb.symm
    ·rename_i hn;rw[List.getElem?_eq_none (by omega)]at hb;cases hb
   ·rfl
  have hnew:(w.freeze ⟨B,C.size,none⟩ 1).heap[B]?=some (.cells C el (if fr.1 == fr.2 then (C.size,C.size+1) else (min fr.1 C.size,max fr.2 (C.size+1)))):=by
   simp only[World.freeze,Nat.one_ne_zero,if_false,Array.getElem?_modify]
   rw[if_pos trivial,q2];rfl
  have:=hI.write (ob':=.cells c false) (w':=w.freeze ⟨B,C.size,none⟩ 1) hb rfl hφ
   (fun k hk=>by simp only[World.freeze,Nat.one_ne_zero,if_false,Array.getElem?_modify];rw[if_neg (Ne.symm hk)]) (by simp [World.freeze]) rfl rfl rfl
   ⟨C,el,_,hnew,q3,fun _=>⟨q4,q5,q6.mark q5⟩⟩
  rw[hset]at this;exact this
theorem lBytes_sound {h h':Hp}(hI:Inv K w0 φ h.bl w) {src dst:TypeId} {x x' v:Value}(hl:lBytes P h src dst x=some (v,h')) (hx:VR φ x x'):Loud P K w0 φ w (convert src dst x') v h'.bl:=by
 unfold lBytes at hl
 split at hl
 ·rename_i s
  obtain rfl:x'=.string s:=gr_eq (v:=.string s) rfl hx;exact lStrBytes_sound hI hl
 ·rename_i b off n sz
  split at hl
  ·rename_i e0 e hs hd
   split at hl
   ·rename_i c he hc
    split at hl
    ·rename_i hsd
     simp only[Option.some.injEq,Prod.mk.injEq]at hl;obtain ⟨rfl,rfl⟩:=hl
     cases hx with
     | @slice _ _ _ _ cap' B base tot hφ hl1 hl2 =>
      obtain ⟨w',hr,hI'⟩:=mark_sound (P:=P) hI hc hφ (base+off)
      refine ⟨φ,_,w',?_,le_refl φ,.slice hφ hl1 hl2,hI'⟩
      simp only[convert,Sem.run_bind,run_underlying hs,run_underlying hd,Result.andThen_ok,run_underlying he,hsd,hr,Sem.run_pure]
    ·cases hl
   ·cases hl
  ·cases hl
 ·cases hl
end
def intB:TypeDesc→Bool
 | .int _=>true
 | _=>false
def lenB:Value→Option Nat
 | .slice _ n _=>some n
 | .func (.via 0 ⟨[]⟩ 0 true) _ ⟨[.slice (some ⟨_,_,none⟩) n _]⟩=>some n
 | .string s=>some s.size
 | _=>none
def newB (H:List Ob)(size n:Nat):Value→Option (Array Value)
 | .slice (some ⟨b,off,none⟩) _ _ =>
  match H[b]? with
  | some (.cells c _)=>if off+n*size≤c.size then some (c.extract off (off+n*size)) else none
  | _=>none
 | .func (.via 0 ⟨[]⟩ 0 true) c ⟨[.slice (some ⟨_,off,none⟩) _ _]⟩=>if off+n*size≤c.size then some (c.extract off (off+n*size)) else none
 | .string s=>some (strBytes (s.extract 0 n))
 | _=>none
def lAppend (P:Program)(h:Hp)(ts tx:TypeId)(s x:Value):Option (Value×Hp) :=
 match P.underlying ts,P.underlying tx with
 | some (.slice e),some d =>
  if intB d=true then none else
  match P.info? e,zeroB P e with
  | some inf,some z =>
   match s,lenB x with
   | .slice base sl sz,some n =>
    if n=0 then some (.slice base sl sz,h) else
    match newB h.bl inf.size n x with
    | some news =>
     if (sl+n)*inf.bytes≤140737488355328∧sl+n≤4611686018427387904∧news.size=n*inf.size∧news.toList.all (·.oneCell')=true∧z.cells.size=inf.size then
      match base with
      | none=>if sl=0 then some (.slice (some ⟨h.bl.length,0,none⟩) n inf.size,h.push (.cells news false)) else none
      | some ⟨b,off,none⟩ =>
       match h.bl[b]? with
       | some (.cells c false) =>
        if (sz=inf.size∧off+sl*inf.size≤c.size)∧off+sl*inf.size≤c.size then
         some (.slice (some ⟨h.bl.length,0,none⟩) (sl+n) inf.size,(h.put b .dead).push (.cells (c.extract off (off+sl*inf.size)++news) false))
        else none
       | _=>none
      | _=>none
     else none
    | none=>none
   | _,_=>none
  | _,_=>none
 | _,_=>none
section
variable {P:Program}{K:Nat→Prop}{w0 w:World} {φ:Phi}{H:List Ob}
theorem run_append_fits {ts tx ty e:TypeId}{d:TypeDesc}{inf:TypeInfo}{base:Option Addr}{sl cap n:Nat}{x:Value}{news:Array Value}(hs:P.underlying ts=some (.slice e)) (hx:P.underlying tx=some d) (hd:intB d=false) (hi:P.info? e=some inf)
  (hlen:(Builtin.lenOf x).run P w=.ok n w) (hnew:(Builtin.firstCells inf.size n x).run P w=.ok news w) (hfit:sl+n≤cap) :
  (Builtin.append_ #[ts,tx] ty #[.slice base sl cap,x]).run P w =
   ((match base with | some a=>storeCells (a.add (sl*inf.size)) news.toList | none=>pure ():Sem Unit).run P w).andThen fun _ w'=>.ok (.slice base (sl+n) cap) w':=by
 have hsz:(sizeOf e).run P w=.ok inf.size w:=run_size (by simp [sizeB,hi]) w
 cases d<;>first | cases hd | skip
 all_goals
  simp only[Builtin.append_,List.getElem?_toArray,List.getElem?_cons_zero,List.getElem?_cons_succ,Sem.run_bind,run_underlying hs,run_underlying hx,Result.andThen_ok,hsz,Sem.run_pure,Bool.false_eq_true,if_false,hlen,if_pos hfit,Bool.not_false,if_true,hnew]
  cases base<;>simp only[Sem.run_bind,Sem.run_pure,Result.andThen_ok]
theorem run_append_grows {ts tx ty e:TypeId}{d:TypeDesc}{inf:TypeInfo}{z:Value}{base:Option Addr}{sl cap n:Nat}{x:Value}{news old:Array Value}(hs:P.underlying ts=some (.slice e)) (hx:P.underlying tx=some d) (hd:intB d=false) (hi:P.info? e=some inf)
  (hz:∀w:World,(zeroValue e).run P w=.ok z w) (hlen:(Builtin.lenOf x).run P w=.ok n w) (hnew:(Builtin.firstCells inf.size n x).run P w.drew=.ok news w.drew) (hold:(Builtin.firstCells inf.size sl (.slice base sl cap)).run P w.drew=.ok old w.drew)
  (hfit:cap<sl+n) (hb:(sl+n)*inf.bytes≤140737488355328) (hsm:sl+n≤4611686018427387904) :
  ∃newCap,sl+n≤newCap∧(Builtin.append_ #[ts,tx] ty #[.slice base sl cap,x]).run P w =
   .ok (.slice (some ⟨w.heap.size,0,none⟩) (sl+n) newCap) (w.drew.alloc (.cells (old++news++Builtin.zeroCells z.cells (newCap-(sl+n))) e)):=by
 have hsz:∀w:World,(sizeOf e).run P w=.ok inf.size w:=run_size (by simp [sizeB,hi])
 have hti:∀w:World,(typeInfo e).run P w=.ok inf w:=fun w=>by simp [typeInfo,hi]
 have hg:=Builtin_growslice hfit hb
 refine ⟨_,cut_ge (sl+n) cap e (w.tape w.drawn (.appendCap (sl+n) cap e)),?_⟩
 have hmax:¬(((sl+n:Nat):Int) > IntKind.i64.max∧(False∨inf.bytes=0)):=by
  rintro ⟨h1,_⟩
  have:(IntKind.i64.max:Int)=9223372036854775807:=by decide
  omega
 cases d<;>first | cases hd | skip
 all_goals
  simp only[Builtin.append_,List.getElem?_toArray,List.getElem?_cons_zero,List.getElem?_cons_succ,Sem.run_bind,run_underlying hs,run_underlying hx,Result.andThen_ok,hsz,Sem.run_pure,Bool.false_eq_true,if_false,hlen,if_neg (show ¬sl+n≤cap by omega),Bool.not_false,if_true,hti,if_neg hmax,if_neg hg,
   run_choose,Question.forced,run_askRoom,newRow,run_newObj]
  rw[show ({ w with drawn:=w.drawn+1 }:World)=w.drew from rfl]
  simp only[hold,Result.andThen_ok,hnew,hz]
  rfl
where
 Builtin_growslice {sl n cap:Nat} {bytes:Nat} (h:cap<sl+n) (hb:(sl+n)*bytes≤140737488355328):¬Builtin.nextslicecap (sl+n) cap*bytes > 2 ^ 48:=by
  have:=growslice_fits h hb
  omega
 cut_ge (need old:Nat) (e:TypeId) (t:Nat):need≤Question.cut (.appendCap need old e) t:=by
  simp only[Question.cut];exact Nat.le_add_right _ _
theorem Inv.move (h:Inv K w0 φ H w) {b:Nat} {ob ob':Ob} {B base tot base' tot':Nat} {w':World}(hb:H[b]?=some ob) (hrw:ob.rw=true) (hφ:φ b=some (B,base,tot))
  (hw:∀k,k≠B→w'.heap[k]?=w.heap[k]?) (hsz:w'.heap.size=w.heap.size) (hos:w'.os=w.os) (htape:w'.tape=w.tape) (hout:w'.output=w.output)
  (hob:ObR (up φ H.length (B,base',tot')) w' ob' B base' tot'):Inv K w0 (up φ H.length (B,base',tot')) (H.set b .dead++[ob']) w':=by
 have hnone:φ H.length=none:=h.top _ (Nat.le_refl _);have hle:=le_up (x:=(B,base',tot')) hnone
 have hnew:∀{c:Nat} {o:Ob},(H.set b .dead++[ob'])[c]?=some o→o.live=true→(c<H.length∧c≠b∧H[c]?=some o)∨(c=H.length∧o=ob'):=by
  intro c o hc hl
  rcases Nat.lt_or_ge c H.length with hlt | hge
  ·rw[List.getElem?_append_left (by rw[List.length_set];exact hlt),List.getElem?_set]at hc
   split at hc
   ·split at hc
    ·simp at hc;subst hc;cases hl
    ·cases hc
   ·rename_i e;exact .inl ⟨hlt,fun h=>e h.symm,hc⟩
  ·rw[List.getElem?_append_right (by rw[List.length_set];exact hge),List.length_set]at hc
   rcases Nat.eq_or_lt_of_le hge with e | hlt
   ·subst e;simp at hc;exact .inr ⟨rfl,hc.symm⟩
   ·rw[List.getElem?_eq_none (by simp;omega)]at hc;cases hc
 have hne:∀{c:Nat} {o:Ob} {x:Nat×Nat×Nat},c≠b→H[c]?=some o→o.live=true→φ c=some x→x.1≠B :=
  fun hcb hc hl hx=>(h.sep b _ ob _ _ _ (Ne.symm hcb) hb hc hrw hl hφ hx).symm
 refine ⟨?_,?_,?_,?_,h.klt,by rw[hsz];exact h.size,hos.trans h.os,htape.trans h.tape,hout.trans h.output,?_,?_,?_,h.zk⟩
 ·intro c o hc hl
  rcases hnew hc hl with ⟨hlt,hcb,hc'⟩ | ⟨rfl,rfl⟩
  ·obtain ⟨B',base1,tot1,h1,h2⟩:=h.obs c o hc' hl
   exact ⟨B',base1,tot1,hle _ _ h1,h2.keep hle (hw B' (hne hcb hc' hl h1))⟩
  ·exact ⟨_,_,_,up_same _ _ _,hob⟩
 ·intro c c' o o' x y hcc hc hc' hrw' hl' hx hy
  rcases hnew hc (Ob.live_of_rw hrw') with ⟨hlt,hcb,hc1⟩ | ⟨rfl,rfl⟩
  ·rcases hnew hc' hl' with ⟨hlt',hcb',hc1'⟩ | ⟨rfl,rfl⟩
   ·rw[up_other _ _ (by omega)]at hx hy
    exact h.sep c c' o o' x y hcc hc1 hc1' hrw' hl' hx hy
   ·rw[up_same]at hy;cases hy
    rw[up_other _ _ (by omega)]at hx
    exact hne hcb hc1 (Ob.live_of_rw hrw') hx
  ·rcases hnew hc' hl' with ⟨hlt',hcb',hc1'⟩ | ⟨rfl,_⟩
   ·rw[up_same]at hx;cases hx
    rw[up_other _ _ (by omega)]at hy
    exact (hne hcb' hc1' hl' hy).symm
   ·exact absurd rfl hcc
 ·intro c o x hc hrw' hx
  rcases hnew hc (Ob.live_of_rw hrw') with ⟨hlt,hcb,hc1⟩ | ⟨rfl,rfl⟩
  ·rw[up_other _ _ (by omega)]at hx
   exact h.prot c o x hc1 hrw' hx
  ·rw[up_same]at hx;cases hx
   exact (h.prot b ob (B,base,tot) hb hrw hφ:¬K B)
 ·intro k hk
  have hkB:k≠B:=fun e=>h.prot b ob _ hb hrw hφ (e ▸ hk)
  exact (hw k hkB).trans (h.keep k hk)
 ·intro c hc
  simp at hc
  rw[up_other _ _ (by omega)]
  exact h.top c (by omega)
 ·intro k o hk
  have hkB:k≠B:=fun e=>by
   have:=h.zsep b ob _ hb hrw hφ;have hk':φ.z k=some o:=hk
   rw[e,show φ.z B=none from this]at hk';cases hk'
  exact (hw k hkB).trans (h.frz k o hk)
 ·intro c o x hc hrw' hx
  rcases hnew hc (Ob.live_of_rw hrw') with ⟨hlt,hcb,hc1⟩ | ⟨rfl,rfl⟩
  ·rw[up_other _ _ (by omega)]at hx
   exact h.zsep c o x hc1 hrw' hx
  ·rw[up_same]at hx;cases hx
   exact h.zsep b ob (B,base,tot) hb hrw hφ
theorem lenB_run {x x':Value}{n:Nat}(h:lenB x=some n) (hx:VR φ x x'):(Builtin.lenOf x').run P w=.ok n w:=by
 unfold lenB at h
 split at h
 ·simp only[Option.some.injEq]at h;subst h
  cases hx<;>rfl
 ·simp only[Option.some.injEq]at h;subst h
  cases hx with
  | fn hg=>cases hg
  | fz hf =>
   rcases hf.lst_inv with ⟨C,el,fr,cap',B,base,_,rfl,_⟩ | ⟨a',_,rfl,rfl⟩
   ·rfl
   ·rfl
 ·simp only[Option.some.injEq]at h;subst h
  cases hx;rfl
 ·cases h
theorem firstNone {x x':Value}(size:Nat) (hn:lenB x=some 0) (hx:VR φ x x'):(Builtin.firstCells size 0 x').run P w=.ok #[] w:=by
 have key:∀(a:Option Addr) (k:Nat),(Builtin.firstCells size 0 (.slice a 0 k)).run P w=.ok #[] w:=by
  intro a k
  cases a with
  | none=>rfl
  | some a=>simp only[Builtin.firstCells,Nat.zero_mul];rfl
 unfold lenB at hn
 split at hn
 ·simp only[Option.some.injEq]at hn;subst hn
  cases hx<;>exact key _ _
 ·simp only[Option.some.injEq]at hn;subst hn
  cases hx with
  | fn hg=>cases hg
  | fz hf =>
   rcases hf.lst_inv with ⟨C,el,fr,cap',B,base,_,rfl,_⟩ | ⟨a',_,_,rfl⟩
   ·exact key _ _
   ·exact key _ _
 ·cases hx
  simp only[Builtin.firstCells,Sem.run_pure]
  congr 1
  apply Array.ext_getElem?
  intro i
  simp_all
 ·cases hn
theorem newB_sound2 (hI:Inv K w0 φ H w) {x x':Value}{size n m:Nat}{news:Array Value}(h:newB H size n x=some news) (hn:lenB x=some m) (h0:m≠0) (hx:VR φ x x') :
  ∃news',(Builtin.firstCells size n x').run P w=.ok news' w∧VRs φ news news':=by
 unfold newB at h
 split at h
 ·rename_i b off m' sz
  simp only[lenB,Option.some.injEq]at hn;subst hn
  split at h
  ·rename_i c ro hc
   split at h
   ·rename_i hle
    simp only[Option.some.injEq]at h;subst h
    cases hx with
    | sliceZ=>exact absurd rfl h0
    | slice hφ _ _=>exact loadRow_sound hI hc hφ hle
   ·cases h
  ·cases h
 ·rename_i c b off m' sz
  simp only[lenB,Option.some.injEq]at hn;subst hn
  split at h
  ·rename_i hle
   simp only[Option.some.injEq]at h;subst h
   cases hx with
   | fn hg=>cases hg
   | fz hf =>
    rcases hf.lst_inv with ⟨C,el,fr,cap',B,base,_,rfl,hz,h1,h2,_,_⟩ | ⟨a',_,rfl,_⟩
    ·exact loadRow_core (hI.frz _ _ hz) (fr_cells h1 h2) hle
    ·exact absurd rfl h0
  ·cases h
 ·rename_i s
  simp only[Option.some.injEq]at h;subst h
  cases hx
  exact ⟨strBytes (s.extract 0 n),rfl,gBytes _⟩
 ·cases h
theorem newB_sound (hI:Inv K w0 φ H w) {x x':Value}{size n:Nat}{news:Array Value}(h:newB H size n x=some news) (hn:lenB x=some n) (h0:n≠0) (hx:VR φ x x') :
  ∃news',(Builtin.firstCells size n x').run P w=.ok news' w∧VRs φ news news':=newB_sound2 hI h hn h0 hx
theorem zeroCells_size (z:Array Value)(n:Nat):(Builtin.zeroCells z n).size=n*z.size:=by simp [Builtin.zeroCells]
theorem lAppend_sound {h h':Hp}(hI:Inv K w0 φ h.bl w) {ts tx ty:TypeId} {s s' x x' v:Value}(hl:lAppend P h ts tx s x=some (v,h')) (hs:VR φ s s') (hx:VR φ x x') :
  Loud P K w0 φ w (Builtin.append_ #[ts,tx] ty #[s',x']) v h'.bl:=by
 unfold lAppend at hl
 split at hl
 case h_2=>cases hl
 rename_i e d hus hux
 split at hl
 ·cases hl
 rename_i hd
 have hd':intB d=false:=by cases hdd:intB d<;>simp_all
 split at hl
 case h_2=>cases hl
 rename_i inf z hi hz;have hzr:=run_zero hz
 split at hl
 case h_2=>cases hl
 rename_i base sl sz n hn
 have hlen:∀w:World,(Builtin.lenOf x').run P w=.ok n w:=fun w=>lenB_run hn hx
 by_cases h0:n=0
 ·subst h0
  rw[if_pos rfl]at hl;simp only[Option.some.injEq,Prod.mk.injEq]at hl;obtain ⟨rfl,rfl⟩:=hl
  have key:∀(base':Option Addr) (cap':Nat),sl≤cap'→(Builtin.append_ #[ts,tx] ty #[.slice base' sl cap',x']).run P w=.ok (.slice base' sl cap') w:=by
   intro base' cap' hc
   rw[run_append_fits hus hux hd' hi (hlen w) (firstNone inf.size hn hx) (by omega)]
   cases base'<;>rfl
  cases hs with
  | sliceN=>exact ⟨φ,_,w,key _ _ (Nat.le_refl _),le_refl φ,.sliceN,hI⟩
  | sliceZ hφ a' c=>exact ⟨φ,_,w,key _ _ (Nat.le_refl _),le_refl φ,.sliceZ hφ _ _,hI⟩
  | slice hφ hl1 hc=>exact ⟨φ,_,w,key _ _ hl1,le_refl φ,.slice hφ hl1 hc,hI⟩
 ·rw[if_neg h0]at hl
  split at hl
  case h_2=>cases hl
  rename_i news hnew
  split at hl
  case isFalse=>cases hl
  rename_i hcond;obtain ⟨hb,hsm,hns,h1c,hzs⟩:=hcond
  split at hl
  ·
   split at hl
   case isFalse=>cases hl
   rename_i hsl;subst hsl;simp only[Option.some.injEq,Prod.mk.injEq]at hl;obtain ⟨rfl,rfl⟩:=hl
   cases hs
   obtain ⟨news',hnr,hnv⟩:=newB_sound (P:=P) hI.drew hnew hn h0 hx
   obtain ⟨newCap,hge,hrun⟩:=run_append_grows (P:=P) (w:=w) (ty:=ty) hus hux hd' hi (fun w=>(hzr w).1) (hlen w) hnr (old:=#[]) (base:=none) (sl:=0) (cap:=0) (by rfl) (by omega) hb hsm
   have hnsz:=hnv.size
   refine ⟨_,_,_,hrun,hI.le_new (w.heap.size,0,newCap*inf.size),?_,?_⟩
   ·rw[Nat.zero_add]
    refine .slice (up_same _ _ _) (by omega) (by omega)
   ·have hmul:n*inf.size≤newCap*inf.size:=Nat.mul_le_mul_right _ (by omega)
    refine hI.drew.cells (newCap*inf.size) (fun i v hv=>?_) (by omega) ?_
    ·obtain ⟨v',q1,q2⟩:=vrs_some hnv hv
     refine ⟨v',?_,q2⟩
     rw[Array.getElem?_append_left (by rw[Array.size_append];rw[Array.getElem?_eq_some_iff]at hv;have:=hv.1;simp;omega)]
     simpa using q1
    ·rw[Array.size_append,Array.size_append,zeroCells_size,hzs,← hnsz,hns]
     have:n*inf.size+(newCap-n)*inf.size=newCap*inf.size:=by rw[← Nat.add_mul];congr 1;omega
     simp;omega
  ·rename_i b off
   split at hl
   case h_2=>cases hl
   rename_i c hc
   split at hl
   case isFalse=>cases hl
   rename_i hcond2;obtain ⟨⟨hsz,hoff⟩,_⟩:=hcond2;subst hsz;simp only[Option.some.injEq,Prod.mk.injEq]at hl;obtain ⟨rfl,rfl⟩:=hl
   have hlen':(h.put b .dead).bl.length=h.bl.length:=by simp [Hp.put]
   have grows:∀(base':Option Addr) (cap':Nat) (old':Array Value),cap' < sl+n→(Builtin.firstCells inf.size sl (.slice base' sl cap')).run P w.drew=.ok old' w.drew→VRs φ (c.extract off (off+sl*inf.size)) old' →
     Loud P K w0 φ w (Builtin.append_ #[ts,tx] ty #[.slice base' sl cap',x']) (.slice (some ⟨h.bl.length,0,none⟩) (sl+n) inf.size) ((h.put b .dead).push (.cells (c.extract off (off+sl*inf.size)++news) false)).bl:=by
    intro base' cap' old' hlt hold hov;obtain ⟨news',hnr,hnv⟩:=newB_sound (P:=P) hI.drew hnew hn h0 hx
    obtain ⟨newCap,hge,hrun⟩:=run_append_grows (P:=P) (w:=w) (ty:=ty) hus hux hd' hi (fun w=>(hzr w).1) (hlen w) hnr hold hlt hb hsm
    have hnsz:=hnv.size;have hosz:=hov.size
    have hcs:(c.extract off (off+sl*inf.size)).size=sl*inf.size:=by rw[Array.size_extract];omega
    have hmul:(sl+n)*inf.size≤newCap*inf.size:=Nat.mul_le_mul_right _ (by omega)
    have hadd:(sl+n)*inf.size=sl*inf.size+n*inf.size:=Nat.add_mul _ _ _;have hI2:=hI.drew.forget b;have hbl:((h.put b .dead).push (.cells (c.extract off (off+sl*inf.size)++news) false)).bl=h.bl.set b .dead++[.cells (c.extract off (off+sl*inf.size)++news) false]:=rfl;have hnn:(h.bl.set b Ob.dead).length=h.bl.length:=List.length_set
    refine ⟨_,_,_,hrun,hI2.le_new (w.heap.size,0,newCap*inf.size),?_,?_⟩
    ·refine .slice (by rw[← hnn];exact up_same _ _ _) hge (by omega)
    ·rw[hbl]
     refine hI2.cells (newCap*inf.size) (fun i v hv=>?_) (by rw[Array.size_append];omega) ?_
     ·obtain ⟨v',q1,q2⟩:=vrs_some (hov.append hnv) hv
      refine ⟨v',?_,q2⟩
      rw[Array.getElem?_append_left (by rw[Array.getElem?_eq_some_iff]at q1;exact q1.1)]
      exact q1
     ·rw[Array.size_append,Array.size_append,zeroCells_size,hzs,← hnsz,← hosz,hns,hcs]
      have:(sl+n)*inf.size+(newCap-(sl+n))*inf.size=newCap*inf.size:=by rw[← Nat.add_mul];congr 1;omega
      omega
   cases hs with
   | sliceZ hφ a' c' =>
    refine grows (some a') 0 #[] (by omega) (by simp only[Builtin.firstCells,Nat.zero_mul];rfl) ?_
    intro i
    rw[Array.getElem?_extract,if_neg (by omega)]
    simp;exact .none
   | @slice _ _ _ _ cap' B base tot hφ hl1 hc1 =>
    by_cases hfit:sl+n≤cap'
    ·
     obtain ⟨news',hnr,hnv⟩:=newB_sound (P:=P) hI hnew hn h0 hx;obtain ⟨B',base1,tot1,q1,C,el,fr,q2,q3,q4⟩:=hI.obs b _ hc rfl;rw[hφ]at q1;cases q1;obtain ⟨q4,q5,q6⟩:=q4 rfl;have hnsz:=hnv.size;have hmul:(sl+n)*inf.size≤cap'*inf.size:=Nat.mul_le_mul_right _ hfit;have hadd:(sl+n)*inf.size=sl*inf.size+n*inf.size:=Nat.add_mul _ _ _
     have hnl:news'.toList.length=n*inf.size:=by rw[Array.length_toList,← hnsz,hns]
     obtain ⟨w',C',r1,r2,r3,r4,r5,r6,r7,r8,r9⟩:=run_storeCells (P:=P) (n:=base+off+sl*inf.size) news'.toList 0 w C q2 (by omega)
      (fun j g1 g2=>by have:=q6.at (j-base) (by omega);rwa [show base+(j-base)=j by omega]at this) (vrl_one hnv.toList h1c)
     have hcs:(c.extract off (off+sl*inf.size)).size=sl*inf.size:=by rw[Array.size_extract];omega
     refine ⟨_,.slice (some ⟨B,base+off,none⟩) (sl+n) cap',w',?_,hI.le_new (B,base+off,tot-off),?_,hI.move hc rfl hφ r5 r6 r7 r8 r9 ⟨C',el,fr,r2,?_,fun _=>⟨by rw[Array.size_append];omega,by omega,q6.imp id fun q6=>by omega⟩⟩⟩
     ·rw[run_append_fits hus hux hd' hi (hlen w) hnr hfit]
      simp only[add_none,r1,Result.andThen_ok]
     ·exact .slice (off:=0) (up_same _ _ _) hfit (by omega)
     ·intro i v hv
      rw[Array.getElem?_append,hcs]at hv
      rw[r4 (base+off+i)]
      split at hv
      ·rename_i hlt
       rw[if_neg (by omega)]
       rw[Array.getElem?_extract,if_pos (by omega)]at hv
       obtain ⟨v',g1,g2⟩:=q3 (off+i) v hv;rw[← Nat.add_assoc]at g1;exact ⟨v',g1,g2.mono (hI.le_new _)⟩
      ·rename_i hlt
       have hil:i-sl*inf.size<news.size:=by rw[Array.getElem?_eq_some_iff]at hv;exact hv.1
       rw[if_pos (by omega),show base+off+i-(base+off+sl*inf.size+0)=i-sl*inf.size by omega,Array.getElem?_toList]
       obtain ⟨v',g1,g2⟩:=vrs_some hnv hv;exact ⟨v',g1,g2.mono (hI.le_new _)⟩
    ·obtain ⟨old',ho1,ho2⟩:=loadRow_sound (P:=P) (n:=sl*inf.size) hI.drew hc hφ (by omega)
     exact grows _ cap' old' (by omega) (by simp only[Builtin.firstCells];exact ho1) ho2
  ·cases hl
end
theorem wrap64_small {x:Int}(h1:0≤x) (h2:x≤16777216):IntKind.i64.wrap x=x:=by
 unfold IntKind.wrap
 simp [IntKind.bits,IntKind.signed]
 split<;>omega
def lMakeSlice (P:Program)(h:Hp)(t:TypeId)(l c:Value):Option (Value×Hp) :=
 match l,c with
 | .int _ n,.int _ m =>
  match P.underlying t with
  | some (.slice e) =>
   match P.info? e,(if n.toNat*(((P.info? e).map (·.size)).getD 0)=0 then some (.agg #[]) else zeroB P e) with
   | some inf,some z =>
    if (n=m∧0≤n∧n≤16777216)∧n.toNat*inf.bytes≤140737488355328∧(zeroRow z.cells (n.toNat*inf.size)).toList.all g0=true then
     some (.slice (some ⟨h.bl.length,0,none⟩) n.toNat inf.size,h.push (.cells (zeroRow z.cells (n.toNat*inf.size)) false))
    else none
   | _,_=>none
  | _=>none
 | _,_=>none
def lCopy (P:Program)(h:Hp)(t:TypeId)(dst src:Value):Option (Value×Hp) :=
 match P.underlying t with
 | some (.slice e) =>
  match sizeB P e,dst,lenB src with
  | some size,.slice (some ⟨b,off,none⟩) dl _,some sl =>
   if Nat.min sl dl=0 then none else
   match h.bl[b]?,newB h.bl size (Nat.min sl dl) src with
   | some (.cells c false),some news =>
    if off+Nat.min sl dl*size≤c.size∧news.size=Nat.min sl dl*size∧news.toList.all (·.oneCell')=true then some (goInt (Nat.min sl dl),h.put b (.cells (wcells c off news.toList) false)) else none
   | _,_=>none
  | _,_,_=>none
 | _=>none
def lClear (P:Program)(h:Hp)(t:TypeId)(x:Value):Option Hp :=
 match P.underlying t with
 | some (.slice e) =>
  match zeroB P e,x with
  | some z,.slice (some ⟨b,off,none⟩) n _ =>
   if n=0 then none else
   match h.bl[b]? with
   | some (.cells c false) =>
    if off+n*z.cells.size≤c.size∧(Builtin.zeroCells z.cells n).toList.all g0=true∧(Builtin.zeroCells z.cells n).toList.all (·.oneCell')=true then
     some (h.put b (.cells (wcells c off (Builtin.zeroCells z.cells n).toList) false)) else none
   | _=>none
  | _,_=>none
 | _=>none
section
variable {P:Program}{K:Nat→Prop}{w0 w:World} {φ:Phi}{H:List Ob}
theorem lMakeSlice_run {h h':Hp}{t:TypeId}{l c v:Value}(hl:lMakeSlice P h t l c=some (v,h')) :
  ∃(cells:Array Value) (e:TypeId) (n m:Nat),v=.slice (some ⟨h.bl.length,0,none⟩) n m∧h'=h.push (.cells cells false)∧cells.size=n*m∧(∀φ:Phi,VRs φ cells cells) ∧
   ∀(φ:Phi) (l' c':Value) (w:World),VR φ l l'→VR φ c c'→(Instr.makeSlice t l' c').run P w=.ok (.slice (some ⟨w.heap.size,0,none⟩) n n) (w.alloc (.cells cells e)):=by
 unfold lMakeSlice at hl
 split at hl
 case h_2=>cases hl
 rename_i k n k' m
 split at hl
 case h_2=>cases hl
 rename_i e hu
 split at hl
 case h_2=>cases hl
 rename_i inf z hi hz
 split at hl
 case isFalse=>cases hl
 rename_i hcond;obtain ⟨⟨rfl,h0,h1⟩,h2,h3⟩:=hcond;simp only[Option.some.injEq,Prod.mk.injEq]at hl;obtain ⟨rfl,rfl⟩:=hl
 refine ⟨_,e,n.toNat,inf.size,rfl,rfl,by simp [zeroRow],fun φ=>gAll (fun _=>g0_refl) h3,fun φ l' c' w hv hc=>?_⟩
 cases hv
 cases hc
 have hti:(typeInfo e).run P w=.ok inf w:=by simp [typeInfo,hi]
 have hsz:(sizeOf e).run P w=.ok inf.size w:=run_size (by simp [sizeB,hi]) w
 have hw:IntKind.i64.wrap n=n:=wrap64_small h0 h1;have hnb:((n.toNat:Nat):Int)=n:=Int.toNat_of_nonneg h0
 have hbn:((inf.bytes:Nat):Int)*n≤140737488355328:=by
  rw[← hnb,Int.mul_comm,← Int.natCast_mul];exact Int.ofNat_le.2 h2
 have e48:(2:Int) ^ 48=281474976710656:=by rfl
 have htl:(decide (n<0)||decide (((inf.bytes:Nat):Int)*n > 2 ^ 48)||decide (n<0)||decide (n > n))=false:=by
  rw[Bool.or_eq_false_iff,Bool.or_eq_false_iff,Bool.or_eq_false_iff]
  refine ⟨⟨⟨decide_eq_false (by omega),decide_eq_false ?_⟩,decide_eq_false (by omega)⟩,decide_eq_false (by omega)⟩
  rw[e48]
  omega
 ·unfold zeroRow
  simp only[Instr.makeSlice,Sem.run_bind,run_underlying hu,Result.andThen_ok,asInt,asIntOf,Sem.run_pure,hti,hw]
  rw[if_neg (by rw[htl];simp)]
  simp only[Sem.run_bind,run_askRoom,Result.andThen_ok,hsz];rw[hi]at hz;simp only[Option.map_some,Option.getD_some]at hz
  by_cases h4:n.toNat*inf.size=0
  ·rw[if_pos h4]at hz
   simp only[Option.some.injEq]at hz;subst hz;rw[if_pos h4];simp only[Sem.run_bind,Sem.run_pure,Result.andThen_ok,newRow,run_newObj]
   rfl
  ·rw[if_neg h4]at hz
   rw[if_neg h4];simp only[Sem.run_bind,(run_zero hz w).1,Result.andThen_ok,Sem.run_pure,newRow,run_newObj]
   rfl
theorem lMakeSlice_sound {h h':Hp}(hI:Inv K w0 φ h.bl w) {t:TypeId} {l c l' c' v:Value}(hl:lMakeSlice P h t l c=some (v,h')) (hv:VR φ l l') (hc:VR φ c c'):Loud P K w0 φ w (Instr.makeSlice t l' c') v h'.bl:=by
 obtain ⟨cells,e,n,m,rfl,rfl,hsz,hcv,hrun⟩:=lMakeSlice_run hl
 exact ⟨_,.slice (some ⟨w.heap.size,0,none⟩) n n,_,hrun φ l' c' w hv hc,hI.le_new _,.slice (up_same _ _ _) (Nat.le_refl _) (by omega),hI.row (el:=e) (hcv φ)⟩
theorem lCopy_sound {h h':Hp}(hI:Inv K w0 φ h.bl w) {t tx ty:TypeId} {d d' s s' v:Value}(hl:lCopy P h t d s=some (v,h')) (hd:VR φ d d') (hs:VR φ s s'):∃w',(Builtin.copy_ #[t,tx] ty #[d',s']).run P w=.ok v w'∧gr v=true∧Inv K w0 φ h'.bl w':=by
 unfold lCopy at hl
 split at hl
 case h_2=>cases hl
 rename_i e hu
 split at hl
 case h_2=>cases hl
 rename_i size b off dl sz sl hn hlen
 split at hl
 ·cases hl
 rename_i hm
 split at hl
 case h_2=>cases hl
 rename_i c news hc hnew
 split at hl
 case isFalse=>cases hl
 rename_i hcond;obtain ⟨c1,c2,c3⟩:=hcond;simp only[Option.some.injEq,Prod.mk.injEq]at hl;obtain ⟨rfl,rfl⟩:=hl
 have hsl:sl≠0:=fun e0=>hm (by rw[e0];exact Nat.zero_min _)
 obtain ⟨news',q1,q2⟩:=newB_sound2 (P:=P) hI hnew hlen hsl hs
 cases hd with
 | sliceZ=>exact absurd (Nat.min_zero _) hm
 | @slice _ _ _ _ cap' B base tot hφ hl1 hc1 =>
  obtain ⟨w',r1,r2⟩:=write_sound (P:=P) (off:=off) hI hc hφ q2.toList c3 (by rw[Array.length_toList];omega)
  refine ⟨w',?_,rfl,r2⟩
  have hlr:(Builtin.lenOf s').run P w=.ok sl w:=lenB_run hlen hs
  simp only[Builtin.copy_,List.getElem?_toArray,List.getElem?_cons_zero,List.getElem?_cons_succ,Sem.run_bind,run_underlying hu,Result.andThen_ok,hlr,run_size hn,q1,r1,Sem.run_pure]
theorem lClear_sound {h h':Hp}(hI:Inv K w0 φ h.bl w) {t ty:TypeId} {x x':Value}(hl:lClear P h t x=some h') (hx:VR φ x x'):∃w',(Builtin.clear_ #[t] ty #[x']).run P w=.ok (.tuple #[]) w'∧Inv K w0 φ h'.bl w':=by
 unfold lClear at hl
 split at hl
 case h_2=>cases hl
 rename_i e hu
 split at hl
 case h_2=>cases hl
 rename_i z b off n sz hz
 split at hl
 ·cases hl
 rename_i hn
 split at hl
 case h_2=>cases hl
 rename_i c hc
 split at hl
 case isFalse=>cases hl
 rename_i hcond;obtain ⟨c1,c2,c3⟩:=hcond;simp only[Option.some.injEq]at hl;subst hl
 cases hx with
 | sliceZ=>exact absurd rfl hn
 | @slice _ _ _ _ cap' B base tot hφ hl1 hc1 =>
  have hv:VRs φ (Builtin.zeroCells z.cells n) (Builtin.zeroCells z.cells n):=gAll (fun _=>g0_refl) c2
  obtain ⟨w',r1,r2⟩:=write_sound (P:=P) (off:=off) hI hc hφ hv.toList c3 (by rw[Array.length_toList,zeroCells_size];omega)
  refine ⟨w',?_,r2⟩
  cases n with
  | zero=>exact absurd rfl hn
  | succ n =>
   simp only[Builtin.clear_,List.getElem?_toArray,List.getElem?_cons_zero,Sem.run_bind,run_underlying hu,Result.andThen_ok,(run_zero hz w).1,r1,Sem.run_pure]
end
inductive Nx where
 | val (v:Value) (h:Hp)
 | enter (f:FuncId) (args:Array Value)
 | yield (l:Nat) (args:Array Value)
 | defer (d:Deferred)
 | panic (v:Value)
 | recover
def bodied (P:Program)(f:FuncId):Bool :=
 match P.funcs[f]? with
 | some fn=>fn.body.isSome
 | none=>false
def aloud (P:Program) (ρ:Operand→Value)(h:Hp)(o:Oper):Option Nx :=
 match o.op with
 | .alloc t=>(lAlloc P h t).map fun (v,h')=>.val v h'
 | .box _ x=>if okO x&&notT (ρ x) then some (.val (lBox h (ρ x)).1 (lBox h (ρ x)).2) else none
 | .buildSlice t len ps=>if ps.toList.all (fun x=>okO x.2&&notT (ρ x.2)) then (lBuildSlice P h t len (ps.toList.map fun (i,x)=>(i,ρ x))).map fun (v,h')=>.val v h' else none
 | .store t a x=>if okO a&&okO x then (lStore P h t (ρ a) (ρ x)).map fun h'=>.val undef h' else none
 | .convert src dst x=>if okO x then (lBytes P h src dst (ρ x)).map fun (v,h')=>.val v h' else none
 | .makeMap _ r=>if r.isNone then some (.val (lMakeMap h).1 (lMakeMap h).2) else none
 | .mapUpdate t m k x | .insert t m k x=>if okO m&&okO k&&okO x then (lMapUpdate P h t (ρ k) (ρ x) (ρ m)).map fun h'=>.val undef h' else none
 | .call { callee:=.builtin .append,args,argTypes } =>
  match args.toList,argTypes.toList with
  | [s,x],[ts,tx]=>if okO s&&okO x then (lAppend P h ts tx (ρ s) (ρ x)).map fun (v,h')=>.val v h' else none
  | _,_=>none
 | .call { callee:=.builtin .recover,.. }=>some .recover
 | .call { callee:=.builtin .copy,args,argTypes } =>
  match args.toList,argTypes.toList with
  | [d,s],[t,_]=>if okO d&&okO s then (lCopy P h t (ρ d) (ρ s)).map fun (v,h')=>.val v h' else none
  | _,_=>none
 | .call { callee:=.builtin .clear,args,argTypes } =>
  match args.toList,argTypes.toList with
  | [x],[t]=>if okO x then (lClear P h t (ρ x)).map fun h'=>.val undef h' else none
  | _,_=>none
 | .call { callee:=.value f,args,.. } =>
  if okO f&&args.toList.all okO then
   match ρ f with
   | .func (.func g) first cap=>if bodied P g then some (.enter g (first++args.map ρ++cap)) else none
   | .func (.yield l) first _=>if first.isEmpty then some (.yield l (args.map ρ)) else none
   | _=>none
  else none
 | .defer { callee:=.value f,args,.. } =>
  if okO f&&args.toList.all okO then
   match ρ f with
   | .func (.func g) first cap=>if bodied P g then some (.defer { target:=.fn (.func g) cap,args:=first++args.map ρ }) else none
   | _=>none
  else none
 | .panic x=>if okO x then (match ρ x with | .iface t v=>some (.panic (.iface t v)) | _=>none) else none
 | .makeSlice t l c=>if okO l&&okO c then (lMakeSlice P h t (ρ l) (ρ c)).map fun (v,h')=>.val v h' else none
 | _=>none
def aop (P:Program) (ρ:Operand→Value)(h:Hp)(o:Oper):Option Nx :=
 match aread P ρ h.bl o with
 | some v=>some (.val v h)
 | none=>aloud P ρ h o
structure Pres (h h':Hp):Prop where
 base:h'.base=h.base
 len:h.bl.length≤h'.bl.length
 same:∀b:Nat,b<h.base→b ∉ h'.wr→b ∉ h.wr∧h'.bl[b]?=h.bl[b]?
 ro:∀(b:Nat) (ob:Ob),h'.bl[b]?=some ob→ob.live=true→ob.rw=false→h.bl[b]?=some ob
theorem Pres.refl (h:Hp):Pres h h:=⟨rfl,Nat.le_refl _,fun _ _ hn=>⟨hn,rfl⟩,fun _ _ h _ _=>h⟩
theorem Pres.trans {a b c:Hp}(h:Pres a b) (k:Pres b c):Pres a c :=
 ⟨k.base.trans h.base,Nat.le_trans h.len k.len,fun x hx hn=>by
   obtain ⟨h1,h2⟩:=k.same x (by rw[h.base];exact hx) hn
   obtain ⟨h3,h4⟩:=h.same x hx h1
   exact ⟨h3,h2.trans h4⟩,fun x ob hx hl hr=>h.ro x ob (k.ro x ob hx hl hr) hl hr⟩
theorem Pres.push (h:Hp)(ob:Ob)(hb:h.base≤h.bl.length)(hrw:(ob.live&&!ob.rw)=false:=by rfl):Pres h (h.push ob) :=
 ⟨rfl,by simp [Hp.push],fun b hlt hn=>⟨hn,by simp only[Hp.push];rw[List.getElem?_append_left (by omega)]⟩,fun b ob' hx hl hr=>by
   simp only[Hp.push]at hx
   rcases Nat.lt_or_ge b h.bl.length with hlt | hge
   ·rw[List.getElem?_append_left hlt]at hx;exact hx
   ·rw[List.getElem?_append_right hge]at hx
    rcases Nat.eq_or_lt_of_le hge with e | hlt
    ·subst e;simp at hx;subst hx;rw[hl,hr]at hrw;cases hrw
    ·rw[List.getElem?_eq_none (by simp;omega)]at hx;cases hx⟩
theorem Pres.put (h:Hp)(b:Nat)(ob:Ob)(hrw:(ob.live&&!ob.rw)=false:=by rfl):Pres h (h.put b ob) :=
 ⟨rfl,by simp [Hp.put],fun c hlt hn=>by
   simp only[Hp.put]at hn ⊢
   by_cases e:c=b
   ·subst e;rw[if_pos hlt]at hn;simp at hn
   ·refine ⟨?_,by rw[List.getElem?_set,if_neg (Ne.symm e)]⟩
    split at hn
    ·simp at hn;exact hn.2
    ·exact hn,fun c ob' hx hl hr=>by
   simp only[Hp.put]at hx
   rw[List.getElem?_set]at hx
   split at hx
   ·split at hx
    ·simp only[Option.some.injEq]at hx;subst hx;rw[hl,hr]at hrw;cases hrw
    ·cases hx
   ·exact hx⟩
def DR (φ:Phi) (d d':Deferred):Prop :=
 (∃g cap cap',d.target=.fn (.func g) cap∧d'.target=.fn (.func g) cap'∧VRs φ cap cap'∧VRs φ d.args d'.args) ∨
 (∃r B t,d.target=.collected r∧d'.target=.collected B∧φ r=some (B,0,t))
theorem DR.mono {φ ψ:Phi}(hle:le φ ψ) {d d':Deferred}(h:DR φ d d'):DR ψ d d':=by
 rcases h with ⟨g,cap,cap',h1,h2,h3,h4⟩ | ⟨r,B,t,h1,h2,h3⟩
 ·exact .inl ⟨g,cap,cap',h1,h2,h3.mono hle,h4.mono hle⟩
 ·exact .inr ⟨r,B,t,h1,h2,hle _ _ h3⟩
def NoNG (P : Program) : Prop:=∀ (f : FuncId) (fn : Func),P.funcs[f]? = some fn → fn.body.isSome = true → (fn.name == "runtime.NumGoroutine") = false
section
variable {P:Program}{K:Nat→Prop}{w0 w:World} {φ:Phi} {ρ ρ':Operand→Value}
def NxR (P:Program)(K:Nat→Prop)(w0:World) (φ:Phi)(w:World)(h:Hp)(s:Sem Next):Nx→Prop
 | .val v h'=>Pres h h'∧∃φ' v' w',(s.run P w=.ok (.value v') w'∨(s.run P w=.ok .skip w'∧v'=undef))∧le φ φ'∧VR φ' v v'∧Inv K w0 φ' h'.bl w'
 | .enter f args=>bodied P f=true∧∃args',s.run P w=.ok (.enter f args') w∧VRs φ args args'
 | .yield l args=>∃B t args',φ l=some (B,0,t)∧s.run P w=(Instr.yield B args').run P w∧VRs φ args args'
 | .defer d=>∃d',s.run P w=.ok (.defer d') w∧DR φ d d'
 | .panic v=>∃v',s.run P w=.halt (.panic v') w∧VR φ v v'
 | .recover=>s.run P w=.ok .recover w
theorem nx_loud {h h':Hp}{s:Sem Value}{v:Value}(hp:Pres h h') (hl:Loud P K w0 φ w s v h'.bl):NxR P K w0 φ w h (do pure (.value (← s))) (.val v h'):=by
 obtain ⟨φ',v',w',hr,hle,hv,hI⟩:=hl
 exact ⟨hp,φ',v',w',.inl (by simp only[Sem.run_bind,hr,Result.andThen_ok,Sem.run_pure]),hle,hv,hI⟩
theorem nx_skip {h h':Hp}{s:Sem Unit} {w':World}(hp:Pres h h') (hr:s.run P w=.ok () w') (hI:Inv K w0 φ h'.bl w'):NxR P K w0 φ w h (do s;pure .skip) (.val undef h') :=
 ⟨hp,φ,undef,w',.inr ⟨by simp only[Sem.run_bind,hr,Result.andThen_ok,Sem.run_pure],rfl⟩,le_refl φ,VR.undef φ,hI⟩
theorem lAlloc_pres {h h':Hp}{t:TypeId}{v:Value}(hb:h.base≤h.bl.length) (hl:lAlloc P h t=some (v,h')):Pres h h':=by
 unfold lAlloc at hl
 split at hl
 ·simp only[Option.some.injEq,Prod.mk.injEq]at hl;rw[← hl.2];exact Pres.push h _ hb
 ·cases hl
theorem lBuildSlice_pres {h h':Hp}{t:TypeId}{len:Nat}{ps:List (Nat×Value)}{v:Value}(hb:h.base≤h.bl.length) (hl:lBuildSlice P h t len ps=some (v,h')):Pres h h':=by
 unfold lBuildSlice at hl
 repeat' (split at hl)
 all_goals first | cases hl;done | (simp only[Option.some.injEq,Prod.mk.injEq]at hl;rw[← hl.2];exact Pres.push h _ hb)
theorem lStrBytes_pres {h h':Hp}{src dst:TypeId}{s:ByteArray}{v:Value}(hb:h.base≤h.bl.length) (hl:lStrBytes P h src dst s=some (v,h')):Pres h h':=by
 unfold lStrBytes at hl
 repeat' (split at hl)
 all_goals first | cases hl;done | (simp only[Option.some.injEq,Prod.mk.injEq]at hl;rw[← hl.2];exact Pres.push h _ hb)
theorem lBytes_pres {h h':Hp}{src dst:TypeId}{x v:Value}(hb:h.base≤h.bl.length) (hl:lBytes P h src dst x=some (v,h')):Pres h h':=by
 unfold lBytes at hl
 split at hl
 ·exact lStrBytes_pres hb hl
 ·repeat' (split at hl)
  all_goals first | cases hl;done | (simp only[Option.some.injEq,Prod.mk.injEq]at hl;rw[← hl.2];exact Pres.refl h)
 ·cases hl
theorem lStore_pres {h h':Hp}{t:TypeId}{x v:Value}(hl:lStore P h t x v=some h'):Pres h h':=by
 unfold lStore at hl
 repeat' (split at hl)
 all_goals first | cases hl;done | (simp only[Option.some.injEq]at hl;rw[← hl];exact Pres.put h _ _)
theorem lMapUpdate_pres {h h':Hp}{t:TypeId}{k v x:Value}(hl:lMapUpdate P h t k v x=some h'):Pres h h':=by
 unfold lMapUpdate at hl
 repeat' (split at hl)
 all_goals first | cases hl;done | (simp only[Option.some.injEq]at hl;rw[← hl];exact Pres.put h _ _)
theorem lAppend_pres {h h':Hp}{ts tx:TypeId}{s x v:Value}(hb:h.base≤h.bl.length) (hl:lAppend P h ts tx s x=some (v,h')):Pres h h':=by
 unfold lAppend at hl
 repeat' (split at hl)
 all_goals first
  | cases hl;done
  | (simp only[Option.some.injEq,Prod.mk.injEq]at hl;rw[← hl.2];exact Pres.refl h)
  | (simp only[Option.some.injEq,Prod.mk.injEq]at hl;rw[← hl.2];exact Pres.push h _ hb)
  | (simp only[Option.some.injEq,Prod.mk.injEq]at hl;rw[← hl.2];exact (Pres.put h _ _).trans (Pres.push _ _ (by simp [Hp.put];exact hb)))
theorem lMakeSlice_pres {h h':Hp}{t:TypeId}{l c v:Value}(hb:h.base≤h.bl.length) (hl:lMakeSlice P h t l c=some (v,h')):Pres h h':=by
 unfold lMakeSlice at hl
 repeat' (split at hl)
 all_goals first | cases hl;done | (simp only[Option.some.injEq,Prod.mk.injEq]at hl;rw[← hl.2];exact Pres.push h _ hb)
theorem lCopy_pres {h h':Hp}{t:TypeId}{d s v:Value}(hl:lCopy P h t d s=some (v,h')):Pres h h':=by
 unfold lCopy at hl
 repeat' (split at hl)
 all_goals first | cases hl;done | (simp only[Option.some.injEq,Prod.mk.injEq]at hl;rw[← hl.2];exact Pres.put h _ _)
theorem lClear_pres {h h':Hp}{t:TypeId}{x:Value}(hl:lClear P h t x=some h'):Pres h h':=by
 unfold lClear at hl
 repeat' (split at hl)
 all_goals first | cases hl;done | (simp only[Option.some.injEq]at hl;rw[← hl];exact Pres.put h _ _)
theorem run_callFunc {f:FuncId}{args:Array Value}(hN:NoNG P) (hb:bodied P f=true):(callFunc f args).run P w=.ok (.enter f args) w:=by
 unfold bodied at hb
 cases hf:P.funcs[f]? with
 | none=>rw[hf]at hb;cases hb
 | some fn =>
  rw[hf]at hb;simp only[callFunc,Sem.run_bind,run_program,Result.andThen_ok,hf,hN f fn hf hb,Bool.false_eq_true,if_false]
  have:fn.body.isNone=false:=by cases h:fn.body<;>simp_all
  simp only[this,Bool.false_eq_true,if_false,Sem.run_pure]
theorem aloud_sound {h:Hp}{o:Oper}{nx:Nx}(hN:NoNG P) (hb:h.base≤h.bl.length) (hI:Inv K w0 φ h.bl w) (hρ:Evs φ ρ ρ') (ha:aloud P ρ h o=some nx):NxR P K w0 φ w h (execOp ρ' o) nx:=by
 unfold aloud at ha
 split at ha
 case h_1 t ho =>
  rw[Option.map_eq_some_iff]at ha;obtain ⟨⟨v,h'⟩,hl,rfl⟩:=ha;simp only[execOp,ho];exact nx_loud (lAlloc_pres hb hl) (lAlloc_sound hI hl)
 case h_2 t x ho =>
  split at ha
  ·rename_i hx
   rw[Bool.and_eq_true]at hx;simp only[Option.some.injEq]at ha;subst ha;simp only[execOp,ho];exact nx_loud (Pres.push h _ hb) (alloc_sound hI t (hρ x hx.1) hx.2)
  ·cases ha
 case h_3 t len ps ho =>
  split at ha
  ·rename_i hx
   rw[Option.map_eq_some_iff]at ha;obtain ⟨⟨v,h'⟩,hl,rfl⟩:=ha;simp only[execOp,ho]
   have e:∀f:Operand→Value,(ps.map fun (i,x)=>(i,f x)).toList=ps.toList.map fun (i,x)=>(i,f x):=fun f=>by simp
   exact nx_loud (lBuildSlice_pres hb hl) (lBuildSlice_sound hI (parts:=ps.map fun (i,x)=>(i,ρ x)) (by rw[e];exact hl) (by rw[e,e];exact parts_of hρ hx))
  ·cases ha
 case h_4 t a x ho =>
  split at ha
  ·rename_i hx
   simp only[Bool.and_eq_true]at hx;rw[Option.map_eq_some_iff]at ha;obtain ⟨h',hl,rfl⟩:=ha;obtain ⟨w',hr,hI'⟩:=lStore_sound hI hl (hρ a hx.1) (hρ x hx.2);simp only[execOp,ho];exact nx_skip (lStore_pres hl) hr hI'
  ·cases ha
 case h_5 src dst x ho =>
  split at ha
  ·rename_i hx
   rw[Option.map_eq_some_iff]at ha;obtain ⟨⟨v,h'⟩,hl,rfl⟩:=ha;simp only[execOp,ho];exact nx_loud (lBytes_pres hb hl) (lBytes_sound hI hl (hρ x hx))
  ·cases ha
 case h_6 t r ho =>
  split at ha
  ·rename_i hr
   obtain rfl:r=none:=by cases r<;>first | rfl | cases hr
   simp only[Option.some.injEq]at ha;subst ha;simp only[execOp,ho];exact nx_loud (Pres.push h _ hb) (lMakeMap_sound hI t)
  ·cases ha
 case h_7 t m k x ho =>
  split at ha
  ·rename_i hx
   simp only[Bool.and_eq_true]at hx;rw[Option.map_eq_some_iff]at ha;obtain ⟨h',hl,rfl⟩:=ha;obtain ⟨w',hr,hI'⟩:=lMapUpdate_sound hI hl (hρ m hx.1.1) (hρ k hx.1.2) (hρ x hx.2);simp only[execOp,ho];exact nx_skip (lMapUpdate_pres hl) hr hI'
  ·cases ha
 case h_8 t m k x ho =>
  split at ha
  ·rename_i hx
   simp only[Bool.and_eq_true]at hx;rw[Option.map_eq_some_iff]at ha;obtain ⟨h',hl,rfl⟩:=ha;obtain ⟨w',hr,hI'⟩:=lMapUpdate_sound hI hl (hρ m hx.1.1) (hρ k hx.1.2) (hρ x hx.2);simp only[execOp,ho];exact nx_skip (lMapUpdate_pres hl) hr hI'
  ·cases ha
 case h_9 args argTypes ho =>
  split at ha
  ·rename_i s x ts tx h1 h2
   obtain rfl:args=#[s,x]:=by cases args;simp_all
   obtain rfl:argTypes=#[ts,tx]:=by cases argTypes;simp_all
   split at ha
   ·rename_i hx
    simp only[Bool.and_eq_true]at hx;rw[Option.map_eq_some_iff]at ha;obtain ⟨⟨v,h'⟩,hl,rfl⟩:=ha
    have e:Array.map ρ' #[s,x]=#[ρ' s,ρ' x]:=by simp
    have:=nx_loud (lAppend_pres hb hl) (lAppend_sound (ty:=o.type) hI hl (hρ s hx.1) (hρ x hx.2));simp only[execOp,ho,resolve,e];exact this
   ·cases ha
  ·cases ha
 case h_10 ho =>
  simp only[Option.some.injEq]at ha;subst ha;simp only[execOp,ho]
  rfl
 case h_11 args argTypes ho =>
  split at ha
  ·rename_i d s t tx h1 h2
   obtain rfl:args=#[d,s]:=by cases args;simp_all
   obtain rfl:argTypes=#[t,tx]:=by cases argTypes;simp_all
   split at ha
   ·rename_i hx
    simp only[Bool.and_eq_true]at hx;rw[Option.map_eq_some_iff]at ha;obtain ⟨⟨v,h'⟩,hl,rfl⟩:=ha
    have e:Array.map ρ' #[d,s]=#[ρ' d,ρ' s]:=by simp
    obtain ⟨w',hr,hg,hI'⟩:=lCopy_sound (tx:=tx) (ty:=o.type) hI hl (hρ d hx.1) (hρ s hx.2);have:=nx_loud (lCopy_pres hl) ⟨φ,v,w',hr,le_refl φ,gr_refl hg,hI'⟩;simp only[execOp,ho,resolve,e];exact this
   ·cases ha
  ·cases ha
 case h_12 args argTypes ho =>
  split at ha
  ·rename_i x t h1 h2
   obtain rfl:args=#[x]:=by cases args;simp_all
   obtain rfl:argTypes=#[t]:=by cases argTypes;simp_all
   split at ha
   ·rename_i hx
    rw[Option.map_eq_some_iff]at ha;obtain ⟨h',hl,rfl⟩:=ha
    have e:Array.map ρ' #[x]=#[ρ' x]:=by simp
    obtain ⟨w',hr,hI'⟩:=lClear_sound (ty:=o.type) hI hl (hρ x hx);have:=nx_loud (lClear_pres hl) ⟨φ,_,w',hr,le_refl φ,VR.undef φ,hI'⟩;simp only[execOp,ho,resolve,e];exact this
   ·cases ha
  ·cases ha
 case h_13 f args argTypes ho =>
  split at ha
  ·rename_i hx
   simp only[Bool.and_eq_true]at hx;have hfv:=hρ f hx.1;have hargs:=vrs_map hρ hx.2
   split at ha
   ·rename_i g first cap hf
    split at ha
    ·rename_i hbd
     simp only[Option.some.injEq]at ha;subst ha;rw[hf]at hfv
     generalize hf':ρ' f=f' at hfv
     cases hfv with
     | @fn _ _ first' _ cap' hg h1 h2 h3 h4 =>
      refine ⟨hbd,first'++args.map ρ'++cap',?_,((VRs.of h1 h2).append hargs).append (VRs.of h3 h4)⟩
      simp only[execOp,ho,resolve,hf',Deferred.ofValue,Sem.run_bind,Sem.run_pure,Result.andThen_ok,invoke,run_callFunc hN hbd]
    ·cases ha
   ·rename_i l first cap hf
    split at ha
    ·rename_i he
     simp only[Option.some.injEq]at ha;subst ha;rw[hf]at hfv
     generalize hf':ρ' f=f' at hfv
     cases hfv with
     | fn hg=>cases hg
     | @yield _ B t hφ =>
      refine ⟨B,t,args.map ρ',hφ,?_,hargs⟩
      simp only[execOp,ho,resolve,hf',Deferred.ofValue,Sem.run_bind,Sem.run_pure,Result.andThen_ok,invoke,Array.empty_append]
    ·cases ha
   ·cases ha
  ·cases ha
 case h_14 f args argTypes ho =>
  split at ha
  ·rename_i hx
   simp only[Bool.and_eq_true]at hx;have hfv:=hρ f hx.1;have hargs:=vrs_map hρ hx.2
   split at ha
   ·rename_i g first cap hf
    split at ha
    ·simp only[Option.some.injEq]at ha;subst ha
     rw[hf]at hfv
     generalize hf':ρ' f=f' at hfv
     cases hfv with
     | @fn _ _ first' _ cap' hg h1 h2 h3 h4 =>
      refine ⟨{ target:=.fn (.func g) cap',args:=first'++args.map ρ' },?_,.inl ⟨g,cap,cap',rfl,rfl,VRs.of h3 h4,(VRs.of h1 h2).append hargs⟩⟩
      simp only[execOp,ho,resolve,hf',Deferred.ofValue,Sem.run_bind,Sem.run_pure,Result.andThen_ok]
    ·cases ha
   ·cases ha
  ·cases ha
 case h_15 x ho =>
  split at ha
  ·rename_i hx
   split at ha
   ·rename_i t v hv
    simp only[Option.some.injEq]at ha;subst ha;have hxv:=hρ x hx;rw[hv]at hxv
    generalize hx':ρ' x=x' at hxv
    cases hxv with
    | iface _ hvv =>
     refine ⟨_,?_,.iface t hvv⟩
     simp only[execOp,ho,hx',Instr.panic,Sem.run_bind,run_goPanic,Result.andThen_halt]
   ·cases ha
  ·cases ha
 case h_16 t l c ho =>
  split at ha
  ·rename_i hx
   simp only[Bool.and_eq_true]at hx;rw[Option.map_eq_some_iff]at ha;obtain ⟨⟨v,h'⟩,hl,rfl⟩:=ha;simp only[execOp,ho];exact nx_loud (lMakeSlice_pres hb hl) (lMakeSlice_sound hI hl (hρ l hx.1) (hρ c hx.2))
  ·cases ha
 case h_17=>cases ha
theorem aop_sound {h:Hp}{o:Oper}{nx:Nx}(hN:NoNG P) (hb:h.base≤h.bl.length) (hI:Inv K w0 φ h.bl w) (hρ:Evs φ ρ ρ') (ha:aop P ρ h o=some nx):NxR P K w0 φ w h (execOp ρ' o) nx:=by
 unfold aop at ha
 split at ha
 ·rename_i v hv
  simp only[Option.some.injEq]at ha;subst ha;obtain ⟨v',hr,hvv⟩:=aread_sound hI hρ hv;exact ⟨Pres.refl h,φ,v',w,.inl hr,le_refl φ,hvv,hI⟩
 ·exact aloud_sound hN hb hI hρ ha
end
def sc0 (n:Nat):Value→Bool
 | .pointer (some a)=>decide (a.block<n)
 | .slice (some a) _ _=>decide (a.block<n)
 | .map (some r)=>decide (r<n)
 | .func (.via 0 ⟨[]⟩ 0 _) _ _=>true
 | v=>g0 v
def scB (n:Nat):Value→Bool
 | .agg cs=>cs.toList.all (sc0 n)
 | v=>sc0 n v
def sc1 (n:Nat):Value→Bool
 | .iface _ v=>gA v
 | .func (.yield l) _ _=>decide (l<n)
 | .func (.via 0 ⟨[]⟩ 0 _) _ _=>true
 | .func _ first cap=>first.toList.all (scB n)&&cap.toList.all (scB n)
 | v=>sc0 n v
def scA (n:Nat):Value→Bool
 | .agg cs=>cs.toList.all (sc1 n)
 | v=>sc1 n v
def scT (n:Nat):Value→Bool
 | .tuple vs=>vs.toList.all (scA n)
 | v=>scA n v
def cut (φ:Phi)(n:Nat):Phi:=⟨fun b=>if b<n then φ b else none,φ.z⟩
theorem cut_lt {φ:Phi}{n b:Nat}(h:b<n):cut φ n b=φ b:=by simp [cut,h]
theorem cut_ge {φ:Phi}{n b:Nat}(h:n≤b):cut φ n b=none:=by simp [cut];omega
theorem cut_le (φ:Phi)(n:Nat):le (cut φ n) φ:=by
 refine ⟨?_,fun _ _ h=>h⟩
 intro b x h
 by_cases hb:b<n
 ·rwa [cut_lt hb]at h
 ·rw[cut_ge (by omega)]at h;cases h
theorem all_getD {p:Value→Bool}{cs:Array Value}(h:cs.toList.all p=true) {i:Nat}(hi:i<cs.size):p (cs.getD i undef)=true:=by
 rw[List.all_eq_true]at h
 rw[Array.getD_eq_getD_getElem?,Array.getElem?_eq_getElem hi]
 exact h _ (by simp)
theorem sc0_cut {φ:Phi}{n:Nat} {v v':Value}(h:sc0 n v=true) (hv:VR φ v v'):VR (cut φ n) v v':=by
 cases hv with
 | ptr hφ=>simp [sc0]at h;exact .ptr ((cut_lt h).trans hφ)
 | sliceZ hφ a' c=>simp [sc0]at h;exact .sliceZ ((cut_lt h).trans hφ) a' c
 | slice hφ hl hc=>simp [sc0]at h;exact .slice ((cut_lt h).trans hφ) hl hc
 | map hφ=>simp [sc0]at h;exact .map ((cut_lt h).trans hφ)
 | bool b=>exact .bool b
 | int k n=>exact .int k n
 | float k n=>exact .float k n
 | complex k n m=>exact .complex k n m
 | string s=>exact .string s
 | ptrN=>exact .ptrN
 | sliceN=>exact .sliceN
 | mapN=>exact .mapN
 | nilFunc=>exact .nilFunc
 | nilIface=>exact .nilIface
 | fn hg =>
  unfold sc0 at h
  split at h
  ·rename_i e;cases e
  ·rename_i e;cases e
  ·rename_i e;cases e
  ·rename_i e;cases e;cases hg
  ·cases h
 | fz h=>exact .fz h
 | yield=>simp [sc0,g0]at h
 | iface=>simp [sc0,g0]at h
 | agg=>simp [sc0,g0]at h
 | tuple=>simp [sc0,g0]at h
 | top=>simp [sc0,g0]at h
theorem scB_cut {φ:Phi}{n:Nat} {v v':Value}(h:scB n v=true) (hv:VR φ v v'):VR (cut φ n) v v':=by
 unfold scB at h
 split at h
 ·rename_i cs
  cases hv with
  | agg hs he=>exact .agg hs (fun i hi=>sc0_cut (all_getD h hi) (he i hi))
 ·exact sc0_cut h hv
theorem sc1_fn {n:Nat}{g:Fn}(hg:plainFn g=true) (first cap:Array Value):sc1 n (.func g first cap)=(first.toList.all (scB n)&&cap.toList.all (scB n)):=by
 unfold sc1
 split
 ·rename_i e;cases e
 ·rename_i e;cases e;cases hg
 ·rename_i e;cases e;cases hg
 ·rename_i e;cases e;rfl
 ·rename_i e;exact absurd rfl (e _ _ _)
theorem sc1_cut {φ:Phi}{n:Nat} {v v':Value}(h:sc1 n v=true) (hv:VR φ v v'):VR (cut φ n) v v':=by
 cases hv with
 | iface t hv =>
  simp only[sc1]at h;rw[gA_eq h hv];exact .iface t (gA_refl h)
 | yield hφ=>simp [sc1]at h;exact .yield ((cut_lt h).trans hφ)
 | @fn g _ _ _ _ hg h1 h2 h3 h4 =>
  have hh:∀{xs:Array Value},xs.toList.all (scB n)=true→∀i,i<xs.size→scB n (xs.getD i undef)=true:=fun h i hi=>all_getD h hi
  rw[sc1_fn hg,Bool.and_eq_true]at h
  exact .fn hg h1 (fun i hi=>scB_cut (hh h.1 i hi) (h2 i hi)) h3 (fun i hi=>scB_cut (hh h.2 i hi) (h4 i hi))
 | ptr hφ=>exact sc0_cut h (.ptr hφ)
 | sliceZ hφ a' c=>exact sc0_cut h (.sliceZ hφ a' c)
 | slice hφ hl hc=>exact sc0_cut h (.slice hφ hl hc)
 | map hφ=>exact sc0_cut h (.map hφ)
 | bool b=>exact .bool b
 | int k n=>exact .int k n
 | float k n=>exact .float k n
 | complex k n m=>exact .complex k n m
 | string s=>exact .string s
 | ptrN=>exact .ptrN
 | sliceN=>exact .sliceN
 | mapN=>exact .mapN
 | nilFunc=>exact .nilFunc
 | nilIface=>exact .nilIface
 | fz h=>exact .fz h
 | agg=>simp [sc1,sc0,g0]at h
 | tuple=>simp [sc1,sc0,g0]at h
 | top=>simp [sc1,sc0,g0]at h
theorem scA_cut {φ:Phi}{n:Nat} {v v':Value}(h:scA n v=true) (hv:VR φ v v'):VR (cut φ n) v v':=by
 unfold scA at h
 split at h
 ·cases hv with
  | agg h1 h2=>exact .agg h1 fun i hi=>sc1_cut (all_getD h hi) (h2 i hi)
 ·exact sc1_cut h hv
theorem scT_cut {φ:Phi}{n:Nat} {v v':Value}(h:scT n v=true) (hv:VR φ v v'):VR (cut φ n) v v':=by
 unfold scT at h
 split at h
 ·cases hv with
  | tuple h1 h2=>exact .tuple h1 fun i hi=>scA_cut (all_getD h hi) (h2 i hi)
  | top _ hb=>exact .top _ hb
 ·exact scA_cut h hv
theorem VR.scope {φ φ':Phi}{n:Nat}(ht:∀b,n≤b→φ b=none) {v x:Value}(h:VR φ v x):∀{v':Value},VR φ' v v'→VR (cut φ' n) v v':=by
 have hin:∀{b:Nat} {y:Nat×Nat×Nat},φ b=some y→b<n:=fun {b} {y} hb=>by
  rcases Nat.lt_or_ge b n with h | h
  ·exact h
  ·rw[ht b h]at hb;cases hb
 induction h with
 | ptr hφ=>intro v' hv;cases hv with | ptr h'=>exact .ptr ((cut_lt (hin hφ)).trans h')
 | sliceZ hφ a' c =>
  intro v' hv
  cases hv with
  | sliceZ h' a'' c=>exact .sliceZ ((cut_lt (hin hφ)).trans h') _ _
  | slice h' hl hc=>exact .slice ((cut_lt (hin hφ)).trans h') hl hc
 | slice hφ hl hc =>
  intro v' hv
  cases hv with
  | sliceZ h' a'' c=>exact .sliceZ ((cut_lt (hin hφ)).trans h') _ _
  | slice h' hl hc=>exact .slice ((cut_lt (hin hφ)).trans h') hl hc
 | map hφ=>intro v' hv;cases hv with | map h'=>exact .map ((cut_lt (hin hφ)).trans h')
 | yield hφ =>
  intro v' hv
  cases hv with
  | fn hg=>cases hg
  | yield h'=>exact .yield ((cut_lt (hin hφ)).trans h')
 | fn hg h1 h2 h3 h4 ih2 ih4 =>
  intro v' hv
  cases hv with
  | fn hg' k1 k2 k3 k4=>exact .fn hg' k1 (fun i hi=>ih2 i hi (k2 i hi)) k3 (fun i hi=>ih4 i hi (k4 i hi))
  | yield=>cases hg
  | fz=>cases hg
 | fz _ =>
  intro v' hv
  cases hv with
  | fn hg=>cases hg
  | fz h'=>exact .fz h'
 | iface t _ ih=>intro v' hv;cases hv with | iface _ h'=>exact .iface t (ih h')
 | agg h1 _ ih=>intro v' hv;cases hv with | agg k1 k2=>exact .agg k1 fun i hi=>ih i hi (k2 i hi)
 | tuple h1 _ ih =>
  intro v' hv
  cases hv with
  | tuple k1 k2=>exact .tuple k1 fun i hi=>ih i hi (k2 i hi)
  | top _ hb=>exact .top _ hb
 | top x hx =>
  intro v' hv
  cases hv with
  | tuple k1 k2=>exact .tuple k1 fun i hi=>absurd hi (Nat.not_lt_zero _)
  | top _ hb=>exact .top _ hb
 | bool b=>intro v' hv;cases hv;exact .bool b
 | int k n=>intro v' hv;cases hv;exact .int k n
 | float k n=>intro v' hv;cases hv;exact .float k n
 | complex k n m=>intro v' hv;cases hv;exact .complex k n m
 | string s=>intro v' hv;cases hv;exact .string s
 | ptrN=>intro v' hv;cases hv;exact .ptrN
 | sliceN=>intro v' hv;cases hv;exact .sliceN
 | mapN=>intro v' hv;cases hv;exact .mapN
 | nilFunc=>intro v' hv;cases hv;exact .nilFunc
 | nilIface=>intro v' hv;cases hv;exact .nilIface
theorem VRs.scope {φ φ':Phi}{n:Nat}(ht:∀b,n≤b→φ b=none) {xs ys zs:Array Value}(h:VRs φ xs ys) (k:VRs φ' xs zs):VRs (cut φ' n) xs zs :=
 VRs.of k.size fun i _=>VR.scope ht (h.getD i) (k.getD i)
theorem ObR.scope {φ φ':Phi}{n:Nat}(ht:∀b,n≤b→φ b=none) {w w':World}{ob:Ob}{B1 b1 t1 B base tot:Nat}(h:ObR φ w ob B1 b1 t1) (k:ObR φ' w' ob B base tot):ObR (cut φ' n) w' ob B base tot:=by
 have hin:∀{b:Nat} {y:Nat×Nat×Nat},φ b=some y→b<n:=fun {b} {y} hb=>by
  rcases Nat.lt_or_ge b n with h | h
  ·exact h
  ·rw[ht b h]at hb;cases hb
 cases ob with
 | dead=>trivial
 | cells c ro =>
  obtain ⟨C,el,fr,h1,h2,h3⟩:=h;obtain ⟨C',el',fr',k1,k2,k3⟩:=k
  refine ⟨C',el',fr',k1,fun i v hv=>?_,k3⟩
  obtain ⟨v1,_,r1⟩:=h2 i v hv;obtain ⟨v',hv',r⟩:=k2 i v hv;exact ⟨v',hv',VR.scope ht r1 r⟩
 | map es =>
  obtain ⟨h0,E,clock,h1,h2,h3⟩:=h;obtain ⟨k0,E',clock',k1,k2,k3⟩:=k
  refine ⟨k0,E',clock',k1,k2,fun i key v hv=>?_⟩
  obtain ⟨_,_,_,r1⟩:=h3 i key v hv;obtain ⟨en,he,hk,r⟩:=k3 i key v hv;exact ⟨en,he,hk,VR.scope ht r1 r⟩
 | loop st pend tmps ps assign body dfr =>
  obtain ⟨h0,fn,tmps',D',h1,h2,td,h3⟩:=h;obtain ⟨k0,fn',tmps'',D'',k1,k2,td',k3⟩:=k;exact ⟨k0,fn',tmps'',D'',k1,VRs.scope ht h2 k2,td',(cut_lt (hin h3)).trans k3⟩
 | dfr shut=>exact k
def obSc (n:Nat):Ob→Bool
 | .dead=>true
 | .cells c _=>c.toList.all (sc1 n)
 | .map es=>es.all fun e=>scT n e.2
 | .loop _ _ t _ _ _ d=>t.toList.all (scT n)&&decide (d<n)
 | .dfr _=>true
theorem all_get? {p:Value→Bool}{cs:Array Value}(h:cs.toList.all p=true) {i:Nat}{v:Value}(hv:cs[i]?=some v):p v=true:=by
 rw[List.all_eq_true]at h
 exact h v (by rw[Array.mem_toList_iff];exact Array.mem_of_getElem? hv)
theorem obSc_cut {φ:Phi}{n:Nat}{w:World}{ob:Ob}{B base tot:Nat}(h:obSc n ob=true) (k:ObR φ w ob B base tot):ObR (cut φ n) w ob B base tot:=by
 cases ob with
 | dead=>trivial
 | cells c ro =>
  obtain ⟨C',el',fr',k1,k2,k3⟩:=k
  refine ⟨C',el',fr',k1,fun i v hv=>?_,k3⟩
  obtain ⟨v',hv',r⟩:=k2 i v hv;exact ⟨v',hv',sc1_cut (all_get? h hv) r⟩
 | map es =>
  obtain ⟨k0,E',clock',k1,k2,k3⟩:=k
  refine ⟨k0,E',clock',k1,k2,fun i key v hv=>?_⟩
  obtain ⟨en,he,hk,r⟩:=k3 i key v hv;simp only[obSc,List.all_eq_true]at h;exact ⟨en,he,hk,scT_cut (h (key,v) (List.mem_of_getElem? hv)) r⟩
 | loop st pend tmps ps assign body dfr =>
  simp only[obSc,Bool.and_eq_true,decide_eq_true_eq]at h;obtain ⟨k0,fn',tmps'',D'',k1,k2,td',k3⟩:=k
  exact ⟨k0,fn',tmps'',D'',k1,VRs.of k2.size (fun i hi=>scT_cut (all_getD h.1 hi) (k2.getD i)),td',(cut_lt h.2).trans k3⟩
 | dfr shut=>exact k
def enterH (h:Hp):Hp:={ bl:=h.bl,base:=h.bl.length,wr:=[] }
def exitH (h hf:Hp)(v:Value):Hp :=
 if scT h.bl.length v&&hf.wr.isEmpty then h
 else if scT h.bl.length v&&hf.wr.all (fun b=>(hf.bl[b]?).all (obSc h.bl.length)) then { bl:=hf.bl.take h.bl.length,base:=h.base,wr:=hf.wr.filter (fun b=>decide (b<h.base))++h.wr }
 else { bl:=hf.bl,base:=h.base,wr:=hf.wr.filter (fun b=>decide (b<h.base))++h.wr }
theorem exit_sound {K:Nat→Prop} {w0 w w':World} {φ φ':Phi}{h hf:Hp} {v v':Value}(hb:h.base≤h.bl.length) (hI:Inv K w0 φ h.bl w) (hF:Inv K w0 φ' hf.bl w') (hle:le φ φ') (hp:Pres (enterH h) hf) (hv:VR φ' v v') :
  Pres h (exitH h hf v)∧∃φ'',le φ φ''∧VR φ'' v v'∧Inv K w0 φ'' (exitH h hf v).bl w':=by
 have hin:∀{b:Nat} {y:Nat×Nat×Nat},φ b=some y→b<h.bl.length:=fun {b} {y} hb=>by
  rcases Nat.lt_or_ge b h.bl.length with h1 | h1
  ·exact h1
  ·rw[hI.top b h1]at hb;cases hb
 have hlec:le φ (cut φ' h.bl.length):=⟨fun b x hx=>(cut_lt (hin hx)).trans (hle b x hx),hle.zz⟩
 have hsame:∀b,b<h.bl.length→b ∉ hf.wr→hf.bl[b]?=h.bl[b]?:=fun b hlt hn=>(hp.same b hlt hn).2
 have hlen:h.bl.length≤hf.bl.length:=hp.len
 have short:(∀b∈hf.wr,(hf.bl[b]?).all (obSc h.bl.length)=true)→Inv K w0 (cut φ' h.bl.length) (hf.bl.take h.bl.length) w':=by
  intro hw
  have hget:∀{b:Nat} {ob:Ob},(hf.bl.take h.bl.length)[b]?=some ob→b<h.bl.length∧hf.bl[b]?=some ob:=by
   intro b ob hb
   rw[List.getElem?_take]at hb
   split at hb
   ·rename_i hlt;exact ⟨hlt,hb⟩
   ·cases hb
  refine ⟨?_,?_,?_,hF.keep,hF.klt,hF.size,hF.os,hF.tape,hF.output,?_,hF.frz,?_,hF.zk⟩
  ·intro b ob hb' hl
   obtain ⟨hlt,hb1⟩:=hget hb';obtain ⟨B,base,tot,h1,h2⟩:=hF.obs b ob hb1 hl
   refine ⟨B,base,tot,(cut_lt hlt).trans h1,?_⟩
   by_cases hm:b∈hf.wr
   ·have:=hw b hm
    rw[hb1]at this
    exact obSc_cut (by simpa using this) h2
   ·rw[hsame b hlt hm]at hb1
    obtain ⟨B1,base1,tot1,_,h3⟩:=hI.obs b ob hb1 hl;exact ObR.scope hI.top h3 h2
  ·intro b b' ob ob' x y hne hb1 hb2 hrw hl hx hy
   obtain ⟨hlt1,hb1⟩:=hget hb1;obtain ⟨hlt2,hb2⟩:=hget hb2;rw[cut_lt hlt1]at hx;rw[cut_lt hlt2]at hy;exact hF.sep b b' ob ob' x y hne hb1 hb2 hrw hl hx hy
  ·intro b ob x hb1 hrw hx
   obtain ⟨hlt1,hb1⟩:=hget hb1;rw[cut_lt hlt1]at hx;exact hF.prot b ob x hb1 hrw hx
  ·intro b hge
   rw[List.length_take,Nat.min_eq_left hlen]at hge;exact cut_ge hge
  ·intro b ob x hb1 hrw hx
   obtain ⟨hlt1,hb1⟩:=hget hb1;rw[cut_lt hlt1]at hx;exact hF.zsep b ob x hb1 hrw hx
 have hfil:∀b,b<h.base→b ∉ (hf.wr.filter (fun b=>decide (b<h.base))++h.wr)→b ∉ hf.wr∧b ∉ h.wr:=by
  intro b hlt hn;simp only[List.mem_append,List.mem_filter,decide_eq_true_eq,not_or,not_and]at hn
  exact ⟨fun hm=>hn.1 hm hlt,hn.2⟩
 unfold exitH
 split
 ·rename_i hc
  simp only[Bool.and_eq_true,List.isEmpty_iff]at hc
  refine ⟨Pres.refl h,cut φ' h.bl.length,hlec,scT_cut hc.1 hv,?_⟩
  have:=short (by rw[hc.2];intro b hb;cases hb)
  have e:hf.bl.take h.bl.length=h.bl:=by
   apply List.ext_getElem?
   intro b
   rw[List.getElem?_take]
   split
   ·rename_i hlt;exact hsame b hlt (by rw[hc.2];exact List.not_mem_nil)
   ·rename_i hge;rw[List.getElem?_eq_none (by omega)]
  rw[e]at this;exact this
 ·split
  ·rename_i hc
   simp only[Bool.and_eq_true,List.all_eq_true]at hc
   refine ⟨⟨rfl,by simp;omega,?_,?_⟩,cut φ' h.bl.length,hlec,scT_cut hc.1 hv,short hc.2⟩
   ·intro b hlt hn
    obtain ⟨n1,n2⟩:=hfil b hlt hn
    refine ⟨n2,?_⟩
    simp only
    rw[List.getElem?_take,if_pos (by omega)]
    exact hsame b (by omega) n1
   ·intro b ob hx hl hr
    simp only at hx
    rw[List.getElem?_take]at hx
    split at hx
    ·exact hp.ro b ob hx hl hr
    ·cases hx
  ·refine ⟨⟨rfl,hlen,?_,hp.ro⟩,φ',hle,hv,hF⟩
   intro b hlt hn;obtain ⟨n1,n2⟩:=hfil b hlt hn
   exact ⟨n2,hsame b (by omega) n1⟩
def resL (P:Program)(H:List Ob)(t:Array Value):List ResultVar→Option (List Value)
 | []=>some []
 | .tmp x::r=>(resL P H t r).map (t.getD x undef::·)
 | .cell a ty::r=>match rLoad P H ty (t.getD a undef),resL P H t r with
  | some v,some vs=>some (v::vs)
  | _,_=>none
def resB (P:Program)(H:List Ob)(fn:Func)(t:Array Value):Option Value :=
 match resL P H t fn.results.toList with
 | some [v]=>some v
 | some vs=>some (.tuple vs.toArray)
 | none=>none
section
variable {P:Program}{K:Nat→Prop}{w0 w:World} {φ:Phi}{H:List Ob}
def resOne (t:Array Value):ResultVar→Sem Value
 | .tmp x=>pure (t.getD x undef)
 | .cell a ty=>do loadVar ty (← asAddr (t.getD a undef))
theorem results_eq (fn:Func)(t:Array Value):results fn t=(do let vs ← fn.results.mapM (resOne t);pure (if h:vs.size=1 then vs[0] else .tuple vs)):=by
 unfold results
 congr 1
theorem resL_sound (hI:Inv K w0 φ H w) {t t':Array Value}(ht:VRs φ t t'):∀{rs:List ResultVar}{vs:List Value},resL P H t rs=some vs →
  ∃vs',(rs.mapM (resOne t')).run P w=.ok vs' w∧VRl φ vs vs'
 | [],vs,h=>by simp only[resL,Option.some.injEq]at h;subst h;exact ⟨[],rfl,.nil⟩
 | .tmp x::r,vs,h=>by
  simp only[resL,Option.map_eq_some_iff]at h;obtain ⟨us,hu,rfl⟩:=h;obtain ⟨us',hr,hv⟩:=resL_sound hI ht hu
  refine ⟨t'.getD x undef::us',?_,.cons (ht.getD x) hv⟩
  simp only[List.mapM_cons,resOne,Sem.run_bind,Sem.run_pure,Result.andThen_ok,hr]
 | .cell a ty::r,vs,h=>by
  simp only[resL]at h
  split at h
  ·rename_i v us h1 hu
   simp only[Option.some.injEq]at h;subst h;obtain ⟨us',hr,hv⟩:=resL_sound hI ht hu;have hta:=ht.getD a;obtain ⟨v',hl,hvv⟩:=rLoad_sound hI h1 hta
   refine ⟨v'::us',?_,.cons hvv hv⟩
   have:(resOne t' (.cell a ty)).run P w=.ok v' w:=by
    show (do loadVar ty (← asAddr (t'.getD a undef)):Sem Value).run P w=.ok v' w
    unfold rLoad at h1
    split at h1
    ·rename_i b off heq
     rw[heq]at hta
     generalize t'.getD a undef=x' at hta hl
     cases hta with
     | ptr hφ=>exact hl
    ·rename_i c b off heq
     rw[heq]at hta
     generalize t'.getD a undef=x' at hta hl
     cases hta with
     | fn hg=>cases hg
     | fz hf =>
      obtain ⟨C,el,fr,B,base,_,rfl,hz,_⟩:=hf.dpt_inv;exact hl
    ·cases h1
   simp only[List.mapM_cons,Sem.run_bind,this,Result.andThen_ok,hr,Sem.run_pure]
  ·cases h
theorem resB_sound (hI:Inv K w0 φ H w) {fn:Func} {t t':Array Value}{v:Value}(ht:VRs φ t t') (h:resB P H fn t=some v):∃v',(results fn t').run P w=.ok v' w∧VR φ v v':=by
 unfold resB at h
 have key:∀{vs:List Value},resL P H t fn.results.toList=some vs→∃vs':List Value,(results fn t').run P w=.ok (if h:vs'.toArray.size=1 then vs'.toArray[0] else .tuple vs'.toArray) w∧VRl φ vs vs':=by
  intro vs hvs;obtain ⟨vs',hr,hv⟩:=resL_sound hI ht hvs
  refine ⟨vs',?_,hv⟩
  rw[results_eq,Array.mapM_eq_mapM_toList];simp only[Sem.run_bind,Sem.run_map,Sem.run_pure,hr,Result.andThen_ok]
 have hlist:∀{vs vs':List Value},VRl φ vs vs'→VRs φ vs.toArray vs'.toArray:=by
  intro vs vs' hv i;have:=vrl_get hv i
  simpa using this
 split at h
 ·rename_i u hu
  simp only[Option.some.injEq]at h;subst h;obtain ⟨vs',hr,hv⟩:=key hu
  cases hv with
  | cons h1 h2=>cases h2;exact ⟨_,hr,h1⟩
 ·rename_i vs hne hu
  simp only[Option.some.injEq]at h;subst h;obtain ⟨vs',hr,hv⟩:=key hu
  refine ⟨.tuple vs'.toArray,?_,(hlist hv).tuple⟩
  rw[hr,dif_neg];have hl:=vrl_len hv;intro h1
  simp at h1
  rw[h1]at hl
  match vs,hl with
  | [v],_=>exact hne v rfl
 ·cases h
end
end Go.Gi
namespace Go.Gi
open Go.RowKit
noncomputable section
inductive Ex where
 | normal
 | exit (id:Nat)
 | goto (l:Nat)
 | ret
 | panic (v:Value)
structure St where
 t:List Value
 d:List Deferred
 h:Hp
inductive Mo where
 | returning
 | panicking (v:Value) (done:Bool)
inductive Task where
 | code (rd:Option Nat) (c:Code) (s:St)
 | call (f:FuncId) (args:Array Value) (h:Hp)
 | dcall (f:FuncId) (args:Array Value) (m:Mo) (h:Hp)
 | round (l:Nat) (args:Array Value) (h:Hp)
inductive Out where
 | ex (e:Ex) (s:St)
 | ret (v:Value) (h:Hp)
 | pan (v:Value) (h:Hp)
 | dret (m:Mo) (h:Hp)
abbrev Self:=Task→Option Out
def lget (l:List Value):Nat→Value :=
 List.rec (motive:=fun _=>Nat→Value) (fun _=>undef) (fun v _ ih n=>Nat.rec (motive:=fun _=>Value) v (fun m _=>ih m) n) l
def lset:List Value→Nat→Value→List Value
 | [],_,_=>[]
 | _::r,0,v=>v::r
 | x::r,n+1,v=>x::lset r n v
def lsetK {β:Type}(l:List Value):Nat→Value→(List Value→β)→β :=
 List.rec (motive:=fun _=>Nat→Value→(List Value→β)→β) (fun _ _ k=>k [])
  (fun x r ih n v k=>Nat.rec (motive:=fun _=>β) (k (v::r)) (fun m _=>ih m v fun r'=>k (x::r')) n) l
theorem lsetK_eq {β:Type}:∀(l:List Value) (n:Nat) (v:Value) (k:List Value→β),lsetK l n v k=k (lset l n v)
 | [],_,_,_=>rfl
 | _::_,0,_,_=>rfl
 | x::r,n+1,v,k=>(lsetK_eq r n v fun r'=>k (x::r')).trans rfl
theorem lget_eq:∀(l:List Value) (n:Nat),lget l n=l.toArray.getD n undef
 | [],n=>by show undef=_;simp
 | v::r,0=>by show v=_;simp
 | v::r,n+1=>by
  show lget r n=_
  rw[lget_eq r n,Array.getD_eq_getD_getElem?,Array.getD_eq_getD_getElem?]
  simp
theorem lset_eq:∀(l:List Value) (n:Nat) (v:Value),(lset l n v).toArray=l.toArray.setIfInBounds n v
 | l,n,v=>by
  have h:∀(l:List Value) (n:Nat),lset l n v=l.set n v:=by
   intro l
   induction l with
   | nil=>intro n;rfl
   | cons x r ih =>
    intro n
    cases n with
    | zero=>rfl
    | succ n=>simp [lset,ih]
  rw[h];simp
def put (t:List Value)(dst:Option Tmp)(v:Value):List Value :=
 match dst with
 | some d=>lset t d v
 | none=>t
def evalT (t:List Value):Operand→Value
 | .tmp x=>lget t x
 | .const v=>v
 | .global g=>.pointer (some ⟨g,0,none⟩)
 | .func f=>.func (.func f) #[] #[]
def wantedT (os:Array Oper)(t:List Value)(o:Oper):Bool :=
 match o.guard with
 | none=>true
 | some (j,want) =>
  match (os[j]?).bind (·.dst) with
  | some d=>(match lget t d with | .bool b=>b == want | _=>false)
  | none=>false
def forceN {β:Type}(n:Nat) (k:Nat→β):β:=Nat.rec (motive:=fun _=>β) (k 0) (fun m _=>k m) (Nat.add n 1)
theorem forceN_eq {β:Type}(n:Nat) (k:Nat→β):forceN n k=k n:=rfl
def forceI {β:Type}(n:Int) (k:Int→β):β:=Int.rec (motive:=fun _=>β) (fun m=>forceN m fun m=>k (.ofNat m)) (fun m=>forceN m fun m=>k (.negSucc m)) n
theorem forceI_eq {β:Type}(n:Int) (k:Int→β):forceI n k=k n:=by cases n<;>rfl
def forceO {β:Type}(a:Option Addr) (k:Option Addr→β):β :=
 match a with
 | some ⟨b,o,none⟩=>forceN b fun b=>forceN o fun o=>k (some ⟨b,o,none⟩)
 | a=>k a
theorem forceO_eq {β:Type}(a:Option Addr) (k:Option Addr→β):forceO a k=k a:=by
 unfold forceO
 split
 ·simp only[forceN_eq]
 ·rfl
def force0 {β:Type}(v:Value) (k:Value→β):β :=
 match v with
 | .bool b=>(match b with | true=>k (.bool true) | false=>k (.bool false))
 | .int q n=>forceI n fun n=>k (.int q n)
 | .pointer a=>forceO a fun a=>k (.pointer a)
 | .slice a l c=>forceO a fun a=>forceN l fun l=>forceN c fun c=>k (.slice a l c)
 | v=>k v
theorem force0_eq {β:Type}(v:Value) (k:Value→β):force0 v k=k v:=by
 unfold force0
 split
 ·rename_i b;cases b<;>rfl
 ·simp only[forceI_eq]
 ·simp only[forceO_eq]
 ·simp only[forceO_eq,forceN_eq]
 ·rfl
def forceL {β:Type}:List Value→(List Value→β)→β
 | [],k=>k []
 | x::r,k=>force0 x fun x=>forceL r fun r=>k (x::r)
theorem forceL_eq {β:Type}:∀(l:List Value) (k:List Value→β),forceL l k=k l
 | [],_=>rfl
 | x::r,k=>by simp only[forceL,force0_eq,forceL_eq r]
def force1 {β:Type}(v:Value) (k:Value→β):β :=
 match v with
 | .agg ⟨cs⟩=>forceL cs fun cs=>k (.agg ⟨cs⟩)
 | v=>force0 v k
theorem force1_eq {β:Type}(v:Value) (k:Value→β):force1 v k=k v:=by
 unfold force1
 split
 ·simp only[forceL_eq]
 ·rw[force0_eq]
def forceL1 {β:Type}:List Value→(List Value→β)→β
 | [],k=>k []
 | x::r,k=>force1 x fun x=>forceL1 r fun r=>k (x::r)
theorem forceL1_eq {β:Type}:∀(l:List Value) (k:List Value→β),forceL1 l k=k l
 | [],_=>rfl
 | x::r,k=>by simp only[forceL1,force1_eq,forceL1_eq r]
def forceV {β:Type}(v:Value) (k:Value→β):β :=
 match v with
 | .tuple ⟨vs⟩=>forceL1 vs fun vs=>k (.tuple ⟨vs⟩)
 | v=>force1 v k
theorem forceV_eq {β:Type}(v:Value) (k:Value→β):forceV v k=k v:=by
 unfold forceV
 split
 ·simp only[forceL1_eq]
 ·rw[force1_eq]
def putK {β:Type}(t:List Value) (dst:Option Tmp) (v:Value) (k:List Value→β):β :=
 match dst with
 | some d=>forceV v fun v=>lsetK t d v k
 | none=>k t
theorem putK_eq {β:Type}(t:List Value) (dst:Option Tmp) (v:Value) (k:List Value→β):putK t dst v k=k (put t dst v):=by
 cases dst with
 | none=>rfl
 | some d=>simp only[putK,put,forceV_eq,lsetK_eq]
def forceOb {β:Type}(o:Ob) (k:Ob→β):β :=
 match o with
 | .cells ⟨c⟩ ro=>forceL c fun c=>k (.cells ⟨c⟩ ro)
 | o=>k o
theorem forceOb_eq {β:Type}(o:Ob) (k:Ob→β):forceOb o k=k o:=by
 unfold forceOb
 split
 ·simp only[forceL_eq]
 ·rfl
def forceB {β:Type}:List Ob→(List Ob→β)→β
 | [],k=>k []
 | x::r,k=>forceOb x fun x=>forceB r fun r=>k (x::r)
theorem forceB_eq {β:Type}:∀(l:List Ob) (k:List Ob→β),forceB l k=k l
 | [],_=>rfl
 | x::r,k=>by simp only[forceB,forceOb_eq,forceB_eq r]
def forceS {β:Type}(l:List Ob):(List Ob→β)→β :=
 List.rec (motive:=fun _=>(List Ob→β)→β) (fun k=>k []) (fun x _ ih k=>ih fun r=>k (x::r)) l
theorem forceS_eq {β:Type}:∀(l:List Ob) (k:List Ob→β),forceS l k=k l
 | [],_=>rfl
 | x::r,k=>forceS_eq r fun r=>k (x::r)
def forceE {β:Type}(l:List Ob):(List Ob→β)→β :=
 List.rec (motive:=fun _=>(List Ob→β)→β) (fun k=>k [])
  (fun x r ih k=>List.rec (motive:=fun _=>β) (forceOb x fun x=>k [x]) (fun _ _ _=>ih fun r=>k (x::r)) r) l
theorem forceE_eq {β:Type}:∀(l:List Ob) (k:List Ob→β),forceE l k=k l
 | [],_=>rfl
 | [x],k=>forceOb_eq x fun x=>k [x]
 | x::y::r,k=>forceE_eq (y::r) fun r=>k (x::r)
def forceH {β:Type}(o:Op) (h:Hp) (k:Hp→β):β :=
 match o with
 | .alloc _ | .box _ _ | .buildSlice _ _ _ | .makeMap _ _ | .makeSlice _ _ _=>forceE h.bl fun bl=>forceN h.base fun base=>k { bl:=bl,base:=base,wr:=h.wr }
 | .call { callee:=.value _,.. }=>forceS h.bl fun bl=>forceN h.base fun base=>k { bl:=bl,base:=base,wr:=h.wr }
 | .store _ _ _ | .convert _ _ _ | .mapUpdate _ _ _ _ | .call _=>forceB h.bl fun bl=>forceN h.base fun base=>k { bl:=bl,base:=base,wr:=h.wr }
 | _=>k h
theorem forceH_eq {β:Type}(o:Op) (h:Hp) (k:Hp→β):forceH o h k=k h:=by
 unfold forceH
 split<;>simp only[forceB_eq,forceS_eq,forceE_eq,forceN_eq]
def runOps (P:Program)(self:Self)(rd:Option Nat)(os:Array Oper):List Nat→St→Option Out
 | [],s=>some (.ex .normal s)
 | i::r,s =>
  match os[i]? with
  | none=>runOps P self rd os r s
  | some o =>
   if wantedT os s.t o then
    match aop P (evalT s.t) s.h o with
    | some (.val v h)=>putK s.t o.dst v fun t=>forceH o.op h fun h=>runOps P self rd os r { s with t:=t,h:=h }
    | some (.enter f args) =>
     match self (.call f args s.h) with
     | some (.ret v h)=>putK s.t o.dst v fun t=>forceH o.op h fun h=>runOps P self rd os r { s with t:=t,h:=h }
     | some (.pan v h)=>some (.ex (.panic v) { s with h:=h })
     | _=>none
    | some (.yield l args) =>
     match self (.round l args s.h) with
     | some (.ret v h)=>putK s.t o.dst v fun t=>forceH o.op h fun h=>runOps P self rd os r { s with t:=t,h:=h }
     | _=>none
    | some (.defer d)=>if rd.isNone then putK s.t o.dst undef fun t=>runOps P self rd os r { t:=t,d:=d::s.d,h:=s.h } else none
    | some (.panic v)=>some (.ex (.panic v) s)
    | _=>none
   else putK s.t o.dst undef fun t=>runOps P self rd os r { s with t:=t }
def moVal:Mo→Value
 | .returning=>undef
 | .panicking v _=>v
def settleM:Mo→Mo
 | .panicking _ true=>.returning
 | m=>m
def leave (P:Program)(self:Self)(fn:Func)(t:List Value)(h:Hp):List Deferred→Mo→Hp→Option Out
 | [],.returning,hf=>(resB P hf.bl fn t.toArray).map fun v=>.ret v (exitH h hf v)
 | [],.panicking v false,hf=>some (.pan v (exitH h hf v))
 | [],.panicking _ true,_=>none
 | d::ds,m,hf =>
  match d.target with
  | .collected r =>
   match hf.bl[r]? with
   | some (.dfr false)=>leave P self fn t h ds m (hf.put r (.dfr true))
   | _=>none
  | .fn (.func g) cap =>
   if bodied P g then
    match self (.dcall g (d.args++cap) m hf) with
    | some (.dret m' h')=>leave P self fn t h ds (settleM m') h'
    | _=>none
   else none
  | _=>none
def runDOps (P:Program)(os:Array Oper):List Nat→St→Mo→Option (Ex×St×Mo)
 | [],s,m=>some (.normal,s,m)
 | i::r,s,m =>
  match os[i]? with
  | none=>runDOps P os r s m
  | some o =>
   if wantedT os s.t o then
    match aop P (evalT s.t) s.h o with
    | some (.val v h)=>putK s.t o.dst v fun t=>forceH o.op h fun h=>runDOps P os r { s with t:=t,h:=h } m
    | some .recover =>
     match m with
     | .panicking v false=>runDOps P os r { s with t:=put s.t o.dst v } (.panicking v true)
     | m=>runDOps P os r { s with t:=put s.t o.dst .nilIface } m
    | _=>none
   else runDOps P os r { s with t:=put s.t o.dst undef } m
def hasRecover (os:Array Oper):Bool:=os.toList.any fun o=>match o.op with | .call { callee:=.builtin .recover,.. }=>true | _=>false
def dcode (P:Program)(self:Self):Code→St→Mo→Option (Ex×St×Mo)
 | .seq a b,s,m =>
  match dcode P self a s m with
  | some (.normal,s',m')=>dcode P self b s' m'
  | r=>r
 | .cond c x y,s,m =>
  if okO c then match evalT s.t c with
   | .bool true=>dcode P self x s m
   | .bool false=>dcode P self y s m
   | _=>none
  else none
 | .region id os dr,s,m =>
  if hasRecover os&&!dr then runDOps P os (List.range os.size) s m
  else match self (.code none (.region id os dr) s) with
   | some (.ex e s')=>some (e,s',m)
   | _=>none
 | c,s,m =>
  match self (.code none c s) with
  | some (.ex e s')=>some (e,s',m)
  | _=>none
def frame (fn:Func)(args:Array Value):List Value:=args.toList++List.replicate (fn.ntmps-args.size) undef
def loopNew (s:St)(ps:Array Tmp)(assign body:Code)(D:Nat):Ob:=.loop .ready none s.t.toArray ps assign body D
def endLoop (self:Self)(rd:Option Nat)(L:Nat)(d:List Deferred)(t:List Value):Option Out→Option Out
 | some (.ret _ h) =>
  match h.bl[L]? with
  | some (.loop st pend t' ps a b D) =>
   if st=.busy then none else
   match pend with
   | none=>some (.ex .normal { t:=t,d:=d,h:=h.put L (.loop .exhausted none t' ps a b D) })
   | some c=>match self (.code rd c { t:=t,d:=d,h:=h.put L (.loop .exhausted (some c) t' ps a b D) }) with
    | some (.ex e s)=>some (.ex e s)
    | _=>none
  | _=>none
 | _=>none
def jumpOf:Ex→Option (Option Code)
 | .normal=>some none
 | .ret=>some (some .ret)
 | .exit id=>some (some (.exit id))
 | .goto l=>some (some (.goto l))
 | .panic _=>none
def stepF (drawn:Program→Self→Option Nat→Nat→Array Oper→St→Option Out)(P:Program)(self:Self):Task→Option Out
 | .code rd c s =>
  match c with
  | .skip | .label _=>some (.ex .normal s)
  | .exit id=>some (.ex (.exit id) s)
  | .goto l=>some (.ex (.goto l) s)
  | .ret=>some (.ex .ret s)
  | .seq a b =>
   match self (.code rd a s) with
   | some (.ex .normal s')=>match self (.code rd b s') with
    | some (.ex e s2)=>some (.ex e s2)
    | _=>none
   | some (.ex e s')=>some (.ex e s')
   | _=>none
  | .cond c x y =>
   if okO c then match evalT s.t c with
    | .bool true=>(match self (.code rd x s) with | some (.ex e s')=>some (.ex e s') | _=>none)
    | .bool false=>(match self (.code rd y s) with | some (.ex e s')=>some (.ex e s') | _=>none)
    | _=>none
   else none
  | .block id c =>
   match self (.code rd c s) with
   | some (.ex (.exit id') s')=>if id'=id then some (.ex .normal s') else some (.ex (.exit id') s')
   | some (.ex e s')=>some (.ex e s')
   | _=>none
  | .loop c =>
   match self (.code rd c s) with
   | some (.ex .normal s')=>(match self (.code rd (.loop c) s') with | some (.ex e s2)=>some (.ex e s2) | _=>none)
   | some (.ex e s')=>some (.ex e s')
   | _=>none
  | .region id os dr=>if dr then drawn P self rd id os s else runOps P self rd os (List.range os.size) s
  | .rangeFunc g ps assign body =>
   if okO g then match evalT s.t g with
    | .func (.func f) first cap =>
     if bodied P f then
      match rd with
      | none =>
       endLoop self none (s.h.bl.length+1) ({ target:=.collected s.h.bl.length,args:=#[] }::s.d) s.t
        (self (.call f (first++#[.func (.yield (s.h.bl.length+1)) #[] #[]]++cap) ((s.h.push (.dfr false)).push (loopNew s ps assign body s.h.bl.length))))
      | some l0=>match s.h.bl[l0]? with
       | some (.loop _ _ _ _ _ _ D) =>
        endLoop self (some l0) s.h.bl.length s.d s.t (self (.call f (first++#[.func (.yield s.h.bl.length) #[] #[]]++cap) (s.h.push (loopNew s ps assign body D))))
       | _=>none
     else none
    | _=>none
   else none
  | _=>none
 | .call f args h =>
  match P.funcs[f]? with
  | some fn=>match fn.body with
   | some c=>match forceL1 (frame fn args) fun t=>self (.code none c { t:=t,d:=[],h:=enterH h }) with
    | some (.ex .normal s) | some (.ex .ret s)=>leave P self fn s.t h s.d .returning s.h
    | some (.ex (.panic v) s)=>leave P self fn s.t h s.d (.panicking v false) s.h
    | _=>none
   | none=>none
  | none=>none
 | .dcall f args m h =>
  match P.funcs[f]? with
  | some fn=>match fn.body with
   | some c=>match forceL1 (frame fn args) fun t=>dcode P self c { t:=t,d:=[],h:=enterH h } m with
    | some (.normal,s,m') | some (.ret,s,m') =>
     if s.d.isEmpty then match resB P s.h.bl fn s.t.toArray with
      | some _=>some (.dret m' (exitH h s.h (moVal m')))
      | none=>none
     else none
    | _=>none
   | none=>none
  | none=>none
 | .round l args h =>
  match h.bl[l]? with
  | some (.loop .ready _ t ps assign body _) =>
   if args.size=ps.size then
    match self (.code (some l) assign { t:=((ps.zip args).foldl (fun t (p,a)=>t.setIfInBounds p a) t).toList,d:=[],h:=h }) with
    | some (.ex .normal s1)=>match s1.h.bl[l]? with
     | some (.loop .ready pend1 t1 ps1 a1 b1 D1) =>
      match self (.code (some l) body { s1 with h:=s1.h.put l (.loop .busy pend1 t1 ps1 a1 b1 D1) }) with
      | some (.ex e s2)=>match jumpOf e,s2.h.bl[l]? with
       | some j,some (.loop _ _ t2 ps2 a2 b2 D2)=>some (.ret (.bool j.isNone) (s2.h.put l (.loop (if j.isNone then .ready else .done) j t2 ps2 a2 b2 D2)))
       | _,_=>none
      | _=>none
     | _=>none
    | _=>none
   else none
  | _=>none
end
end Go.Gi
