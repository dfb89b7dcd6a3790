/- Part 7 of the texts below the claim. Conditions: none. -/
import Derived.Deep.Slices
import Derived.Test.YtoojllndfjamgaaMg6
import Derived.WalkKit
import Derived.ProofKit
import Derived.OpenShut
import Derived.ChangeOld
import Derived.Below
import Derived.Deep.Strs
import Derived.ChangeMaps5
import Derived.Test.YtoojllndfjamgaaProg
import Derived.Test.YtoojllndfjamgaaRows
set_option linter.unusedVariables false
set_option linter.unusedSimpArgs false
namespace Go.Gi
open Go.RowKit
noncomputable section
def okLeaf:Leaf→Value→Prop
  | .int q,v=>∃n,v=.int q n∧(Lit.int q n).wf=true
  | .bool,v=>∃b,v=.bool b
  | .str,v=>∃s,v=.string s∧s.size≤maxLen
  | .lst,_=>False
  | .any,_=>False
def offsOk (P:Program)(d:Nat):Nat→List Field→Bool
  | _,[]=>true
  | o,f::r=>((f.offset == o)&&(P.cellsOf f.type == (leaves P false d f.type).length))&&offsOk P d (o+(leaves P false d f.type).length) r
def flatT (P:Program):Nat→TypeId→Bool
  | 0,_=>false
  | d+1,t =>
    match P.underlying t with
    | some .bool | some (.int _) | some .string=>true
    | some (.struct fs)=>((P.cellsOf t == (leaves P false (d+1) t).length)&&offsOk P d 0 fs.toList)&&fs.toList.all fun f=>flatT P d f.type
    | _=>false
inductive All2 {α β:Type} (R:α→β→Prop):List α→List β→Prop
  | nil:All2 R [] []
  | cons {a:α} {b:β} {l:List α} {m:List β} (h:R a b) (r:All2 R l m):All2 R (a::l) (b::m)
theorem All2.append {α β:Type}{R:α→β→Prop} {l l':List α} {m m':List β}(h:All2 R l m) (h':All2 R l' m'):All2 R (l++l') (m++m'):=by
  induction h with
  | nil=>exact h'
  | cons h _ ih=>exact .cons h ih
theorem All2.len {α β:Type}{R:α→β→Prop}{l:List α}{m:List β}(h:All2 R l m):m.length=l.length:=by
  induction h with
  | nil=>rfl
  | cons _ _ ih=>simp [ih]
theorem All2.get {α β:Type}{R:α→β→Prop}{l:List α}{m:List β}(h:All2 R l m):∀{j:Nat}{a:α},l[j]?=some a→∃b,m[j]?=some b∧R a b:=by
  induction h with
  | nil=>intro j a h;simp at h
  | cons h _ ih =>
    intro j a hj
    cases j with
    | zero=>simp only [List.getElem?_cons_zero,Option.some.injEq]at hj;subst hj;exact ⟨_,rfl,h⟩
    | succ j=>simp only [List.getElem?_cons_succ]at hj ⊢;exact ih hj
section
variable {H:Type}{enc:TypeId×Value→H}{P:Program}{w:World}{base:Nat}{spare:Nat→Bool}{held:Bool}
theorem mapM_all {α β:Type}{f:α→Option β}:∀{l:List α}{r:List β},l.mapM f=some r→∀a∈l,∃b,f a=some b
  | [],_,_,a,ha=>by simp at ha
  | x::l,r,h,a,ha=>by
    rw [List.mapM_cons]at h
    cases hx:f x with
    | none=>rw [hx]at h;cases h
    | some y =>
      rw [hx]at h
      cases hl:l.mapM f with
      | none=>rw [hl]at h;cases h
      | some ys =>
        rcases List.mem_cons.1 ha with rfl | ha
        · exact ⟨y,hx⟩
        · exact mapM_all hl a ha
theorem okLeaf_g0 {l:Leaf}{v:Value}(h:okLeaf l v):g0 v=true:=by
  cases l with
  | int q=>obtain ⟨n,rfl,_⟩:=h;rfl
  | bool=>obtain ⟨b,rfl⟩:=h;rfl
  | str=>obtain ⟨s,rfl,_⟩:=h;rfl
  | lst=>exact h.elim
  | any=>exact h.elim
theorem okLeaf_rd {l:Leaf}{c:Array Value}{i:Nat}{v:Value}(hc:c[i]?=some v) (h:okLeaf l v):(rdLeaf c l i).1=true:=by
  have hl:lget c.toList i=v:=by rw [lget_eq,Array.toArray_toList,Array.getD_eq_getD_getElem?,hc];rfl
  cases l with
  | int q=>obtain ⟨n,rfl,_⟩:=h;simp [rdLeaf,isInt,hl]
  | bool=>obtain ⟨b,rfl⟩:=h;simp [rdLeaf,isBool,hl]
  | str=>obtain ⟨s,rfl,_⟩:=h;simp [rdLeaf,isStr,hl]
  | lst=>exact h.elim
  | any=>exact h.elim
theorem rdOk_of {c:Array Value}:∀{L:List Leaf}{x:Nat},(∀(j:Nat) (l:Leaf),L[j]?=some l→∃v,c[x+j]?=some v∧okLeaf l v)→rdOk c L x=true
  | [],_,_=>rfl
  | l::L,x,h=>by
    obtain ⟨v,h1,h2⟩:=h 0 l rfl
    simp only [rdOk,Bool.and_eq_true]
    refine ⟨okLeaf_rd h1 h2,rdOk_of fun j l' hj=>?_⟩
    obtain ⟨v',h3,h4⟩:=h (j+1) l' (by simpa using hj)
    exact ⟨v',by rw [show x+1+j=x+(j+1) by omega];exact h3,h4⟩
def GoodL (L:List Leaf)(c:Array Value)(off n:Nat):Prop:=c.toList.all g0=true∧∀k,k<n→rdOk c L (off+k*L.length)=true
theorem cell_some {a:Addr}{v:Value}(h:w.cell? a=some v):a.spot=none∧∃C el fr,w.heap[a.block]?=some (.cells C el fr)∧C[a.off]?=some v:=by
  unfold World.cell? at h
  split at h
  · rename_i C el fr hh
    split at h
    · cases h
    · rename_i hs
      exact ⟨by simpa using hs,C,el,fr,hh,h⟩
  · cases h
theorem add_at (B off k:Nat):(⟨B,off,none⟩:Addr).add k=⟨B,off+k,none⟩:=by
  unfold Addr.add
  split<;>simp_all
end
def Ty (P:Program):Nat→TypeId→List Value→Prop
  | 0,_,_=>False
  | d+1,t,cs=>match P.underlying t with
    | some .bool=>∃b,cs=[.bool b]
    | some (.int q)=>∃n,cs=[.int q n]∧(Lit.int q n).wf=true
    | some .string=>∃s,cs=[.string s]∧s.size≤maxLen
    | some (.struct fs)=>∃ps:List (List Value),cs=ps.flatten∧All2 (fun (f:Field) p=>Ty P d f.type p) fs.toList ps
    | some (.array n e)=>∃ps:List (List Value),cs=ps.flatten∧ps.length=n∧∀p∈ps,Ty P d e p
    | some (.slice e)=>∃(c:Array Value) (n:Nat),cs=[lstV c 0 n (P.cellsOf e)]∧c.size=n*P.cellsOf e∧n≤maxLen∧∀k,k<n→Ty P d e ((c.toList.drop (k*P.cellsOf e)).take (P.cellsOf e))
    | _=>False
def tyB (P:Program):Nat→TypeId→Bool
  | 0,_=>false
  | d+1,t=>match P.underlying t with
    | some .bool | some (.int _) | some .string=>true
    | some (.struct fs)=>offsB P 0 fs.toList&&(P.cellsOf t == (fs.toList.map fun f=>P.cellsOf f.type).sum)&&fs.toList.all fun f=>tyB P d f.type
    | some (.array n e)=>(P.cellsOf t == n*P.cellsOf e)&&tyB P d e
    | some (.slice e)=>Nat.blt 0 (P.cellsOf e)&&tyB P d e
    | _=>false
where offsB (P:Program):Nat→List Field→Bool
  | _,[]=>true
  | o,f::r=>(f.offset == o)&&offsB P (o+P.cellsOf f.type) r
section
variable {H:Type}{enc:TypeId×Value→H}{P:Program}{w:World}{base:Nat}{held:Bool}
theorem rows_of {z:Nat}{Q:Nat→List Value→Prop}:∀{n:Nat},(∀i,i<n→∃r:List Value,r.length=z∧Q i r)→∃c:List Value,c.length=n*z∧∀i,i<n→Q i ((c.drop (i*z)).take z)
  | 0,_=>⟨[],by simp,fun i hi=>absurd hi (Nat.not_lt_zero _)⟩
  | n+1,h=>by
    obtain ⟨c,h1,h2⟩:=rows_of (n:=n) fun i hi=>h i (by omega)
    obtain ⟨r,h3,h4⟩:=h n (by omega)
    refine ⟨c++r,by rw [List.length_append,h1,h3,Nat.add_mul,Nat.one_mul],fun i hi=>?_⟩
    rcases Nat.lt_or_ge i n with hlt | hge
    · have hle:i*z+z≤c.length:=by
        rw [h1]
        have:=Nat.mul_le_mul_right z hlt
        rw [Nat.succ_mul]at this
        exact this
      rw [List.drop_append_of_le_length (by omega),List.take_append_of_le_length (by rw [List.length_drop];omega)]
      exact h2 i hlt
    · obtain rfl:i=n:=by omega
      rw [← h1,List.drop_left,← h3,List.take_length]
      exact h4
theorem fr_fields {z:Nat→Option Obj}{d:Nat}{cs:List Value}(ih:∀(f:TypeId) (q:List Value),tyB P d f=true→(∃fuel x,DataW.trod enc P w base (fun _=>true) held fuel f q=some x)→∃abs,All2 (FR z) abs q∧Ty P d f abs) :
    ∀{fs:List Field} {o:Nat},tyB.offsB P o fs=true→(∀f∈fs,tyB P d f.type=true∧∃fuel x,DataW.trod enc P w base (fun _=>true) held fuel f.type ((cs.drop f.offset).take (P.cellsOf f.type))=some x) →
    ∃ps:List (List Value),All2 (FR z) ps.flatten ((cs.drop o).take (fs.map fun f=>P.cellsOf f.type).sum)∧All2 (fun (f:Field) p=>Ty P d f.type p) fs ps
  | [],o,_,_=>⟨[],by simp;exact .nil,.nil⟩
  | f::r,o,h,hf=>by
    simp only [tyB.offsB,Bool.and_eq_true,beq_iff_eq]at h
    obtain ⟨h1,h2⟩:=h
    obtain ⟨k1,k2⟩:=hf f (List.mem_cons_self ..)
    obtain ⟨abs,a1,a2⟩:=ih f.type _ k1 k2
    obtain ⟨ps,b1,b2⟩:=fr_fields ih h2 fun g hg=>hf g (List.mem_cons_of_mem _ hg)
    refine ⟨abs::ps,?_,.cons a2 b2⟩
    rw [List.flatten_cons,List.map_cons,List.sum_cons,List.take_add,List.drop_drop]
    rw [h1]at a1
    exact a1.append b1
theorem fr_rows {z:Nat→Option Obj}{k:Nat}{cs:List Value}{Q:List Value→Prop}:∀{n:Nat},(∀i,i<n→∃abs,All2 (FR z) abs ((cs.drop (i*k)).take k)∧Q abs) →
    ∃ps:List (List Value),ps.length=n∧All2 (FR z) ps.flatten (cs.take (n*k))∧∀p∈ps,Q p
  | 0,_=>⟨[],rfl,by simp;exact .nil,fun p hp=>by simp at hp⟩
  | n+1,h=>by
    obtain ⟨ps,h1,h2,h3⟩:=fr_rows (n:=n) fun i hi=>h i (by omega)
    obtain ⟨r,h4,h5⟩:=h n (by omega)
    refine ⟨ps++[r],by simp [h1],?_,fun p hp=>?_⟩
    · rw [List.flatten_append,Nat.add_mul,Nat.one_mul,List.take_add]
      simp only [List.flatten_cons,List.flatten_nil,List.append_nil]
      exact h2.append h4
    · rw [List.mem_append,List.mem_singleton]at hp
      rcases hp with hp | rfl
      · exact h3 p hp
      · exact h5
theorem fr_trod:∀{d:Nat}{t:TypeId}{fuel:Nat}{cs:List Value}{x:DataW H×List MemPlace},tyB P d t=true→DataW.trod enc P w base (fun _=>true) held fuel t cs=some x →
    ∃abs,All2 (FR fun B=>w.heap[B]?) abs cs∧Ty P d t abs
  | 0,_,_,_,_,h,_=>by cases h
  | d+1,t,0,cs,x,_,h=>by simp [DataW.trod]at h
  | d+1,t,fuel+1,cs,x,hf,h=>by
    have h0:=h
    unfold tyB at hf
    split at hf
    · rename_i hu
      unfold DataW.trod at h
      rw [hu]at h
      simp only at h
      split at h<;>first | (cases h;done) | skip
      all_goals first | (rename_i he;cases he;done) | skip
      exact ⟨_,.cons (.gnd rfl) .nil,by unfold Ty;rw [hu];exact ⟨_,rfl⟩⟩
    · rename_i q hu
      unfold DataW.trod at h
      rw [hu]at h
      simp only at h
      split at h<;>first | (cases h;done) | skip
      all_goals first | (rename_i he;cases he;done) | skip
      rename_i k k' n he
      cases he
      split at h
      · rename_i hc
        obtain ⟨rfl,hw⟩:=hc
        exact ⟨_,.cons (.gnd rfl) .nil,by unfold Ty;rw [hu];exact ⟨_,rfl,hw⟩⟩
      · cases h
    · rename_i hu
      unfold DataW.trod at h
      rw [hu]at h
      simp only at h
      split at h<;>first | (cases h;done) | skip
      all_goals first | (rename_i he;cases he;done) | skip
      split at h
      · rename_i hc;exact ⟨_,.cons (.gnd rfl) .nil,by unfold Ty;rw [hu];exact ⟨_,rfl,hc⟩⟩
      · cases h
    · rename_i fs hu
      simp only [Bool.and_eq_true,beq_iff_eq,List.all_eq_true]at hf
      obtain ⟨⟨h1,h2⟩,h3⟩:=hf
      unfold DataW.trod at h
      rw [hu]at h
      simp only at h
      split at h
      · rename_i hl
        rw [Option.map_eq_some_iff]at h
        obtain ⟨ys,hy,_⟩:=h
        have h4:=mapM_all hy
        obtain ⟨ps,a1,a2⟩:=fr_fields (z:=fun B=>w.heap[B]?) (d:=d) (cs:=cs) (P:=P) (w:=w) (enc:=enc) (base:=base) (held:=held) (fun f q hq ⟨fu,x,hx⟩=>fr_trod hq hx) h1 fun f hm=>by
          obtain ⟨y,h5⟩:=h4 f hm
          exact ⟨h3 f hm,_,_,h5⟩
        rw [List.drop_zero,← h2,← hl,List.take_length]at a1
        exact ⟨_,a1,by unfold Ty;rw [hu];exact ⟨ps,rfl,a2⟩⟩
      · cases h
    · rename_i n e hu
      simp only [Bool.and_eq_true,beq_iff_eq]at hf
      obtain ⟨h1,h2⟩:=hf
      unfold DataW.trod at h
      rw [hu]at h
      simp only at h
      split at h
      · rename_i hl
        rw [Option.map_eq_some_iff]at h
        obtain ⟨ys,hy,_⟩:=h
        have h4:=mapM_all hy
        obtain ⟨ps,a1,a2,a3⟩:=fr_rows (z:=fun B=>w.heap[B]?) (n:=n) (k:=P.cellsOf e) (cs:=cs) (Q:=Ty P d e) fun i hi=>by
          obtain ⟨y,h5⟩:=h4 i (List.mem_range.2 hi)
          exact fr_trod h2 h5
        rw [← h1,← hl,List.take_length]at a2
        exact ⟨_,a2,by unfold Ty;rw [hu];exact ⟨ps,rfl,a1,a3⟩⟩
      · cases h
    · rename_i e hu
      rw [Bool.and_eq_true,Nat.blt_eq]at hf
      obtain ⟨hpos,he⟩:=hf
      rcases Go.Deep.open_slice hu h0 with ⟨hcs,_⟩ | ⟨a,len,cap,m,k,D,Pl,hcs,hb,hl,hm,hmm,_,hx⟩
      · subst hcs
        exact ⟨_,.cons (.lstZ #[] 0 (P.cellsOf e) none) .nil,by unfold Ty;rw [hu];exact ⟨#[],0,rfl,by simp,Nat.zero_le _,fun k hk=>absurd hk (Nat.not_lt_zero _)⟩⟩
      · subst hcs
        simp only [if_true]at hmm
        subst hmm
        by_cases hc0:m=0
        · subst hc0
          obtain rfl:len=0:=by omega
          exact ⟨_,.cons (.lstZ #[] 0 (P.cellsOf e) (some a)) .nil,by unfold Ty;rw [hu];exact ⟨#[],0,rfl,by simp,Nat.zero_le _,fun k hk=>absurd hk (Nat.not_lt_zero _)⟩⟩
        · have hrow:∀i,i<m→∃r:List Value,r.length=P.cellsOf e∧(Ty P d e r∧∀j,j<P.cellsOf e→∃u,w.cell? ((a.add (i*P.cellsOf e)).add j)=some u∧FR (fun B=>w.heap[B]?) (r.getD j undef) u):=by
            intro i hi
            obtain ⟨cs',h1,h2⟩:=hx i hi
            obtain ⟨h5,h3,h4⟩:=World.cells?_some h1
            obtain ⟨abs,a1,a2⟩:=fr_trod he h2
            have hlen:=a1.len
            have hcl:cs'.length=P.cellsOf e:=h3
            refine ⟨abs,by omega,a2,fun j hj=>?_⟩
            obtain ⟨u,hu1,hu2⟩:=a1.get (List.getElem?_eq_getElem (show j<abs.length by omega))
            refine ⟨u,?_,?_⟩
            · rw [h4 j (by omega)];exact hu1
            · rw [List.getD_eq_getElem?_getD,List.getElem?_eq_getElem (show j<abs.length by omega)];exact hu2
          obtain ⟨c,hc1,hc2⟩:=rows_of (n:=len) fun i hi=>hrow i (by omega)
          have hcz:c.length=len*P.cellsOf e:=hc1
          obtain ⟨r0,hr0,_,hq0⟩:=hrow 0 (by omega)
          obtain ⟨u0,hu0,_⟩:=hq0 0 hpos
          obtain ⟨hs,C,el,fr,hh,_⟩:=cell_some hu0
          obtain ⟨B,off,spot⟩:=a
          simp only [Nat.zero_mul,Addr.add,if_true]at hs hh
          subst hs
          have hcell:∀i,i<len→∀j,j<P.cellsOf e→∃u,C[off+(i*P.cellsOf e+j)]?=some u∧FR (fun B=>w.heap[B]?) (c.getD (i*P.cellsOf e+j) undef) u:=by
            intro i hi j hj
            obtain ⟨_,hq⟩:=hc2 i hi
            obtain ⟨u,k1,k2⟩:=hq j hj
            obtain ⟨_,C',el',fr',hh',k3⟩:=cell_some k1
            simp only [add_at]at hh' k3
            rw [hh]at hh'
            cases hh'
            refine ⟨u,by rw [← Nat.add_assoc];exact k3,?_⟩
            have hle:i*P.cellsOf e+j<c.length:=by
              rw [hcz]
              have:=Nat.mul_le_mul_right (P.cellsOf e) hi
              rw [Nat.succ_mul]at this
              omega
            rw [List.getD_eq_getElem?_getD,List.getElem?_take,if_pos hj,List.getElem?_drop]at k2
            rw [List.getD_eq_getElem?_getD]
            exact k2
          have hall:∀i,i<c.length→∃u,C[off+i]?=some u∧FR (fun B=>w.heap[B]?) (c.getD i undef) u:=by
            intro i hi
            rw [hcz]at hi
            have hd:i / P.cellsOf e<len:=Nat.div_lt_of_lt_mul (by rw [Nat.mul_comm];exact hi)
            obtain ⟨u,k1,k2⟩:=hcell _ hd _ (Nat.mod_lt i hpos)
            have e1:i / P.cellsOf e*P.cellsOf e+i % P.cellsOf e=i:=by
              have:=Nat.div_add_mod i (P.cellsOf e)
              rw [Nat.mul_comm]at this;exact this
            rw [e1]at k1 k2
            exact ⟨u,k1,k2⟩
          rcases Nat.eq_zero_or_pos len with rfl | hlen
          · refine ⟨_,.cons (.lst (c:=#[]) (C:=C) (el:=el) (fr:=fr) (off:=0) (len:=0) (sz:=P.cellsOf e) (cap':=m) (B:=B) (base:=off) hh (by
              obtain ⟨_,C',el',fr',hh',k3⟩:=cell_some hu0
              simp only [add_at]at hh' k3
              rw [hh]at hh';cases hh'
              have:=(Array.getElem?_eq_some_iff.1 k3).1
              simp;omega) (fun i hi=>absurd hi (Nat.not_lt_zero _)) (Nat.zero_le _) (by simp)) .nil,?_⟩
            unfold Ty;rw [hu];exact ⟨#[],0,rfl,by simp,Nat.zero_le _,fun k hk=>absurd hk (Nat.not_lt_zero _)⟩
          · refine ⟨_,.cons (.lst (c:=⟨c⟩) (C:=C) (el:=el) (fr:=fr) (off:=0) (len:=len) (sz:=P.cellsOf e) (cap':=m) (B:=B) (base:=off) hh ?_ (fun i hi=>?_) hl (by simp;omega)) .nil,?_⟩
            · have hlc:0<c.length:=by rw [hcz];exact Nat.mul_pos hlen hpos
              obtain ⟨u,k1,_⟩:=hall (c.length-1) (by omega)
              have:=(Array.getElem?_eq_some_iff.1 k1).1
              simp;omega
            · obtain ⟨u,k1,k2⟩:=hall i (by simpa using hi)
              rw [Array.getD_eq_getD_getElem?,Array.getD_eq_getD_getElem?,k1]
              rw [List.getD_eq_getElem?_getD]at k2
              simpa using k2
            · unfold Ty;rw [hu]
              exact ⟨⟨c⟩,len,rfl,by simpa using hcz,by omega,fun k hk=>(hc2 k hk).1⟩
    · cases hf
theorem fr_one {t:TypeId}{v:Value}{fuel:Nat}{x:DataW H×List MemPlace}(ht:tyB P 20 t=true) (h:DataW.trod enc P w base (fun _=>true) held fuel t [v]=some x):∃a,VR (zAll w) a v∧Ty P 20 t [a]:=by
  obtain ⟨abs,h1,h2⟩:=fr_trod ht h
  cases h1 with
  | cons h3 h4 =>
    cases h4
    exact ⟨_,FR.vr (φ:=zAll w) h3,h2⟩
theorem fr_agg {t:TypeId}{cs:Array Value}{fuel:Nat}{x:DataW H×List MemPlace}(ht:tyB P 20 t=true) (h:DataW.trod enc P w base (fun _=>true) held fuel t cs.toList=some x):∃abs:List Value,VR (zAll w) (.agg ⟨abs⟩) (.agg cs)∧Ty P 20 t abs:=by
  obtain ⟨abs,h1,h2⟩:=fr_trod ht h
  refine ⟨abs,VR.agg (by simpa using h1.len.symm) fun i hi=>?_,h2⟩
  have hi':i<abs.length:=by simpa using hi
  obtain ⟨b,h3,h4⟩:=h1.get (List.getElem?_eq_getElem hi')
  have h5:cs[i]?=some b:=by rw [← Array.getElem?_toList];exact h3
  rw [Array.getD_eq_getD_getElem?,Array.getD_eq_getD_getElem?,h5]
  simp only [List.getElem?_toArray,List.getElem?_eq_getElem hi',Option.getD_some]
  exact FR.vr (φ:=zAll w) h4
theorem flat_fields {d:Nat}(ih:∀(t:TypeId) (cs:List Value),flatT P d t=true→Ty P d t cs→All2 okLeaf (leaves P false d t) cs):∀{fs:List Field}{ps:List (List Value)},
    All2 (fun (f:Field) p=>Ty P d f.type p) fs ps→(∀f∈fs,flatT P d f.type=true)→All2 okLeaf (fs.flatMap fun f=>leaves P false d f.type) ps.flatten
  | [],_,.nil,_=>.nil
  | f::fs,_,.cons h r,hf=>by
    rw [List.flatMap_cons,List.flatten_cons]
    exact (ih _ _ (hf f (List.mem_cons_self ..)) h).append (flat_fields ih r fun g hg=>hf g (List.mem_cons_of_mem _ hg))
theorem ty_flat:∀{d:Nat}{t:TypeId}{cs:List Value},flatT P d t=true→Ty P d t cs→All2 okLeaf (leaves P false d t) cs
  | 0,_,_,h,_=>by cases h
  | d+1,t,cs,hf,h=>by
    unfold flatT at hf
    unfold Ty at h
    split at hf
    · rename_i hu
      rw [hu]at h
      rw [leaves,hu,show leafOf P false t=.bool by unfold leafOf;rw [hu]]
      obtain ⟨b,rfl⟩:=h
      exact .cons ⟨_,rfl⟩ .nil
    · rename_i q hu
      rw [hu]at h
      rw [leaves,hu,show leafOf P false t=.int q by unfold leafOf;rw [hu]]
      obtain ⟨n,rfl,hw⟩:=h
      exact .cons ⟨_,rfl,hw⟩ .nil
    · rename_i hu
      rw [hu]at h
      rw [leaves,hu,show leafOf P false t=.str by unfold leafOf;rw [hu]]
      obtain ⟨n,rfl,hw⟩:=h
      exact .cons ⟨_,rfl,hw⟩ .nil
    · rename_i fs hu
      rw [hu]at h
      simp only [Bool.and_eq_true,List.all_eq_true]at hf
      obtain ⟨ps,rfl,h2⟩:=h
      have hlv:leaves P false (d+1) t=fs.toList.flatMap fun f=>leaves P false d f.type:=by rw [leaves,hu]
      rw [hlv]
      exact flat_fields (fun t cs h1 h2=>ty_flat h1 h2) h2 hf.2
    · cases hf
theorem ty_good {d:Nat}{e:TypeId}{c:Array Value}{n:Nat}(hf:flatT P d e=true) (hz:P.cellsOf e=(leaves P false d e).length) (hs:c.size=n*P.cellsOf e) (hpos:0<P.cellsOf e)
    (h:∀k,k<n→Ty P d e ((c.toList.drop (k*P.cellsOf e)).take (P.cellsOf e))):GoodL (leaves P false d e) c 0 n:=by
  have hrow:∀k,k<n→∀j l,(leaves P false d e)[j]?=some l→∃v,c[k*P.cellsOf e+j]?=some v∧okLeaf l v:=by
    intro k hk j l hj
    obtain ⟨v,h1,h2⟩:=(ty_flat hf (h k hk)).get hj
    refine ⟨v,?_,h2⟩
    rw [List.getElem?_take]at h1
    split at h1
    · rw [List.getElem?_drop,Array.getElem?_toList]at h1;exact h1
    · cases h1
  refine ⟨?_,fun k hk=>rdOk_of fun j l hj=>?_⟩
  · rw [List.all_eq_true]
    intro u hu
    rw [Array.mem_toList_iff,Array.mem_iff_getElem?]at hu
    obtain ⟨i,hu⟩:=hu
    have hi:=(Array.getElem?_eq_some_iff.1 hu).1
    rw [hs]at hi
    have hd:i / P.cellsOf e<n:=Nat.div_lt_of_lt_mul (by rw [Nat.mul_comm];exact hi)
    have hm:=Nat.mod_lt i hpos
    obtain ⟨l,hl⟩:∃l,(leaves P false d e)[i % P.cellsOf e]?=some l:=⟨_,List.getElem?_eq_getElem (by omega)⟩
    obtain ⟨v,h1,h2⟩:=hrow _ hd _ l hl
    have e1:i / P.cellsOf e*P.cellsOf e+i % P.cellsOf e=i:=by
      have:=Nat.div_add_mod i (P.cellsOf e)
      rw [Nat.mul_comm]at this;exact this
    rw [e1,hu]at h1
    cases h1
    exact okLeaf_g0 h2
  · obtain ⟨v,h1,h2⟩:=hrow k hk j l hj
    exact ⟨v,by rw [Nat.zero_add,← hz];exact h1,h2⟩
end
end
end Go.Gi
namespace Go.Gi
open Go.ChangeShapes Go.WideShapes Go.ChangeAt Go.RowKit
section
variable {P:Program}
theorem tyI {d:Nat}{t:TypeId}{cs:List Value}(hu:P.underlying t=some (.int .i64)) (h:Ty P (d+1) t cs):∃n,cs=[.int .i64 n]∧(Lit.int .i64 n).wf=true:=by
  unfold Ty at h
  rw [hu]at h
  exact h
theorem tyL {d:Nat}{t e:TypeId}{cs:List Value}(hu:P.underlying t=some (.slice e)) (h:Ty P (d+1) t cs) :
    ∃(c:Array Value) (n:Nat),cs=[lstV c 0 n (P.cellsOf e)]∧c.size=n*P.cellsOf e∧n≤maxLen∧∀k,k<n→Ty P d e ((c.toList.drop (k*P.cellsOf e)).take (P.cellsOf e)):=by
  unfold Ty at h
  rw [hu]at h
  exact h
theorem tyS {d:Nat}{t:TypeId}{fs:Array Field}{cs:List Value}(hu:P.underlying t=some (.struct fs)) (h:Ty P (d+1) t cs):∃ps:List (List Value),cs=ps.flatten∧All2 (fun (f:Field) p=>Ty P d f.type p) fs.toList ps:=by
  unfold Ty at h
  rw [hu]at h
  exact h
theorem tyS4 {d:Nat}{t:TypeId}{f0 f1 f2 f3:Field}{cs:List Value}(hu:P.underlying t=some (.struct #[f0,f1,f2,f3])) (h:Ty P (d+1) t cs) :
    ∃p0 p1 p2 p3,cs=p0++(p1++(p2++p3))∧Ty P d f0.type p0∧Ty P d f1.type p1∧Ty P d f2.type p2∧Ty P d f3.type p3:=by
  obtain ⟨ps,rfl,g⟩:=tyS hu h
  clear h
  cases g with
  | cons h1 g =>
  cases g with
  | cons h2 g =>
  cases g with
  | cons h3 g =>
  cases g with
  | cons h4 g =>
  cases g
  exact ⟨_,_,_,_,by simp,h1,h2,h3,h4⟩
structure GL (L:List Leaf) (z:Nat) (c:Array Value) (n:Nat):Prop where
  good:GoodL L c 0 n
  size:c.size=n*z
  few:n≤maxLen
theorem tyG {d z:Nat}{t e:TypeId}{L:List Leaf}{cs:List Value}(hu:P.underlying t=some (.slice e)) (hf:flatT P d e=true) (hz:P.cellsOf e=z) (hL:leaves P false d e=L) (hl:L.length=z) (hp:0<z)
    (h:Ty P (d+1) t cs):∃c n,cs=[lstV c 0 n z]∧GL L z c n:=by
  obtain ⟨c,n,h1,h2,h3,h4⟩:=tyL hu h
  subst hz
  subst hL
  exact ⟨c,n,h1,ty_good hf hl.symm h2 hp h4,h2,h3⟩
end
theorem GL.or {L:List Leaf}{z n:Nat}{c:Array Value}(h:GL L z c n):n=0∨GoodL L c 0 n:=.inr h.good
section
variable {P:Program}{H:Type}{enc:TypeId×Value→H}{w:World}{r:Reach}{b0:Nat}{v:Value}{dd:DataW H}{p:List MemPlace}{t e:TypeId}
theorem argS {fs:Array Field}(hu:P.underlying t=some (.struct fs)) (ht:tyB P 20 t=true) (hval:Value.okWide P w r b0 t v) (h:DataW.Trod enc P w 0 (fun _=>true) true t v dd p):∃abs,VR (zAll w) (.agg ⟨abs⟩) v∧Ty P 20 t abs:=by
  obtain ⟨cs,rfl,hcs⟩:=okWide_struct hu hval
  obtain ⟨fu,hf⟩:=h
  exact fr_agg ht hf
end
end Go.Gi
namespace Go.Gi
open Go.RowKit
theorem ofIntNat (w m:Nat)(h:m<2 ^ w):(BitVec.ofInt w (m:Int)).toNat=m:=by
  rw [BitVec.toNat_ofInt]
  rw [show ((m:Int) % ((2 ^ w:Nat):Int))=(m:Int) by
    rw [Int.emod_eq_of_lt (by omega) (by exact_mod_cast h)]]
  rfl
theorem wrapU16 (m:Nat)(h:m<65536):IntKind.wrap .u16 (m:Int)=(m:Int):=by
  simp only [IntKind.wrap,IntKind.bits,IntKind.signed,Bool.false_and,Bool.false_eq_true,if_false]
  omega
theorem wrapI64 (m:Nat)(h:m<2 ^ 63):IntKind.wrap .i64 (m:Int)=(m:Int):=wrap64_id (by omega) (by omega)
theorem xorU16 (m n:Nat)(hm:m<65536)(hn:n<65536):xorI .u16 (m:Int) (n:Int)=((m ^^^ n:Nat):Int):=by
  unfold xorI
  rw [BitVec.toNat_xor,ofIntNat _ m hm,ofIntNat _ n hn]
  exact wrapU16 _ (Nat.xor_lt_two_pow (n:=16) hm hn)
theorem xorI64 (m n:Nat)(hm:m<2 ^ 63)(hn:n<2 ^ 63):xorI .i64 (m:Int) (n:Int)=((m ^^^ n:Nat):Int):=by
  unfold xorI
  rw [BitVec.toNat_xor,ofIntNat _ m (Nat.lt_trans hm (by decide)),ofIntNat _ n (Nat.lt_trans hn (by decide))]
  exact wrapI64 _ (Nat.xor_lt_two_pow (n:=63) hm hn)
structure BL (c:Array Value) (n:Nat):Prop where
  size:c.size=n
  few:n≤maxLen
  isu:∀k,k<n→isInt .u8 c k=true
  lo:∀k,k<n→0≤getInt c k
  hi:∀k,k<n→getInt c k<256
theorem tyStr {P:Program}{d:Nat}{t:TypeId}{cs:List Value}(hu:P.underlying t=some .string) (h:Ty P (d+1) t cs):∃s,cs=[.string s]∧s.size≤maxLen:=by
  unfold Ty at h
  rw [hu]at h
  exact h
section
variable {P:Program}{H:Type}{enc:TypeId×Value→H}{w:World}{r:Reach}{b0:Nat}{v:Value}{dd:DataW H}{p:List MemPlace}{t e:TypeId}
open Go.WideShapes in
theorem argSl (hu:P.underlying t=some (.slice e))(ht:tyB P 20 t=true)(hval:Value.okWide P w r b0 t v)(h:DataW.Trod enc P w 0 (fun _=>true) true t v dd p):∃a,VR (zAll w) a v∧Ty P 20 t [a]:=by
  obtain ⟨a0,len,cap,rfl⟩:=okWide_slice hu hval
  obtain ⟨fu,hf⟩:=h
  exact fr_one ht hf
theorem argRows {z:Nat}{L:List Leaf}(hu:P.underlying t=some (.slice e)) (hf:flatT P 19 e=true) (hz:P.cellsOf e=z) (hL:leaves P false 19 e=L) (hl:L.length=z) (hp:0<z) (ht:tyB P 20 t=true) (hval:Value.okWide P w r b0 t v) (h:DataW.Trod enc P w 0 (fun _=>true) true t v dd p) :
    ∃c n,VR (zAll w) (lstV c 0 n z) v∧GL L z c n:=by
  obtain ⟨a,h1,h2⟩:=argSl hu ht hval h
  obtain ⟨c,n,e1,e2⟩:=tyG hu hf hz hL hl hp h2
  obtain rfl:a=lstV c 0 n z:=by simpa using e1
  exact ⟨c,n,h1,e2⟩
end
noncomputable def byt (c:Array Value)(k:Nat):Nat:=(getInt c k).toNat
theorem BL.eq {c:Array Value}{n k:Nat}(h:BL c n) (hk:k<n):getInt c k=(byt c k:Int):=by
  have:=h.lo k hk;unfold byt;omega
theorem BL.lt {c:Array Value}{n k:Nat}(h:BL c n) (hk:k<n):byt c k<256:=by
  have:=h.lo k hk;have:=h.hi k hk;unfold byt;omega
def iterN {σ:Type}(f:Nat→σ→σ):Nat→Nat→σ→σ
  | 0,_,s=>s
  | m+1,k,s=>iterN f m (k+1) (f k s)
theorem iterN_inv {σ:Type}{f:Nat→σ→σ}{I:σ→Prop}{n:Nat}(hI:∀k s,k<n→I s→I (f k s)):∀m k s,k+m=n→I s→I (iterN f m k s)
  | 0,_,_,_,h=>h
  | m+1,k,s,e,h=>iterN_inv hI m (k+1) _ (by omega) (hI k s (by omega) h)
theorem loop_iter {X D σ:Type}{rd:X→RT (Sum X D)}{S:Nat→σ→X}{f:Nat→σ→σ}{n:Nat}{fin:σ→D}{I:σ→Prop}(hI:∀k s,k<n→I s→I (f k s))
    (hs:∀k s,k<n→I s→(rd (S k s)).val=some (.inl (S (k+1) (f k s)))) (hf:∀s,I s→(rd (S n s)).val=some (.inr (fin s))) :
    ∀m k s,k+m=n→I s→loopR rd (S k s)=some (fin (iterN f m k s))
  | 0,k,s,e,h=>by
    obtain rfl:k=n:=by omega
    exact loopR_done (hf s h)
  | m+1,k,s,e,h=>by
    rw [loopR_next (hs k s (by omega) h)]
    exact loop_iter hI hs hf m (k+1) (f k s) (by omega) (hI k s (by omega) h)
end Go.Gi
namespace Go.Gi
noncomputable section
def fst1 (E:Nat→Int):Nat→Nat→Option (Nat×Int)
  | 0,_=>none
  | m+1,k=>if E k=0 then fst1 E m (k+1) else some (k,E k)
theorem fst1_congr {E E':Nat→Int}{n:Nat}(h:∀k,k<n→E k=E' k):∀m k,k+m=n→fst1 E m k=fst1 E' m k
  | 0,_,_=>rfl
  | m+1,k,e=>by
    unfold fst1
    rw [h k (by omega),fst1_congr h m (k+1) (by omega)]
theorem loop_fst {X D:Type}{rd:X→RT (Sum X D)}{S:Nat→X}{E:Nat→Int}{n:Nat}{err:Nat→Int→D}{fin:D}
    (hs:∀k,k<n→(rd (S k)).val=some (if E k=0 then .inl (S (k+1)) else .inr (err k (E k)))) (hf:(rd (S n)).val=some (.inr fin)) :
    ∀m k,k+m=n→loopR rd (S k)=some (match fst1 E m k with | some (i,r)=>err i r | none=>fin)
  | 0,k,e=>by
    obtain rfl:k=n:=by omega
    exact loopR_done hf
  | m+1,k,e=>by
    have h:=hs k (by omega)
    unfold fst1
    by_cases he:E k=0
    · rw [if_pos he]at h ⊢
      exact (loopR_next h).trans (loop_fst hs hf m (k+1) (by omega))
    · rw [if_neg he]at h ⊢
      exact loopR_done h
end
end Go.Gi
namespace Go.Gi
open Go.RowKit
noncomputable section
def intA (q:IntKind)(l:List Int):Array Value:=⟨l.map (Value.int q)⟩
theorem intA_size (q:IntKind)(l:List Int):(intA q l).size=l.length:=by simp [intA]
theorem lget_map (q:IntKind):∀(l:List Int) (k:Nat),k<l.length→lget (l.map (Value.int q)) k=.int q (l.getD k 0)
  | [],k,h=>by simp at h
  | x::r,0,_=>rfl
  | x::r,k+1,h=>by
    show lget (r.map (Value.int q)) k=_
    rw [lget_map q r k (by simpa using h)]
    simp
theorem intA_get {q:IntKind}{l:List Int}{k:Nat}(h:k<l.length):getInt (intA q l) k=l.getD k 0:=by
  unfold getInt intA;rw [lget_map q l k h]
theorem intA_is {q:IntKind}{l:List Int}{k:Nat}(h:k<l.length):isInt q (intA q l) k=true:=by
  unfold isInt intA;rw [lget_map q l k h];simp
theorem intA_fz (q:IntKind)(l:List Int):allFz (intA q l)=true:=by
  unfold allFz intA
  rw [List.all_eq_true]
  intro v hv
  simp only [List.mem_map]at hv
  obtain ⟨x,_,rfl⟩:=hv
  rfl
theorem intA_app (q:IntKind)(l m:List Int):intA q l++intA q m=intA q (l++m):=by
  apply Array.ext'
  simp [intA]
theorem intA_all {q:IntKind}{l:List Int}{n:Nat}(h:n=l.length):(intA q l).extract 0 n=intA q l:=by
  rw [h,← intA_size q l];exact Array.extract_size
theorem intA_set (q:IntKind)(l:List Int)(i:Nat)(v:Int):wcells (intA q l) i [.int q v]=intA q (l.set i v):=by
  show (intA q l).setIfInBounds i (.int q v)=_
  apply Array.ext'
  simp [intA,List.map_set]
theorem intA_row (n:Nat):zrow ⟨[.int .i64 0]⟩ n=intA .i64 (List.replicate n 0):=by
  apply Array.ext'
  unfold zrow zeroRow intA
  rw [Array.toList_map,List.map_replicate]
  apply List.ext_getElem
  · simp
  · intro i h1 h2
    simp [Nat.mod_one]
def BX (l:List Int):Prop:=∀x∈l,0≤x∧x<256
theorem BX.app {l m:List Int}(h:BX l) (k:BX m):BX (l++m):=by
  intro x hx
  rcases List.mem_append.1 hx with h1 | h1
  · exact h x h1
  · exact k x h1
theorem BX.bl {l:List Int}(h:BX l) (hn:l.length≤maxLen):BL (intA .u8 l) l.length:=by
  have hm:∀k,k<l.length→l.getD k 0∈l:=fun k hk=>by
    rw [List.getD_eq_getElem?_getD,List.getElem?_eq_getElem hk];exact List.getElem_mem hk
  exact ⟨intA_size _ _,hn,fun k hk=>intA_is hk,fun k hk=>by rw [intA_get hk];exact (h _ (hm k hk)).1,fun k hk=>by rw [intA_get hk];exact (h _ (hm k hk)).2⟩
def strI (s:ByteArray):List Int:=s.data.toList.map fun b=>(b.toNat:Int)
theorem strI_eq (s:ByteArray):strBytes s=intA .u8 (strI s):=by
  apply Array.ext'
  simp [strBytes,intA,strI]
theorem strI_len (s:ByteArray):(strI s).length=s.size:=by
  simp [strI]
theorem strI_bx (s:ByteArray):BX (strI s):=by
  intro x hx
  simp only [strI,List.mem_map]at hx
  obtain ⟨b,_,rfl⟩:=hx
  have:=b.toNat_lt
  omega
theorem intA_u8 {l:List Int}{n:Nat}(h:n=l.length):allU8 (intA .u8 l) 0 n=true:=by
  unfold allU8
  rw [Nat.zero_add,intA_all h,intA_size,decide_eq_true (by omega),Bool.true_and]
  unfold intA
  rw [List.all_eq_true]
  intro v hv
  simp only [List.mem_map]at hv
  obtain ⟨x,_,rfl⟩:=hv
  rfl
theorem strEq_self (s:ByteArray):strEq s s=true:=by unfold strEq;exact BEq.rfl
theorem loop_fst3 {X D:Type}{rd:X→RT (Sum X D)}{S T:Nat→X}{E:Nat→Int}{n:Nat}{bad fin:D}
    (hs:∀k,k<n→(rd (S k)).val=some (if E k=0 then .inl (S (k+1)) else .inl (T (k+1)))) (ht:∀k,k<n→(rd (T (k+1))).val=some (.inr bad)) (hf:(rd (S n)).val=some (.inr fin)) :
    ∀m k,k+m=n→loopR rd (S k)=some (if (fst1 E m k).isSome=true then bad else fin)
  | 0,k,e=>by
    obtain rfl:k=n:=by omega
    exact loopR_done hf
  | m+1,k,e=>by
    have h:=hs k (by omega)
    unfold fst1
    by_cases he:E k=0
    · rw [if_pos he]at h
      rw [loopR_next h,if_pos he]
      exact loop_fst3 hs ht hf m (k+1) (by omega)
    · rw [if_neg he]at h
      rw [loopR_next h,if_neg he,loopR_done (ht k (by omega))]
      rfl
theorem loop_iterK {X D σ:Type}{rd:X→RT (Sum X D)}{S:Nat→σ→X}{f:Nat→σ→σ}{n:Nat}{fin:σ→D}{I:Nat→σ→Prop}(hI:∀k s,k<n→I k s→I (k+1) (f k s))
    (hs:∀k s,k<n→I k s→(rd (S k s)).val=some (.inl (S (k+1) (f k s)))) (hf:∀s,I n s→(rd (S n s)).val=some (.inr (fin s))) :
    ∀m k s,k+m=n→I k s→loopR rd (S k s)=some (fin (iterN f m k s))
  | 0,k,s,e,h=>by
    obtain rfl:k=n:=by omega
    exact loopR_done (hf s h)
  | m+1,k,s,e,h=>by
    rw [loopR_next (hs k s (by omega) h)]
    exact loop_iterK hI hs hf m (k+1) (f k s) (by omega) (hI k s (by omega) h)
theorem iterN_invK {σ:Type}{f:Nat→σ→σ}{I:Nat→σ→Prop}{n:Nat}(hI:∀k s,k<n→I k s→I (k+1) (f k s)):∀m k s,k+m=n→I k s→I n (iterN f m k s)
  | 0,k,s,e,h=>by
    obtain rfl:k=n:=by omega
    exact h
  | m+1,k,s,e,h=>iterN_invK hI m (k+1) _ (by omega) (hI k s (by omega) h)
theorem wrapU8_rng (x:Int):0≤IntKind.wrap .u8 x∧IntKind.wrap .u8 x<256:=by
  simp only [IntKind.wrap,IntKind.bits,IntKind.signed,Bool.false_and,Bool.false_eq_true,if_false]
  omega
end
end Go.Gi
namespace Go.Proofs.Ytoojllndfjamgaa
open Go.Gi Go.RowKit
theorem noNG_of {P : Program} (h : (P.funcs.toList.all fun fn=>!(fn.name == "runtime.NumGoroutine")) = true) : NoNG P:=by
  intro f fn hf _
  rw [List.all_eq_true]at h
  have:=h fn (by rw [Array.mem_toList_iff];exact Array.mem_of_getElem? hf)
  simpa using this
theorem noNG:NoNG Try.prog:=noNG_of (by decide +kernel)
theorem mixed:Try.prog.follows .mixedOrders=true:=by decide +kernel
end Go.Proofs.Ytoojllndfjamgaa
namespace Go.Proofs.Ytoojllndfjamgaa.Old
end Go.Proofs.Ytoojllndfjamgaa.Old
namespace Go.Proofs.Ytoojllndfjamgaa
open Go.Gi Go.RowKit Go.Proofs.Ytoojllndfjamgaa.Old
noncomputable section
set_option maxRecDepth 100000
set_option maxHeartbeats 4000000
structure R101 where
  r0:Bool
structure A101 where
  a0:Int
def rt101 (a0:Int):RT R101 :=
  .br (decide ((97:Int)≤a0)) (.leaf ⟨(decide (a0≤(122:Int)))⟩) (.leaf ⟨false⟩)
def en101 (r:R101):Value:=(.bool r.r0)
theorem T101  (a0:Int):evC Try.prog (Ans.c (fun _=>none:Ans)) 60 (.call 101 ⟨[(.int .u8 a0)]⟩ ⟨[],0,[]⟩) (frzK [0])=(rt101 a0).out (fun r=>.ret (en101 r) ⟨[],0,[]⟩):=by kernel_rfl
def F101 (a0:Int):Option R101:=(rt101 a0).val
section
variable (a0:Int)
def F101_ok:Bool:=(F101 a0).isSome
def F101_0:Bool:=match F101 a0 with | some r=>r.r0 | none=>false
end
def dec101:Task→Option (A101×Hp)
  | .call g ⟨[(.int .u8 a0)]⟩ h=>(match Nat.beq g 101 with | true=>some (⟨a0⟩,h) | false=>none)
  | _=>none
def alt101 (x:A101)(h:Hp):AT:=.br (F101_ok x.a0) (.leaf (.ret (.bool (F101_0 x.a0)) h)) .no
def p101:Ans:=fnAns dec101 alt101
theorem ha101:∀(x:A101) (h:Hp)(o:Out),(alt101 x h).out=some o→∃r,(rt101 x.a0).val=some r∧o=.ret (en101 r) h:=by
  intro x h o e
  unfold alt101 at e
  simp only [AT.out]at e
  obtain ⟨g,e⟩:=cond_some e
  unfold F101_ok at g
  obtain ⟨r,hF⟩:=Option.isSome_iff_exists.1 g
  have hv:F101 x.a0=(rt101 x.a0).val:=by delta F101;exact rfl
  refine ⟨r,hv.symm.trans hF,?_⟩
  simp only [Option.some.injEq]at e
  rw [← e]
  have k0:F101_0 x.a0=r.r0:=by
    show (match F101 x.a0 with | some r=>r.r0 | none=>false)=r.r0
    rw [hF]
  rw [k0]<;>rfl
theorem hd101:∀(t:Task) (x:A101)(h:Hp),dec101 t=some (x,h)→t=.call 101 ⟨[(.int .u8 x.a0)]⟩ h:=by
  intro t x h e
  unfold dec101 at e
  split at e
  case h_2=>cases e
  split at e
  case h_2=>cases e
  rename_i hg
  simp only [Option.some.injEq,Prod.mk.injEq]at e
  obtain ⟨rfl,rfl⟩:=e
  rw [Nat.eq_of_beq_eq_true hg]
theorem known101:Known Try.prog p101:=by
  exact Known.fn noNG mixed (Known.nothing Try.prog) (n:=60) (zs:=[0]) 101 (fun x:A101=>[(.int .u8 x.a0)]) (fun x=>rt101 x.a0) en101 (fun x=>T101  x.a0) (fun x=>rfl) dec101 alt101 hd101 ha101
structure R102 where
  r0:Bool
structure A102 where
  a0:Int
def rt102 (a0:Int):RT R102 :=
  .br (decide ((48:Int)≤a0)) (.leaf ⟨(decide (a0≤(57:Int)))⟩) (.leaf ⟨false⟩)
def en102 (r:R102):Value:=(.bool r.r0)
theorem T102  (a0:Int):evC Try.prog (Ans.c (fun _=>none:Ans)) 60 (.call 102 ⟨[(.int .u8 a0)]⟩ ⟨[],0,[]⟩) (frzK [0])=(rt102 a0).out (fun r=>.ret (en102 r) ⟨[],0,[]⟩):=by kernel_rfl
def F102 (a0:Int):Option R102:=(rt102 a0).val
section
variable (a0:Int)
def F102_ok:Bool:=(F102 a0).isSome
def F102_0:Bool:=match F102 a0 with | some r=>r.r0 | none=>false
end
def dec102:Task→Option (A102×Hp)
  | .call g ⟨[(.int .u8 a0)]⟩ h=>(match Nat.beq g 102 with | true=>some (⟨a0⟩,h) | false=>none)
  | _=>none
def alt102 (x:A102)(h:Hp):AT:=.br (F102_ok x.a0) (.leaf (.ret (.bool (F102_0 x.a0)) h)) .no
def p102:Ans:=fnAns dec102 alt102
theorem ha102:∀(x:A102) (h:Hp)(o:Out),(alt102 x h).out=some o→∃r,(rt102 x.a0).val=some r∧o=.ret (en102 r) h:=by
  intro x h o e
  unfold alt102 at e
  simp only [AT.out]at e
  obtain ⟨g,e⟩:=cond_some e
  unfold F102_ok at g
  obtain ⟨r,hF⟩:=Option.isSome_iff_exists.1 g
  have hv:F102 x.a0=(rt102 x.a0).val:=by delta F102;exact rfl
  refine ⟨r,hv.symm.trans hF,?_⟩
  simp only [Option.some.injEq]at e
  rw [← e]
  have k0:F102_0 x.a0=r.r0:=by
    show (match F102 x.a0 with | some r=>r.r0 | none=>false)=r.r0
    rw [hF]
  rw [k0]<;>rfl
theorem hd102:∀(t:Task) (x:A102)(h:Hp),dec102 t=some (x,h)→t=.call 102 ⟨[(.int .u8 x.a0)]⟩ h:=by
  intro t x h e
  unfold dec102 at e
  split at e
  case h_2=>cases e
  split at e
  case h_2=>cases e
  rename_i hg
  simp only [Option.some.injEq,Prod.mk.injEq]at e
  obtain ⟨rfl,rfl⟩:=e
  rw [Nat.eq_of_beq_eq_true hg]
theorem known102:Known Try.prog p102:=by
  exact Known.fn noNG mixed (Known.nothing Try.prog) (n:=60) (zs:=[0]) 102 (fun x:A102=>[(.int .u8 x.a0)]) (fun x=>rt102 x.a0) en102 (fun x=>T102  x.a0) (fun x=>rfl) dec102 alt102 hd102 ha102
structure X79_0 where
  v0:ByteArray
  v1:Int
inductive D79_0 where
  | k0 (d0:Bool)
  | k1
def Lp79_0:LoopOf X79_0 D79_0 where
  c:=(theLoop Try.prog 79 0)
  N:=40
  M:=0
  S:=[0,3]
  sl:=fun x=>[(.string x.v0),(.int .i64 x.v1)]
  hp:=fun x=>[]
  ex:=fun d=>match d with | .k0 ..=>.ret | .k1 ..=>.exit 0
  pick:=fun e=>match e with | .ret=>[2] | .exit 0=>[] | _=>[]
  dv:=fun d=>match d with | .k0 d0=>[(.bool d0)] | .k1 =>[]
  dh:=fun d=>match d with | .k0 d0=>[] | .k1 =>[]
theorem ok79_0:Lp79_0.Ok:=⟨fun x=>rfl,fun x=>rfl,fun x=>rfl,fun x=>rfl,fun d=>by cases d<;>rfl,fun d=>by cases d<;>rfl,fun d=>by cases d<;>rfl,fun d=>by cases d<;>(intro h;cases h),fun d=>by cases d<;>rfl,fun d=>by cases d<;>rfl⟩
def rd79_0 (x:X79_0):RT (Sum X79_0 D79_0):=match x with
  | ⟨v0,v1⟩ =>
     .br (decide (v1<(Int.ofNat (ByteArray.size v0)))) (.br (and (decide ((0:Int)≤v1)) (decide (v1<(Int.ofNat (ByteArray.size v0))))) (.br (F101_ok (getByte v0 (Int.toNat v1))) (.br (not (F101_0 (getByte v0 (Int.toNat v1)))) (.br (F102_ok (getByte v0 (Int.toNat v1))) (.br (not (F102_0 (getByte v0 (Int.toNat v1)))) (.br (not (decide ((getByte v0 (Int.toNat v1))=(45:Int)))) (.leaf (.inr (.k0 (false)))) (.leaf (.inl ⟨v0,(IntKind.wrap .i64 (v1+(1:Int)))⟩))) (.leaf (.inl ⟨v0,(IntKind.wrap .i64 (v1+(1:Int)))⟩))) (.no)) (.leaf (.inl ⟨v0,(IntKind.wrap .i64 (v1+(1:Int)))⟩))) (.no)) (.no)) (.leaf (.inr (.k1)))
theorem T79_0  (y:List Value) (v0:ByteArray) (v1:Int):evC Try.prog (Ans.c (p101.or p102)) 60 (.code none (theLoop Try.prog 79 0) ⟨sets (junkF 40 y) [(0,(.string v0)),(3,(.int .i64 v1))],[],⟨[],0,[]⟩⟩) (sumK 0 40 Lp79_0.pk)=(rd79_0 ⟨v0,v1⟩).out Lp79_0.enc:=by kernel_rfl
def L79_0 (x:X79_0):Option D79_0:=loopR rd79_0 x
section
variable (x:X79_0)
def L79_0_k0:Bool:=match L79_0 x with | some (.k0 ..)=>true | _=>false
def Qa0:Bool:=match L79_0 x with | some (.k0 d)=>d | _=>false
def L79_0_k1:Bool:=match L79_0 x with | some (.k1 ..)=>true | _=>false
end
def dec79_0:Task→Option (Code×X79_0)
  | .code none (.loop code) ⟨t,[],⟨[],0,[]⟩⟩ =>
    (match Nat.beq (firstReg code) 4,lenIs t 40,lget t 0,lget t 3 with
    | true,true,(.string v0),(.int .i64 v1)=>some (code,⟨v0,v1⟩)
    | _,_,_,_=>none)
  | _=>none
def alt79_0 (x:X79_0)(j:List Value):AT:=.br (L79_0_k0 x) (loopEnd 40 (.ret) [(2,(.bool (Qa0 x)))] ⟨[],0,[]⟩ j) (.br (L79_0_k1 x) (loopEnd 40 (.exit 0) [] ⟨[],0,[]⟩ j) (.no))
def la79_0 (J:Task→List Value):Ans:=loopAns Lp79_0.c dec79_0 alt79_0 J
theorem ha79_0:∀(x:X79_0) (j:List Value)(o:Out),(alt79_0 x j).out=some o→∃d,loopR rd79_0 x=some d∧o=Lp79_0.tail d j:=by
  intro x j o h
  unfold alt79_0 at h
  cases hL:L79_0 x with
  | none=>simp [L79_0_k0,Qa0,L79_0_k1,hL,AT.out]at h
  | some d =>
    refine ⟨d,hL,?_⟩
    cases d<;>(simp only [L79_0_k0,Qa0,L79_0_k1,hL,AT.out,loopEnd,cond_true,cond_false,Option.some.injEq]at h;rw [← h];rfl)
theorem hd79_0:∀(t:Task) (c:Code)(x:X79_0),dec79_0 t=some (c,x)→c=Lp79_0.c→∃T,t=.code none (.loop Lp79_0.c) ⟨T,[],⟨Lp79_0.hp x,0,[]⟩⟩∧T.length=Lp79_0.N∧∀kv∈Lp79_0.S.zip (Lp79_0.sl x),lget T kv.1=kv.2:=by
  intro t c x h hc
  unfold dec79_0 at h
  split at h
  case h_2=>cases h
  split at h
  case h_2=>cases h
  simp only [Option.some.injEq,Prod.mk.injEq]at h
  obtain ⟨rfl,rfl⟩:=h
  subst hc
  refine ⟨_,rfl,lenIs_eq _ _ (by assumption),?_⟩
  intro kv hk
  simp only [Lp79_0,List.zip_cons_cons,List.zip_nil_right,List.mem_cons,List.not_mem_nil,or_false]at hk
  rcases hk with rfl | rfl<;>assumption
theorem kl79_0:∃J,Known Try.prog (la79_0 J):=by
  exact LoopOf.known noNG mixed ok79_0 (by decide) (by decide) (Known.or known101 known102) (n:=60) (rd:=rd79_0) (fun x j=>T79_0  j x.v0 x.v1) dec79_0 alt79_0 hd79_0 ha79_0
structure R79 where
  r0:Bool
structure A79 where
  a0:ByteArray
def rt79 (a0:ByteArray):RT R79 :=
  .br (decide ((Int.ofNat (ByteArray.size a0))<(1:Int))) (.leaf ⟨false⟩) (.br (decide ((24:Int)<(Int.ofNat (ByteArray.size a0)))) (.leaf ⟨false⟩) (.br (and true (decide ((0:Int)<(Int.ofNat (ByteArray.size a0))))) (.br (F101_ok (getByte a0 0)) (.br (not (F101_0 (getByte a0 0))) (.leaf ⟨false⟩)
      (.sw (eqCode (Lp79_0.c) (Lp79_0.c)) true (by simp only [eqCode_self,arrEq_self]) (.br (L79_0_k0 (X79_0.mk a0 (1:Int))) (.leaf ⟨(Qa0 (X79_0.mk a0 (1:Int)))⟩) (.br (L79_0_k1 (X79_0.mk a0 (1:Int))) (.leaf ⟨true⟩) (.no))) (.no))) (.no)) (.no)))
def en79 (r:R79):Value:=(.bool r.r0)
theorem T79 (J0:Task→List Value)(a0:ByteArray):evC Try.prog (Ans.c (p101.or (p102.or (la79_0 J0)))) 60 (.call 79 ⟨[(.string a0)]⟩ ⟨[],0,[]⟩) (frzK [0])=(rt79 a0).out (fun r=>.ret (en79 r) ⟨[],0,[]⟩):=by kernel_rfl
def F79 (a0:ByteArray):Option R79:=(rt79 a0).val
section
variable (a0:ByteArray)
def F79_ok:Bool:=(F79 a0).isSome
def F79_0:Bool:=match F79 a0 with | some r=>r.r0 | none=>false
end
def dec79:Task→Option (A79×Hp)
  | .call g ⟨[(.string a0)]⟩ h=>(match Nat.beq g 79 with | true=>some (⟨a0⟩,h) | false=>none)
  | _=>none
def alt79 (x:A79)(h:Hp):AT:=.br (F79_ok x.a0) (.leaf (.ret (.bool (F79_0 x.a0)) h)) .no
def p79:Ans:=fnAns dec79 alt79
theorem ha79:∀(x:A79) (h:Hp)(o:Out),(alt79 x h).out=some o→∃r,(rt79 x.a0).val=some r∧o=.ret (en79 r) h:=by
  intro x h o e
  unfold alt79 at e
  simp only [AT.out]at e
  obtain ⟨g,e⟩:=cond_some e
  unfold F79_ok at g
  obtain ⟨r,hF⟩:=Option.isSome_iff_exists.1 g
  have hv:F79 x.a0=(rt79 x.a0).val:=by delta F79;exact rfl
  refine ⟨r,hv.symm.trans hF,?_⟩
  simp only [Option.some.injEq]at e
  rw [← e]
  have k0:F79_0 x.a0=r.r0:=by
    show (match F79 x.a0 with | some r=>r.r0 | none=>false)=r.r0
    rw [hF]
  rw [k0]<;>rfl
theorem hd79:∀(t:Task) (x:A79)(h:Hp),dec79 t=some (x,h)→t=.call 79 ⟨[(.string x.a0)]⟩ h:=by
  intro t x h e
  unfold dec79 at e
  split at e
  case h_2=>cases e
  split at e
  case h_2=>cases e
  rename_i hg
  simp only [Option.some.injEq,Prod.mk.injEq]at e
  obtain ⟨rfl,rfl⟩:=e
  rw [Nat.eq_of_beq_eq_true hg]
theorem known79:Known Try.prog p79:=by
  obtain ⟨J0,hJ0⟩:=kl79_0
  exact Known.fn noNG mixed (Known.or known101 (Known.or known102 hJ0)) (n:=60) (zs:=[0]) 79 (fun x:A79=>[(.string x.a0)]) (fun x=>rt79 x.a0) en79 (fun x=>T79 J0 x.a0) (fun x=>rfl) dec79 alt79 hd79 ha79
structure X85_0 where
  v0:ByteArray
  v1:Int
inductive D85_0 where
  | k0 (d0:Bool)
  | k1
def Lp85_0:LoopOf X85_0 D85_0 where
  c:=(theLoop Try.prog 85 0)
  N:=48
  M:=0
  S:=[0,3]
  sl:=fun x=>[(.string x.v0),(.int .i64 x.v1)]
  hp:=fun x=>[]
  ex:=fun d=>match d with | .k0 ..=>.ret | .k1 ..=>.exit 0
  pick:=fun e=>match e with | .ret=>[2] | .exit 0=>[] | _=>[]
  dv:=fun d=>match d with | .k0 d0=>[(.bool d0)] | .k1 =>[]
  dh:=fun d=>match d with | .k0 d0=>[] | .k1 =>[]
theorem ok85_0:Lp85_0.Ok:=⟨fun x=>rfl,fun x=>rfl,fun x=>rfl,fun x=>rfl,fun d=>by cases d<;>rfl,fun d=>by cases d<;>rfl,fun d=>by cases d<;>rfl,fun d=>by cases d<;>(intro h;cases h),fun d=>by cases d<;>rfl,fun d=>by cases d<;>rfl⟩
def rd85_0 (x:X85_0):RT (Sum X85_0 D85_0):=match x with
  | ⟨v0,v1⟩ =>
     .br (decide (v1<(Int.ofNat (ByteArray.size v0)))) (.br (and (decide ((0:Int)≤v1)) (decide (v1<(Int.ofNat (ByteArray.size v0))))) (.br (decide ((97:Int)≤(getByte v0 (Int.toNat v1)))) (.br (not (decide ((getByte v0 (Int.toNat v1))≤(122:Int)))) (.br (decide (v1=(0:Int))) (.leaf (.inr (.k0 (false)))) (.br (decide ((48:Int)≤(getByte v0 (Int.toNat v1)))) (.br (decide ((getByte v0 (Int.toNat v1))≤(57:Int))) (.leaf (.inl ⟨v0,(IntKind.wrap .i64 (v1+(1:Int)))⟩)) (.br (not (decide ((getByte v0 (Int.toNat v1))=(45:Int)))) (.leaf (.inr (.k0 (false)))) (.leaf (.inl ⟨v0,(IntKind.wrap .i64 (v1+(1:Int)))⟩)))) (.br (not (decide ((getByte v0 (Int.toNat v1))=(45:Int)))) (.leaf (.inr (.k0 (false)))) (.leaf (.inl ⟨v0,(IntKind.wrap .i64 (v1+(1:Int)))⟩))))) (.leaf (.inl ⟨v0,(IntKind.wrap .i64 (v1+(1:Int)))⟩))) (.br (decide (v1=(0:Int))) (.leaf (.inr (.k0 (false)))) (.br (decide ((48:Int)≤(getByte v0 (Int.toNat v1))))
     (.br (decide ((getByte v0 (Int.toNat v1))≤(57:Int))) (.leaf (.inl ⟨v0,(IntKind.wrap .i64 (v1+(1:Int)))⟩)) (.br (not (decide ((getByte v0 (Int.toNat v1))=(45:Int)))) (.leaf (.inr (.k0 (false)))) (.leaf (.inl ⟨v0,(IntKind.wrap .i64 (v1+(1:Int)))⟩)))) (.br (not (decide ((getByte v0 (Int.toNat v1))=(45:Int)))) (.leaf (.inr (.k0 (false)))) (.leaf (.inl ⟨v0,(IntKind.wrap .i64 (v1+(1:Int)))⟩)))))) (.no)) (.leaf (.inr (.k1)))
theorem T85_0  (y:List Value) (v0:ByteArray) (v1:Int):evC Try.prog (Ans.c (fun _=>none:Ans)) 60 (.code none (theLoop Try.prog 85 0) ⟨sets (junkF 48 y) [(0,(.string v0)),(3,(.int .i64 v1))],[],⟨[],0,[]⟩⟩) (sumK 0 48 Lp85_0.pk)=(rd85_0 ⟨v0,v1⟩).out Lp85_0.enc:=by kernel_rfl
def L85_0 (x:X85_0):Option D85_0:=loopR rd85_0 x
section
variable (x:X85_0)
def L85_0_k0:Bool:=match L85_0 x with | some (.k0 ..)=>true | _=>false
def Qb0:Bool:=match L85_0 x with | some (.k0 d)=>d | _=>false
def L85_0_k1:Bool:=match L85_0 x with | some (.k1 ..)=>true | _=>false
end
def dec85_0:Task→Option (Code×X85_0)
  | .code none (.loop code) ⟨t,[],⟨[],0,[]⟩⟩ =>
    (match Nat.beq (firstReg code) 4,lenIs t 48,lget t 0,lget t 3 with
    | true,true,(.string v0),(.int .i64 v1)=>some (code,⟨v0,v1⟩)
    | _,_,_,_=>none)
  | _=>none
def alt85_0 (x:X85_0)(j:List Value):AT:=.br (L85_0_k0 x) (loopEnd 48 (.ret) [(2,(.bool (Qb0 x)))] ⟨[],0,[]⟩ j) (.br (L85_0_k1 x) (loopEnd 48 (.exit 0) [] ⟨[],0,[]⟩ j) (.no))
def la85_0 (J:Task→List Value):Ans:=loopAns Lp85_0.c dec85_0 alt85_0 J
theorem ha85_0:∀(x:X85_0) (j:List Value)(o:Out),(alt85_0 x j).out=some o→∃d,loopR rd85_0 x=some d∧o=Lp85_0.tail d j:=by
  intro x j o h
  unfold alt85_0 at h
  cases hL:L85_0 x with
  | none=>simp [L85_0_k0,Qb0,L85_0_k1,hL,AT.out]at h
  | some d =>
    refine ⟨d,hL,?_⟩
    cases d<;>(simp only [L85_0_k0,Qb0,L85_0_k1,hL,AT.out,loopEnd,cond_true,cond_false,Option.some.injEq]at h;rw [← h];rfl)
theorem hd85_0:∀(t:Task) (c:Code)(x:X85_0),dec85_0 t=some (c,x)→c=Lp85_0.c→∃T,t=.code none (.loop Lp85_0.c) ⟨T,[],⟨Lp85_0.hp x,0,[]⟩⟩∧T.length=Lp85_0.N∧∀kv∈Lp85_0.S.zip (Lp85_0.sl x),lget T kv.1=kv.2:=by
  intro t c x h hc
  unfold dec85_0 at h
  split at h
  case h_2=>cases h
  split at h
  case h_2=>cases h
  simp only [Option.some.injEq,Prod.mk.injEq]at h
  obtain ⟨rfl,rfl⟩:=h
  subst hc
  refine ⟨_,rfl,lenIs_eq _ _ (by assumption),?_⟩
  intro kv hk
  simp only [Lp85_0,List.zip_cons_cons,List.zip_nil_right,List.mem_cons,List.not_mem_nil,or_false]at hk
  rcases hk with rfl | rfl<;>assumption
theorem kl85_0:∃J,Known Try.prog (la85_0 J):=by
  exact LoopOf.known noNG mixed ok85_0 (by decide) (by decide) (Known.nothing Try.prog) (n:=60) (rd:=rd85_0) (fun x j=>T85_0  j x.v0 x.v1) dec85_0 alt85_0 hd85_0 ha85_0
structure R85 where
  r0:Bool
structure A85 where
  a0:ByteArray
def rt85 (a0:ByteArray):RT R85 :=
  .br (decide ((Int.ofNat (ByteArray.size a0))<(1:Int))) (.leaf ⟨false⟩) (.br (decide ((24:Int)<(Int.ofNat (ByteArray.size a0)))) (.leaf ⟨false⟩)
   (.sw (eqCode (Lp85_0.c) (Lp85_0.c)) true (by simp only [eqCode_self,arrEq_self]) (.br (L85_0_k0 (X85_0.mk a0 (0:Int))) (.leaf ⟨(Qb0 (X85_0.mk a0 (0:Int)))⟩) (.br (L85_0_k1 (X85_0.mk a0 (0:Int))) (.leaf ⟨true⟩) (.no))) (.no)))
def en85 (r:R85):Value:=(.bool r.r0)
theorem T85 (J0:Task→List Value)(a0:ByteArray):evC Try.prog (Ans.c (la85_0 J0)) 60 (.call 85 ⟨[(.string a0)]⟩ ⟨[],0,[]⟩) (frzK [0])=(rt85 a0).out (fun r=>.ret (en85 r) ⟨[],0,[]⟩):=by kernel_rfl
def F85 (a0:ByteArray):Option R85:=(rt85 a0).val
section
variable (a0:ByteArray)
def F85_ok:Bool:=(F85 a0).isSome
def F85_0:Bool:=match F85 a0 with | some r=>r.r0 | none=>false
end
def dec85:Task→Option (A85×Hp)
  | .call g ⟨[(.string a0)]⟩ h=>(match Nat.beq g 85 with | true=>some (⟨a0⟩,h) | false=>none)
  | _=>none
def alt85 (x:A85)(h:Hp):AT:=.br (F85_ok x.a0) (.leaf (.ret (.bool (F85_0 x.a0)) h)) .no
def p85:Ans:=fnAns dec85 alt85
theorem ha85:∀(x:A85) (h:Hp)(o:Out),(alt85 x h).out=some o→∃r,(rt85 x.a0).val=some r∧o=.ret (en85 r) h:=by
  intro x h o e
  unfold alt85 at e
  simp only [AT.out]at e
  obtain ⟨g,e⟩:=cond_some e
  unfold F85_ok at g
  obtain ⟨r,hF⟩:=Option.isSome_iff_exists.1 g
  have hv:F85 x.a0=(rt85 x.a0).val:=by delta F85;exact rfl
  refine ⟨r,hv.symm.trans hF,?_⟩
  simp only [Option.some.injEq]at e
  rw [← e]
  have k0:F85_0 x.a0=r.r0:=by
    show (match F85 x.a0 with | some r=>r.r0 | none=>false)=r.r0
    rw [hF]
  rw [k0]<;>rfl
theorem hd85:∀(t:Task) (x:A85)(h:Hp),dec85 t=some (x,h)→t=.call 85 ⟨[(.string x.a0)]⟩ h:=by
  intro t x h e
  unfold dec85 at e
  split at e
  case h_2=>cases e
  split at e
  case h_2=>cases e
  rename_i hg
  simp only [Option.some.injEq,Prod.mk.injEq]at e
  obtain ⟨rfl,rfl⟩:=e
  rw [Nat.eq_of_beq_eq_true hg]
theorem known85:Known Try.prog p85:=by
  obtain ⟨J0,hJ0⟩:=kl85_0
  exact Known.fn noNG mixed hJ0 (n:=60) (zs:=[0]) 85 (fun x:A85=>[(.string x.a0)]) (fun x=>rt85 x.a0) en85 (fun x=>T85 J0 x.a0) (fun x=>rfl) dec85 alt85 hd85 ha85
end
end Go.Proofs.Ytoojllndfjamgaa
namespace Go.Proofs.Ytoojllndfjamgaa
open Go.Gi Go.RowKit
noncomputable section
set_option maxRecDepth 100000
def smB (c:Int):Bool:=decide (97≤c)&&decide (c≤122)
def dgB (c:Int):Bool:=decide (48≤c)&&decide (c≤57)
def nmC (c:Int)(k:Nat):Int:=if smB c=true then 0 else if k=0 then 1 else if dgB c=true then 0 else if c=45 then 0 else 1
def nmE (s:ByteArray)(k:Nat):Int:=nmC (getByte s k) k
def nmB (s:ByteArray):Bool:=decide (1≤s.size)&&(decide (s.size≤24)&&(fst1 (nmE s) s.size 0).isNone)
theorem F101_of (c:Int):F101_ok c=true∧F101_0 c=smB c:=by
  have q:F101 c=some ⟨smB c⟩:=by
    unfold F101 rt101 smB
    by_cases h:(97:Int)≤c<;>simp [RT.val,h]
  exact ⟨by simp only [F101_ok,q];rfl,by simp only [F101_0,q]⟩
theorem F102_of (c:Int):F102_ok c=true∧F102_0 c=dgB c:=by
  have q:F102 c=some ⟨dgB c⟩:=by
    unfold F102 rt102 dgB
    by_cases h:(48:Int)≤c<;>simp [RT.val,h]
  exact ⟨by simp only [F102_ok,q];rfl,by simp only [F102_0,q]⟩
theorem nm79 (c:Int)(k:Nat)(hk0:¬k=0)(S:X79_0)(D:D79_0):(cond (!smB c) (cond (!dgB c) (cond (!decide (c=45)) (some (Sum.inr D)) (some (Sum.inl S))) (some (Sum.inl S))) (some (Sum.inl S)))=some (if nmC c k=0 then Sum.inl S else Sum.inr D):=by
  unfold nmC
  cases smB c<;>cases dgB c<;>by_cases hc:c=45<;>simp [hc,hk0]
theorem nm85 (c:Int)(k:Nat)(S:X85_0)(D:D85_0):(cond (decide (97≤c)) (cond (!decide (c≤122)) (cond (decide (k=0)) (some (Sum.inr D)) (cond (decide (48≤c)) (cond (decide (c≤57)) (some (Sum.inl S)) (cond (!decide (c=45)) (some (Sum.inr D)) (some (Sum.inl S)))) (cond (!decide (c=45)) (some (Sum.inr D)) (some (Sum.inl S))))) (some (Sum.inl S)))
 (cond (decide (k=0)) (some (Sum.inr D)) (cond (decide (48≤c)) (cond (decide (c≤57)) (some (Sum.inl S)) (cond (!decide (c=45)) (some (Sum.inr D)) (some (Sum.inl S)))) (cond (!decide (c=45)) (some (Sum.inr D)) (some (Sum.inl S))))))=some (if nmC c k=0 then Sum.inl S else Sum.inr D):=by
  unfold nmC smB dgB
  by_cases q6:k=0<;>by_cases q1:(97:Int)≤c<;>by_cases q2:c≤122<;>by_cases q3:(48:Int)≤c<;>by_cases q4:c≤57<;>by_cases q5:c=45<;>simp [q1,q2,q3,q4,q5,q6]
section
variable {s:ByteArray}
theorem step79 (hn:s.size≤1000)(k:Nat)(h1:1≤k)(hk:k<s.size):(rd79_0 ⟨s,(k:Int)⟩).val=some (if nmE s k=0 then .inl ⟨s,((k+1:Nat):Int)⟩ else .inr (.k0 false)):=by
  have hki:(k:Int)<(s.size:Int):=by omega
  have h0:(0:Int)≤(k:Int):=by omega
  have h3:IntKind.wrap .i64 ((k:Int)+1)=((k+1:Nat):Int):=by rw [wrap64_id (by omega) (by omega)];omega
  have hk0:¬k=0:=by omega
  show _=some (if nmC (getByte s k) k=0 then _ else _)
  simp only [rd79_0,RT.val,hki,h0,h3,(F101_of _).1,(F101_of _).2,(F102_of _).1,(F102_of _).2,Int.toNat_natCast,Int.ofNat_eq_natCast,decide_true,Bool.and_self,cond_true]
  exact nm79 _ _ hk0 _ _
theorem step85 (hn:s.size≤1000)(k:Nat)(hk:k<s.size):(rd85_0 ⟨s,(k:Int)⟩).val=some (if nmE s k=0 then .inl ⟨s,((k+1:Nat):Int)⟩ else .inr (.k0 false)):=by
  have hki:(k:Int)<(s.size:Int):=by omega
  have h0:(0:Int)≤(k:Int):=by omega
  have h3:IntKind.wrap .i64 ((k:Int)+1)=((k+1:Nat):Int):=by rw [wrap64_id (by omega) (by omega)];omega
  have hd:decide ((k:Int)=0)=decide (k=0):=by
    by_cases h:k=0<;>simp [h]
  show _=some (if nmC (getByte s k) k=0 then _ else _)
  simp only [rd85_0,RT.val,hki,h0,h3,hd,Int.toNat_natCast,Int.ofNat_eq_natCast,decide_true,Bool.and_self,cond_true]
  exact nm85 _ _ _ _
theorem F85_of:F85_ok s=true∧F85_0 s=nmB s:=by
  have q:F85 s=some ⟨nmB s⟩:=by
    unfold F85 rt85 nmB
    by_cases a1:s.size<1
    · have i1:(s.size:Int)<1:=by omega
      have i2:¬1≤s.size:=by omega
      simp only [RT.val,i1,i2,Int.ofNat_eq_natCast,decide_true,decide_false,cond_true,Bool.false_and]
    by_cases a2:24<s.size
    · have i1:¬(s.size:Int)<1:=by omega
      have i2:(24:Int)<(s.size:Int):=by omega
      have i3:¬s.size≤24:=by omega
      simp only [RT.val,i1,i2,i3,Int.ofNat_eq_natCast,decide_true,decide_false,cond_true,cond_false,Bool.false_and,Bool.and_false]
    have i1:¬(s.size:Int)<1:=by omega
    have i2:¬(24:Int)<(s.size:Int):=by omega
    have i3:s.size≤24:=by omega
    have i4:1≤s.size:=by omega
    have h1:¬(s.size:Int)<(s.size:Int):=by omega
    have l:L85_0 (X85_0.mk s 0)=some (match fst1 (nmE s) s.size 0 with | some (i,r)=>.k0 false | none=>.k1) :=
      loop_fst (rd:=rd85_0) (S:=fun k=>⟨s,(k:Int)⟩) (E:=nmE s) (n:=s.size) (err:=fun _ _=>.k0 false) (fin:=.k1) (fun k hk=>step85 (by omega) k hk)
        (by simp only [rd85_0,RT.val,h1,Int.ofNat_eq_natCast,decide_false,cond_false]) s.size 0 (by omega)
    cases hf:fst1 (nmE s) s.size 0 with
    | none =>
      rw [hf]at l
      simp only [RT.val,i1,i2,i3,i4,Int.ofNat_eq_natCast,L85_0_k0,L85_0_k1,Qb0,l,Option.isNone_none,decide_true,decide_false,cond_true,cond_false,Bool.and_self]
    | some p =>
      rw [hf]at l
      simp only [RT.val,i1,i2,i3,i4,Int.ofNat_eq_natCast,L85_0_k0,L85_0_k1,Qb0,l,Option.isNone_some,decide_true,decide_false,cond_true,cond_false,Bool.and_self,Bool.and_false]
  exact ⟨by simp only [F85_ok,q];rfl,by simp only [F85_0,q]⟩
theorem F79_of:F79_ok s=true∧F79_0 s=nmB s:=by
  have q:F79 s=some ⟨nmB s⟩:=by
    unfold F79 rt79 nmB
    by_cases a1:s.size<1
    · have i1:(s.size:Int)<1:=by omega
      have i2:¬1≤s.size:=by omega
      simp only [RT.val,i1,i2,Int.ofNat_eq_natCast,decide_true,decide_false,cond_true,Bool.false_and]
    by_cases a2:24<s.size
    · have i1:¬(s.size:Int)<1:=by omega
      have i2:(24:Int)<(s.size:Int):=by omega
      have i3:¬s.size≤24:=by omega
      simp only [RT.val,i1,i2,i3,Int.ofNat_eq_natCast,decide_true,decide_false,cond_true,cond_false,Bool.false_and,Bool.and_false]
    have i1:¬(s.size:Int)<1:=by omega
    have i2:¬(24:Int)<(s.size:Int):=by omega
    have i3:s.size≤24:=by omega
    have i4:1≤s.size:=by omega
    have i5:(0:Int)<(s.size:Int):=by omega
    have h1:¬(s.size:Int)<(s.size:Int):=by omega
    obtain ⟨m,hm⟩:∃m,s.size=m+1:=⟨s.size-1,by omega⟩
    have l:L79_0 (X79_0.mk s 1)=some (match fst1 (nmE s) m 1 with | some (i,r)=>.k0 false | none=>.k1):=by
      have:=loop_fst (rd:=rd79_0) (S:=fun k=>⟨s,((k+1:Nat):Int)⟩) (E:=fun k=>nmE s (k+1)) (n:=m) (err:=fun _ _=>.k0 false) (fin:=.k1) (fun k hk=>step79 (by omega) (k+1) (by omega) (by omega))
        (by rw [← hm];simp only [rd79_0,RT.val,h1,Int.ofNat_eq_natCast,decide_false,cond_false]) m 0 (by omega)
      have sh:∀m k,(fst1 (fun k=>nmE s (k+1)) m k).isNone=(fst1 (nmE s) m (k+1)).isNone:=by
        intro m
        induction m with
        | zero=>intro k;rfl
        | succ m ih =>
          intro k
          unfold fst1
          split
          · exact ih (k+1)
          · rfl
      have sh0:=sh m 0
      refine Eq.trans this ?_
      cases x1:fst1 (fun k=>nmE s (k+1)) m 0<;>cases x2:fst1 (nmE s) m (0+1)<;>rw [x1,x2]at sh0<;>first | rfl | cases sh0
    have e0:fst1 (nmE s) s.size 0=if smB (getByte s 0)=true then fst1 (nmE s) m 1 else some (0,1):=by
      rw [hm]
      show (if nmE s 0=0 then fst1 (nmE s) m 1 else some (0,nmE s 0))=_
      have e1:nmE s 0=if smB (getByte s 0)=true then 0 else 1:=by unfold nmE nmC;simp
      rw [e1]
      cases smB (getByte s 0)<;>rfl
    rw [e0]
    cases hs:smB (getByte s 0) with
    | false=>simp only [RT.val,i1,i2,i3,i4,i5,(F101_of _).1,(F101_of _).2,hs,Int.ofNat_eq_natCast,Bool.false_eq_true,if_false,Option.isNone_some,decide_true,decide_false,cond_true,cond_false,Bool.and_self,Bool.and_false,Bool.not_false]
    | true =>
      rw [if_pos rfl]
      cases hf:fst1 (nmE s) m 1 with
      | none =>
        rw [hf]at l
        simp only [RT.val,i1,i2,i3,i4,i5,(F101_of _).1,(F101_of _).2,hs,Int.ofNat_eq_natCast,L79_0_k0,L79_0_k1,Qa0,l,Option.isNone_none,decide_true,decide_false,cond_true,cond_false,Bool.and_self,Bool.not_true]
      | some p =>
        rw [hf]at l
        simp only [RT.val,i1,i2,i3,i4,i5,(F101_of _).1,(F101_of _).2,hs,Int.ofNat_eq_natCast,L79_0_k0,L79_0_k1,Qa0,l,Option.isNone_some,decide_true,decide_false,cond_true,cond_false,Bool.and_self,Bool.and_false,Bool.not_true]
  exact ⟨by simp only [F79_ok,q];rfl,by simp only [F79_0,q]⟩
end
end
end Go.Proofs.Ytoojllndfjamgaa
namespace Go.Proofs.Ytoojllndfjamgaa
open Go.ChangeShapes Go.WideShapes Go.ChangeAt Go.RowKit Go.Gi
set_option maxRecDepth 100000
theorem own:ownKnob Try.prog.godebug=none:=by kernel_rfl
theorem laidOut:laidOutB Try.prog=true:=by kernel_rfl
def C4:List Leaf:=[Leaf.str,(Leaf.int .i64),(Leaf.int .i64),(Leaf.int .i64)]
def I1:List Leaf:=[(Leaf.int .i64)]
theorem flat89:flatT Try.prog 18 89=true:=by kernel_rfl
theorem leaves89:leaves Try.prog false 18 89=C4:=by kernel_rfl
theorem cells89:Try.prog.cellsOf 89=4:=by kernel_rfl
theorem tyB39:tyB Try.prog 20 39=true:=by kernel_rfl
theorem tyB24:tyB Try.prog 20 24=true:=by kernel_rfl
section
variable {H:Type}{enc:TypeId×Value→H}{w:World}{r:Reach}{b0:Nat}{v:Value}{dd:DataW H}{p:List MemPlace}
theorem intsArg (hval:Value.okWide Try.prog w r b0 39 v)(h:DataW.Trod enc Try.prog w 0 (fun _=>true) true 39 v dd p):∃c n,VR (zAll w) (lstV c 0 n 1) v∧GL I1 1 c n :=
  argRows Try.underlying39 rfl rfl rfl rfl (by decide) tyB39 hval h
theorem fmtArg (hval:Value.okWide Try.prog w r b0 24 v)(h:DataW.Trod enc Try.prog w 0 (fun _=>true) true 24 v dd p) :
    ∃s ws dp cc nc,VR (zAll w) (.agg ⟨[.string s,.int .i64 ws,.int .i64 dp,lstV cc 0 nc 4]⟩) v∧s.size≤maxLen∧(Lit.int .i64 ws).wf=true∧(Lit.int .i64 dp).wf=true∧GL C4 4 cc nc:=by
  obtain ⟨abs,h1,h2⟩:=argS Try.underlying24 tyB24 hval h
  obtain ⟨p0,p1,p2,p3,rfl,g0,g1,g2,g3⟩:=tyS4 Try.underlying24 h2
  obtain ⟨s,rfl,e0⟩:=tyStr Try.underlying9 g0
  obtain ⟨ws,rfl,e1⟩:=tyI Try.underlying3 g1
  obtain ⟨dp,rfl,e2⟩:=tyI Try.underlying3 g2
  obtain ⟨cc,nc,rfl,e3⟩:=tyG Try.underlying22 flat89 cells89 leaves89 rfl (by decide) g3
  exact ⟨s,ws,dp,cc,nc,h1,e0,e1,e2,e3⟩
end
end Go.Proofs.Ytoojllndfjamgaa
namespace Go.Proofs.Ytoojllndfjamgaa
open Go.Gi Go.RowKit
noncomputable section
set_option maxRecDepth 100000
set_option maxHeartbeats 1000000
def inB (n lo hi:Int):Bool:=decide (lo≤n)&&decide (n≤hi)
def twE (c:Array Value)(s:ByteArray)(j:Nat):Int:=if strEq (getStr c (0+j*4)) s=true then 5 else 0
def rgB (ws dp w e p:Int):Bool:=inB w 0 (IntKind.wrap .i64 (ws-1))&&((decide (1≤e)&&decide (Int.tmod dp e=0))&&inB p 0 (IntKind.wrap .i64 (e-1)))
def coI (wj ej pj w e p:Int):Int:=if wj=w then (if Int.tmod pj (min ej e)=Int.tmod p (min ej e) then 2 else 0) else 0
def coN (wj ej pj w e p:Int)(n:Nat):Int:=if wj=w then (if Int.tmod (n:Int) ej=pj then (if Int.tmod (n:Int) e=p then 2 else 0) else 0) else 0
def coP (c:Array Value)(w e p:Int)(j:Nat):Int:=coI (getInt c (0+j*4+1)) (getInt c (0+j*4+1+1)) (getInt c (0+j*4+1+1+1)) w e p
def coR (c:Array Value)(w e p:Int)(j:Nat):Int:=if (fst1 (coN (getInt c (0+j*4+1)) (getInt c (0+j*4+1+1)) (getInt c (0+j*4+1+1+1)) w e p) 16 0).isSome=true then 2 else 0
def chX (co:Array Value→Int→Int→Int→Nat→Int)(ws dp:Int)(c:Array Value)(k:Nat):Int :=
  if nmB (getStr c (0+k*4))=true then (if (fst1 (twE c (getStr c (0+k*4))) k 0).isSome=true then 5 else
    (if rgB ws dp (getInt c (0+k*4+1)) (getInt c (0+k*4+1+1)) (getInt c (0+k*4+1+1+1))=true then
      (if (fst1 (co c (getInt c (0+k*4+1)) (getInt c (0+k*4+1+1)) (getInt c (0+k*4+1+1+1))) k 0).isSome=true then 2 else 0) else 7)) else 6
def dpB (dp:Int):Bool:=decide (dp=1)||(decide (dp=2)||(decide (dp=4)||(decide (dp=8)||decide (dp=16))))
def pw (i:Nat):Nat:=2 ^ i
def anyN (E P e p:Nat):Bool:=(List.range 16).any fun n=>n % E == P&&n % e == p
def anyAll:Bool:=(List.range 5).all fun i=>(List.range 5).all fun j=>(List.range 16).all fun P=>(List.range 16).all fun p=>!(decide (P<pw i)&&decide (p<pw j))||(anyN (pw i) P (pw j) p == (P % min (pw i) (pw j) == p % min (pw i) (pw j)))
theorem anyAll_ok:anyAll=true:=by decide +kernel
theorem any_eq (i:Nat)(hi:i<5)(j:Nat)(hj:j<5)(P:Nat)(hP:P<16)(p:Nat)(hp:p<16)(h1:P<pw i)(h2:p<pw j):anyN (pw i) P (pw j) p=(P % min (pw i) (pw j) == p % min (pw i) (pw j)):=by
  have h:=anyAll_ok
  unfold anyAll at h
  simp only [List.all_eq_true,List.mem_range]at h
  have:=h i hi j hj P hP p hp
  simpa [h1,h2] using this
theorem pow_of (k:Nat)(hk:k<5)(x:Nat)(hx:x<17)(h1:1≤x)(h2:pw k % x=0):∃i,i<5∧x=pw i:=by
  have h:((List.range 5).all fun k=>(List.range 17).all fun x=>!(decide (1≤x)&&decide (pw k % x=0))||(List.range 5).any fun i=>x == pw i)=true:=by decide +kernel
  simp only [List.all_eq_true,List.mem_range]at h
  have:=h k hk x hx
  simp only [h1,h2,decide_true,Bool.and_self,Bool.not_true,Bool.false_or,List.any_eq_true,List.mem_range,beq_iff_eq]at this
  exact this
theorem dp_pw {dp:Int}(h:dpB dp=true):∃k,k<5∧dp=(pw k:Int):=by
  simp only [dpB,Bool.or_eq_true,decide_eq_true_eq]at h
  rcases h with h | h | h | h | h
  · exact ⟨0,by omega,by rw [h];rfl⟩
  · exact ⟨1,by omega,by rw [h];rfl⟩
  · exact ⟨2,by omega,by rw [h];rfl⟩
  · exact ⟨3,by omega,by rw [h];rfl⟩
  · exact ⟨4,by omega,by rw [h];rfl⟩
theorem pw_le {i:Nat}(h:i<5):1≤pw i∧pw i≤16:=by
  have:∀i<5,1≤pw i∧pw i≤16:=by decide
  exact this i h
theorem ev_pw {dp e:Int}(h:dpB dp=true) (he:1≤e) (hm:Int.tmod dp e=0):∃i,i<5∧e=(pw i:Int):=by
  obtain ⟨k,hk,rfl⟩:=dp_pw h
  have hp:=pw_le hk
  rw [Int.tmod_eq_emod_of_nonneg (by omega)]at hm
  obtain ⟨m,rfl⟩:∃m:Nat,e=(m:Int):=⟨e.toNat,by omega⟩
  have hm2:pw k % m=0:=by exact_mod_cast hm
  have hle:m≤pw k:=Nat.le_of_dvd (by omega) (Nat.dvd_of_mod_eq_zero hm2)
  obtain ⟨i,hi,e1⟩:=pow_of k hk m (by omega) (by omega) hm2
  exact ⟨i,hi,by rw [e1]⟩
theorem wrap_pred {e:Int}(h1:1≤e) (h2:e≤16):IntKind.wrap .i64 (e-1)=e-1:=wrap64_id (by omega) (by omega)
theorem fst1_isSome {E:Nat→Int}:∀m k,(fst1 E m k).isSome=(List.range m).any fun i=>decide (E (k+i)≠0)
  | 0,k=>rfl
  | m+1,k=>by
    unfold fst1
    rw [List.range_succ_eq_map,List.any_cons,List.any_map]
    have hc:((fun i=>decide (E (k+i)≠0)) ∘ Nat.succ)=fun i=>decide (E (k+1+i)≠0):=by
      funext i;simp only [Function.comp];rw [show k+Nat.succ i=k+1+i by omega]
    rw [hc]
    by_cases h:E k=0
    · rw [if_pos h,fst1_isSome m (k+1)];simp [h]
    · rw [if_neg h];simp [h]
theorem co_same {dp ws wj ej pj w e p:Int}(hd:dpB dp=true) (h1:rgB ws dp wj ej pj=true) (h2:rgB ws dp w e p=true) :
    (if (fst1 (coN wj ej pj w e p) 16 0).isSome=true then (2:Int) else 0)=coI wj ej pj w e p:=by
  simp only [rgB,inB,Bool.and_eq_true,decide_eq_true_eq]at h1 h2
  obtain ⟨_,⟨a1,a2⟩,a3,a4⟩:=h1
  obtain ⟨_,⟨b1,b2⟩,b3,b4⟩:=h2
  obtain ⟨i,hi,rfl⟩:=ev_pw hd a1 a2
  obtain ⟨j,hj,rfl⟩:=ev_pw hd b1 b2
  have hpi:=pw_le hi
  have hpj:=pw_le hj
  rw [wrap_pred (by omega) (by omega)]at a4 b4
  obtain ⟨P,rfl⟩:∃P:Nat,pj=(P:Int):=⟨pj.toNat,by omega⟩
  obtain ⟨q,rfl⟩:∃q:Nat,p=(q:Int):=⟨p.toNat,by omega⟩
  have key:=any_eq i hi j hj P (by omega) q (by omega) (by omega) (by omega)
  rw [fst1_isSome]
  unfold coI
  by_cases hw:wj=w
  · have e1:((List.range 16).any fun n=>decide (coN wj (pw i) P w (pw j) q (0+n)≠0))=anyN (pw i) P (pw j) q:=by
      unfold anyN
      congr 1
      funext n
      unfold coN
      rw [if_pos hw,Nat.zero_add]
      rw [Int.tmod_eq_emod_of_nonneg (by omega),Int.tmod_eq_emod_of_nonneg (by omega)]
      by_cases c1:n % pw i=P
      · have d1:(n:Int) % (pw i:Int)=(P:Int):=by exact_mod_cast c1
        by_cases c2:n % pw j=q
        · have d2:(n:Int) % (pw j:Int)=(q:Int):=by exact_mod_cast c2
          simp [c1,c2,d1,d2]
        · have d2:¬(n:Int) % (pw j:Int)=(q:Int):=by exact_mod_cast c2
          simp [c1,c2,d1,d2]
      · have d1:¬(n:Int) % (pw i:Int)=(P:Int):=by exact_mod_cast c1
        simp [c1,d1]
    rw [e1,key,if_pos hw]
    have hmin:min (pw i:Int) (pw j:Int)=((min (pw i) (pw j):Nat):Int):=by omega
    rw [hmin,Int.tmod_eq_emod_of_nonneg (by omega),Int.tmod_eq_emod_of_nonneg (by omega)]
    by_cases c:P % min (pw i) (pw j)=q % min (pw i) (pw j)
    · have d:(P:Int) % ((min (pw i) (pw j):Nat):Int)=(q:Int) % ((min (pw i) (pw j):Nat):Int):=by exact_mod_cast c
      rw [if_pos (by simpa using c),if_pos d]
    · have d:¬(P:Int) % ((min (pw i) (pw j):Nat):Int)=(q:Int) % ((min (pw i) (pw j):Nat):Int):=by exact_mod_cast c
      rw [if_neg (by simpa using c),if_neg d]
  · have e1:((List.range 16).any fun n=>decide (coN wj (pw i) P w (pw j) q (0+n)≠0))=false:=by
      rw [List.any_eq_false]
      intro n _
      simp [coN,hw]
    rw [e1,if_neg hw];rfl
theorem ch_rg {co:Array Value→Int→Int→Int→Nat→Int}{ws dp:Int}{c:Array Value}{k:Nat}(h:chX co ws dp c k=0):rgB ws dp (getInt c (0+k*4+1)) (getInt c (0+k*4+1+1)) (getInt c (0+k*4+1+1+1))=true:=by
  unfold chX at h
  split at h
  · split at h
    · cases h
    · split at h
      · assumption
      · cases h
  · cases h
theorem ch_same {ws dp:Int}{c:Array Value}(hd:dpB dp=true) {k:Nat}(h:∀j,j<k→chX coP ws dp c j=0):chX coR ws dp c k=chX coP ws dp c k:=by
  unfold chX
  by_cases hr:rgB ws dp (getInt c (0+k*4+1)) (getInt c (0+k*4+1+1)) (getInt c (0+k*4+1+1+1))=true
  · rw [fst1_congr (E:=coR c (getInt c (0+k*4+1)) (getInt c (0+k*4+1+1)) (getInt c (0+k*4+1+1+1))) (E':=coP c (getInt c (0+k*4+1)) (getInt c (0+k*4+1+1)) (getInt c (0+k*4+1+1+1))) (n:=k)
      (fun j hj=>co_same hd (ch_rg (h j hj)) hr) k 0 (by omega)]
  · simp only [if_neg hr]
def ckF (s:ByteArray)(ws dp:Int)(c:Array Value)(n:Nat):Int×Int×Int :=
  if inB (s.size:Int) 1 4=true then (if 12<n then (1,0,3) else
    (if inB ws 1 32=true then (if dpB dp=true then
      (match fst1 (chX coP ws dp c) n 0 with | some (i,r)=>(2,(i:Int),r) | none=>(0,0,0)) else (1,0,7)) else (1,0,7))) else (1,0,3)
theorem loop_fst2 {X D:Type}{rd:X→RT (Sum X D)}{S:Nat→X}{E:Nat→Int}{n:Nat}{err:Nat→Int→D}{fin:D}
    (hs:∀k,k<n→(∀j,j<k→E j=0)→(rd (S k)).val=some (if E k=0 then .inl (S (k+1)) else .inr (err k (E k)))) (hf:(rd (S n)).val=some (.inr fin)) :
    ∀m k,k+m=n→(∀j,j<k→E j=0)→loopR rd (S k)=some (match fst1 E m k with | some (i,r)=>err i r | none=>fin)
  | 0,k,e,h0=>by
    obtain rfl:k=n:=by omega
    exact loopR_done hf
  | m+1,k,e,h0=>by
    have h:=hs k (by omega) h0
    unfold fst1
    by_cases he:E k=0
    · rw [if_pos he]at h
      rw [loopR_next h,if_pos he]
      exact loop_fst2 hs hf m (k+1) (by omega) (fun j hj=>by
        rcases Nat.lt_or_ge j k with h1 | h1
        · exact h0 j h1
        · obtain rfl:j=k:=by omega
          exact he)
    · rw [if_neg he]at h
      rw [loopR_done h,if_neg he]
end
end Go.Proofs.Ytoojllndfjamgaa
namespace Go.Proofs.Ytoojllndfjamgaa
open Go.Gi Go.RowKit Go.Proofs.Ytoojllndfjamgaa.Old
noncomputable section
set_option maxRecDepth 100000
set_option maxHeartbeats 4000000
structure R42 where
  r0:Bool
structure A42 where
  a0:Int
  a1:Int
  a2:Int
def rt42 (a0:Int)(a1:Int)(a2:Int):RT R42 :=
  .br (decide (a1≤a0)) (.leaf ⟨(decide (a0≤a2))⟩) (.leaf ⟨false⟩)
def en42 (r:R42):Value:=(.bool r.r0)
theorem T42  (a0:Int) (a1:Int) (a2:Int):evC Try.prog (Ans.c (fun _=>none:Ans)) 60 (.call 42 ⟨[(.int .i64 a0),(.int .i64 a1),(.int .i64 a2)]⟩ ⟨[],0,[]⟩) (frzK [0])=(rt42 a0 a1 a2).out (fun r=>.ret (en42 r) ⟨[],0,[]⟩):=by kernel_rfl
def F42 (a0:Int)(a1:Int)(a2:Int):Option R42:=(rt42 a0 a1 a2).val
section
variable (a0:Int) (a1:Int) (a2:Int)
def F42_ok:Bool:=(F42 a0 a1 a2).isSome
def F42_0:Bool:=match F42 a0 a1 a2 with | some r=>r.r0 | none=>false
end
def dec42:Task→Option (A42×Hp)
  | .call g ⟨[(.int .i64 a0),(.int .i64 a1),(.int .i64 a2)]⟩ h=>(match Nat.beq g 42 with | true=>some (⟨a0,a1,a2⟩,h) | false=>none)
  | _=>none
def alt42 (x:A42)(h:Hp):AT:=.br (F42_ok x.a0 x.a1 x.a2) (.leaf (.ret (.bool (F42_0 x.a0 x.a1 x.a2)) h)) .no
def p42:Ans:=fnAns dec42 alt42
theorem ha42:∀(x:A42) (h:Hp)(o:Out),(alt42 x h).out=some o→∃r,(rt42 x.a0 x.a1 x.a2).val=some r∧o=.ret (en42 r) h:=by
  intro x h o e
  unfold alt42 at e
  simp only [AT.out]at e
  obtain ⟨g,e⟩:=cond_some e
  unfold F42_ok at g
  obtain ⟨r,hF⟩:=Option.isSome_iff_exists.1 g
  have hv:F42 x.a0 x.a1 x.a2=(rt42 x.a0 x.a1 x.a2).val:=by delta F42;exact rfl
  refine ⟨r,hv.symm.trans hF,?_⟩
  simp only [Option.some.injEq]at e
  rw [← e]
  have k0:F42_0 x.a0 x.a1 x.a2=r.r0:=by
    show (match F42 x.a0 x.a1 x.a2 with | some r=>r.r0 | none=>false)=r.r0
    rw [hF]
  rw [k0]<;>rfl
theorem hd42:∀(t:Task) (x:A42)(h:Hp),dec42 t=some (x,h)→t=.call 42 ⟨[(.int .i64 x.a0),(.int .i64 x.a1),(.int .i64 x.a2)]⟩ h:=by
  intro t x h e
  unfold dec42 at e
  split at e
  case h_2=>cases e
  split at e
  case h_2=>cases e
  rename_i hg
  simp only [Option.some.injEq,Prod.mk.injEq]at e
  obtain ⟨rfl,rfl⟩:=e
  rw [Nat.eq_of_beq_eq_true hg]
theorem known42:Known Try.prog p42:=by
  exact Known.fn noNG mixed (Known.nothing Try.prog) (n:=60) (zs:=[0]) 42 (fun x:A42=>[(.int .i64 x.a0),(.int .i64 x.a1),(.int .i64 x.a2)]) (fun x=>rt42 x.a0 x.a1 x.a2) en42 (fun x=>T42  x.a0 x.a1 x.a2) (fun x=>rfl) dec42 alt42 hd42 ha42
structure X78_0 where
  v0:Array Value
  v1:Nat
  v2:Nat
  v3:Int
  v4:Int
  v5:Int
inductive D78_0 where
  | k0 (d0:Int)
  | k1
def Lp78_0:LoopOf X78_0 D78_0 where
  c:=(theLoop Try.prog 78 0)
  N:=19
  M:=0
  S:=[0,1,7,8]
  sl:=fun x=>[(lstV x.v0 x.v1 x.v2 1),(.int .i64 x.v3),(.int .i64 x.v4),(.int .i64 x.v5)]
  hp:=fun x=>[]
  ex:=fun d=>match d with | .k0 ..=>.ret | .k1 ..=>.exit 0
  pick:=fun e=>match e with | .ret=>[4] | .exit 0=>[] | _=>[]
  dv:=fun d=>match d with | .k0 d0=>[(.int .i64 d0)] | .k1 =>[]
  dh:=fun d=>match d with | .k0 d0=>[] | .k1 =>[]
theorem ok78_0:Lp78_0.Ok:=⟨fun x=>rfl,fun x=>rfl,fun x=>rfl,fun x=>rfl,fun d=>by cases d<;>rfl,fun d=>by cases d<;>rfl,fun d=>by cases d<;>rfl,fun d=>by cases d<;>(intro h;cases h),fun d=>by cases d<;>rfl,fun d=>by cases d<;>rfl⟩
def rd78_0 (x:X78_0):RT (Sum X78_0 D78_0):=match x with
  | ⟨v0,v1,v2,v3,v4,v5⟩ =>
     .br (decide (v5<v4)) (.br (and (decide ((0:Int)≤v5)) (decide (v5<(Int.ofNat v2)))) (.br (isInt .i64 v0 (v1+((Int.toNat v5)*1))) (.br (decide (v3=(getInt v0 (v1+((Int.toNat v5)*1))))) (.leaf (.inr (.k0 (v5)))) (.leaf (.inl ⟨v0,v1,v2,v3,v4,(IntKind.wrap .i64 (v5+(1:Int)))⟩))) (.no)) (.no)) (.leaf (.inr (.k1)))
theorem T78_0  (y:List Value) (v0:Array Value) (v1:Nat) (v2:Nat) (v3:Int) (v4:Int) (v5:Int):evC Try.prog (Ans.c (fun _=>none:Ans)) 60 (.code none (theLoop Try.prog 78 0) ⟨sets (junkF 19 y) [(0,(lstV v0 v1 v2 1)),(1,(.int .i64 v3)),(7,(.int .i64 v4)),(8,(.int .i64 v5))],[],⟨[],0,[]⟩⟩) (sumK 0 19 Lp78_0.pk)=(rd78_0 ⟨v0,v1,v2,v3,v4,v5⟩).out Lp78_0.enc:=by kernel_rfl
def L78_0 (x:X78_0):Option D78_0:=loopR rd78_0 x
section
variable (x:X78_0)
def L78_0_k0:Bool:=match L78_0 x with | some (.k0 ..)=>true | _=>false
def Qc0:Int:=match L78_0 x with | some (.k0 d)=>d | _=>0
def L78_0_k1:Bool:=match L78_0 x with | some (.k1 ..)=>true | _=>false
end
def dec78_0:Task→Option (Code×X78_0)
  | .code none (.loop code) ⟨t,[],⟨[],0,[]⟩⟩ =>
    (match Nat.beq (firstReg code) 2,lenIs t 19,lget t 0,lget t 1,lget t 7,lget t 8 with
    | true,true,(.func (.via 0 ⟨[]⟩ 0 true) v0 ⟨[.slice (some ⟨0,v1,none⟩) v2 1]⟩),(.int .i64 v3),(.int .i64 v4),(.int .i64 v5)=>some (code,⟨v0,v1,v2,v3,v4,v5⟩)
    | _,_,_,_,_,_=>none)
  | _=>none
def alt78_0 (x:X78_0)(j:List Value):AT:=.br (L78_0_k0 x) (loopEnd 19 (.ret) [(4,(.int .i64 (Qc0 x)))] ⟨[],0,[]⟩ j) (.br (L78_0_k1 x) (loopEnd 19 (.exit 0) [] ⟨[],0,[]⟩ j) (.no))
def la78_0 (J:Task→List Value):Ans:=loopAns Lp78_0.c dec78_0 alt78_0 J
theorem ha78_0:∀(x:X78_0) (j:List Value)(o:Out),(alt78_0 x j).out=some o→∃d,loopR rd78_0 x=some d∧o=Lp78_0.tail d j:=by
  intro x j o h
  unfold alt78_0 at h
  cases hL:L78_0 x with
  | none=>simp [L78_0_k0,Qc0,L78_0_k1,hL,AT.out]at h
  | some d =>
    refine ⟨d,hL,?_⟩
    cases d<;>(simp only [L78_0_k0,Qc0,L78_0_k1,hL,AT.out,loopEnd,cond_true,cond_false,Option.some.injEq]at h;rw [← h];rfl)
theorem hd78_0:∀(t:Task) (c:Code)(x:X78_0),dec78_0 t=some (c,x)→c=Lp78_0.c→∃T,t=.code none (.loop Lp78_0.c) ⟨T,[],⟨Lp78_0.hp x,0,[]⟩⟩∧T.length=Lp78_0.N∧∀kv∈Lp78_0.S.zip (Lp78_0.sl x),lget T kv.1=kv.2:=by
  intro t c x h hc
  unfold dec78_0 at h
  split at h
  case h_2=>cases h
  split at h
  case h_2=>cases h
  simp only [Option.some.injEq,Prod.mk.injEq]at h
  obtain ⟨rfl,rfl⟩:=h
  subst hc
  refine ⟨_,rfl,lenIs_eq _ _ (by assumption),?_⟩
  intro kv hk
  simp only [Lp78_0,List.zip_cons_cons,List.zip_nil_right,List.mem_cons,List.not_mem_nil,or_false]at hk
  rcases hk with rfl | rfl | rfl | rfl<;>assumption
theorem kl78_0:∃J,Known Try.prog (la78_0 J):=by
  exact LoopOf.known noNG mixed ok78_0 (by decide) (by decide) (Known.nothing Try.prog) (n:=60) (rd:=rd78_0) (fun x j=>T78_0  j x.v0 x.v1 x.v2 x.v3 x.v4 x.v5) dec78_0 alt78_0 hd78_0 ha78_0
structure R78 where
  r0:Int
structure A78 where
  a0:Array Value
  a1:Nat
  a2:Nat
  a3:Int
def rt78 (a0:Array Value)(a1:Nat)(a2:Nat)(a3:Int):RT R78 :=
  .sw (eqCode (Lp78_0.c) (Lp78_0.c)) true (by simp only [eqCode_self,arrEq_self]) (.br (L78_0_k0 (X78_0.mk a0 a1 a2 a3 (Int.ofNat a2) (0:Int))) (.leaf ⟨(Qc0 (X78_0.mk a0 a1 a2 a3 (Int.ofNat a2) (0:Int)))⟩) (.br (L78_0_k1 (X78_0.mk a0 a1 a2 a3 (Int.ofNat a2) (0:Int))) (.leaf ⟨(-1:Int)⟩) (.no))) (.no)
def en78 (r:R78):Value:=(.int .i64 r.r0)
theorem T78 (J0:Task→List Value)(a0:Array Value)(a1:Nat)(a2:Nat)(a3:Int):evC Try.prog (Ans.c (la78_0 J0)) 60 (.call 78 ⟨[(lstV a0 a1 a2 1),(.int .i64 a3)]⟩ ⟨[],0,[]⟩) (frzK [0])=(rt78 a0 a1 a2 a3).out (fun r=>.ret (en78 r) ⟨[],0,[]⟩):=by kernel_rfl
def F78 (a0:Array Value)(a1:Nat)(a2:Nat)(a3:Int):Option R78:=(rt78 a0 a1 a2 a3).val
section
variable (a0:Array Value) (a1:Nat) (a2:Nat) (a3:Int)
def F78_ok:Bool:=(F78 a0 a1 a2 a3).isSome
def F78_0:Int:=match F78 a0 a1 a2 a3 with | some r=>r.r0 | none=>0
end
def dec78:Task→Option (A78×Hp)
  | .call g ⟨[(.func (.via 0 ⟨[]⟩ 0 true) a0 ⟨[.slice (some ⟨0,a1,none⟩) a2 1]⟩),(.int .i64 a3)]⟩ h=>(match Nat.beq g 78 with | true=>some (⟨a0,a1,a2,a3⟩,h) | false=>none)
  | _=>none
def alt78 (x:A78)(h:Hp):AT:=.br (F78_ok x.a0 x.a1 x.a2 x.a3) (.leaf (.ret (.int .i64 (F78_0 x.a0 x.a1 x.a2 x.a3)) h)) .no
def p78:Ans:=fnAns dec78 alt78
theorem ha78:∀(x:A78) (h:Hp)(o:Out),(alt78 x h).out=some o→∃r,(rt78 x.a0 x.a1 x.a2 x.a3).val=some r∧o=.ret (en78 r) h:=by
  intro x h o e
  unfold alt78 at e
  simp only [AT.out]at e
  obtain ⟨g,e⟩:=cond_some e
  unfold F78_ok at g
  obtain ⟨r,hF⟩:=Option.isSome_iff_exists.1 g
  have hv:F78 x.a0 x.a1 x.a2 x.a3=(rt78 x.a0 x.a1 x.a2 x.a3).val:=by delta F78;exact rfl
  refine ⟨r,hv.symm.trans hF,?_⟩
  simp only [Option.some.injEq]at e
  rw [← e]
  have k0:F78_0 x.a0 x.a1 x.a2 x.a3=r.r0:=by
    show (match F78 x.a0 x.a1 x.a2 x.a3 with | some r=>r.r0 | none=>0)=r.r0
    rw [hF]
  rw [k0]<;>rfl
theorem hd78:∀(t:Task) (x:A78)(h:Hp),dec78 t=some (x,h)→t=.call 78 ⟨[(lstV x.a0 x.a1 x.a2 1),(.int .i64 x.a3)]⟩ h:=by
  intro t x h e
  unfold dec78 at e
  split at e
  case h_2=>cases e
  split at e
  case h_2=>cases e
  rename_i hg
  simp only [Option.some.injEq,Prod.mk.injEq]at e
  obtain ⟨rfl,rfl⟩:=e
  rw [Nat.eq_of_beq_eq_true hg]
theorem known78:Known Try.prog p78:=by
  obtain ⟨J0,hJ0⟩:=kl78_0
  exact Known.fn noNG mixed hJ0 (n:=60) (zs:=[0]) 78 (fun x:A78=>[(lstV x.a0 x.a1 x.a2 1),(.int .i64 x.a3)]) (fun x=>rt78 x.a0 x.a1 x.a2 x.a3) en78 (fun x=>T78 J0 x.a0 x.a1 x.a2 x.a3) (fun x=>rfl) dec78 alt78 hd78 ha78
structure R43 where
  r0:Bool
structure A43 where
  a0:Array Value
  a1:Nat
  a2:Nat
  a3:Int
def rt43 (a0:Array Value)(a1:Nat)(a2:Nat)(a3:Int):RT R43 :=
  .br (F78_ok (a0) a1 a2 a3) (.leaf ⟨(decide ((0:Int)≤(F78_0 (a0) a1 a2 a3)))⟩) (.no)
def en43 (r:R43):Value:=(.bool r.r0)
theorem T43  (a0:Array Value) (a1:Nat) (a2:Nat) (a3:Int):evC Try.prog (Ans.c p78) 60 (.call 43 ⟨[(lstV a0 a1 a2 1),(.int .i64 a3)]⟩ ⟨[],0,[]⟩) (frzK [0])=(rt43 a0 a1 a2 a3).out (fun r=>.ret (en43 r) ⟨[],0,[]⟩):=by kernel_rfl
def F43 (a0:Array Value)(a1:Nat)(a2:Nat)(a3:Int):Option R43:=(rt43 a0 a1 a2 a3).val
section
variable (a0:Array Value) (a1:Nat) (a2:Nat) (a3:Int)
def F43_ok:Bool:=(F43 a0 a1 a2 a3).isSome
def F43_0:Bool:=match F43 a0 a1 a2 a3 with | some r=>r.r0 | none=>false
end
def dec43:Task→Option (A43×Hp)
  | .call g ⟨[(.func (.via 0 ⟨[]⟩ 0 true) a0 ⟨[.slice (some ⟨0,a1,none⟩) a2 1]⟩),(.int .i64 a3)]⟩ h=>(match Nat.beq g 43 with | true=>some (⟨a0,a1,a2,a3⟩,h) | false=>none)
  | _=>none
def alt43 (x:A43)(h:Hp):AT:=.br (F43_ok x.a0 x.a1 x.a2 x.a3) (.leaf (.ret (.bool (F43_0 x.a0 x.a1 x.a2 x.a3)) h)) .no
def p43:Ans:=fnAns dec43 alt43
theorem ha43:∀(x:A43) (h:Hp)(o:Out),(alt43 x h).out=some o→∃r,(rt43 x.a0 x.a1 x.a2 x.a3).val=some r∧o=.ret (en43 r) h:=by
  intro x h o e
  unfold alt43 at e
  simp only [AT.out]at e
  obtain ⟨g,e⟩:=cond_some e
  unfold F43_ok at g
  obtain ⟨r,hF⟩:=Option.isSome_iff_exists.1 g
  have hv:F43 x.a0 x.a1 x.a2 x.a3=(rt43 x.a0 x.a1 x.a2 x.a3).val:=by delta F43;exact rfl
  refine ⟨r,hv.symm.trans hF,?_⟩
  simp only [Option.some.injEq]at e
  rw [← e]
  have k0:F43_0 x.a0 x.a1 x.a2 x.a3=r.r0:=by
    show (match F43 x.a0 x.a1 x.a2 x.a3 with | some r=>r.r0 | none=>false)=r.r0
    rw [hF]
  rw [k0]<;>rfl
theorem hd43:∀(t:Task) (x:A43)(h:Hp),dec43 t=some (x,h)→t=.call 43 ⟨[(lstV x.a0 x.a1 x.a2 1),(.int .i64 x.a3)]⟩ h:=by
  intro t x h e
  unfold dec43 at e
  split at e
  case h_2=>cases e
  split at e
  case h_2=>cases e
  rename_i hg
  simp only [Option.some.injEq,Prod.mk.injEq]at e
  obtain ⟨rfl,rfl⟩:=e
  rw [Nat.eq_of_beq_eq_true hg]
theorem known43:Known Try.prog p43:=by
  exact Known.fn noNG mixed known78 (n:=60) (zs:=[0]) 43 (fun x:A43=>[(lstV x.a0 x.a1 x.a2 1),(.int .i64 x.a3)]) (fun x=>rt43 x.a0 x.a1 x.a2 x.a3) en43 (fun x=>T43  x.a0 x.a1 x.a2 x.a3) (fun x=>rfl) dec43 alt43 hd43 ha43
structure R82 where
  r0:Bool
structure A82 where
  a0:Int
  a1:Int
def rt82 (a0:Int)(a1:Int):RT R82 :=
  .br (decide ((1:Int)≤a0)) (.br (not (decide (a0=(0:Int)))) (.leaf ⟨(decide ((Int.tmod a1 a0)=(0:Int)))⟩) (.no)) (.leaf ⟨false⟩)
def en82 (r:R82):Value:=(.bool r.r0)
theorem T82  (a0:Int) (a1:Int):evC Try.prog (Ans.c (fun _=>none:Ans)) 60 (.call 82 ⟨[(.int .i64 a0),(.int .i64 a1)]⟩ ⟨[],0,[]⟩) (frzK [0])=(rt82 a0 a1).out (fun r=>.ret (en82 r) ⟨[],0,[]⟩):=by kernel_rfl
def F82 (a0:Int)(a1:Int):Option R82:=(rt82 a0 a1).val
section
variable (a0:Int) (a1:Int)
def F82_ok:Bool:=(F82 a0 a1).isSome
def F82_0:Bool:=match F82 a0 a1 with | some r=>r.r0 | none=>false
end
def dec82:Task→Option (A82×Hp)
  | .call g ⟨[(.int .i64 a0),(.int .i64 a1)]⟩ h=>(match Nat.beq g 82 with | true=>some (⟨a0,a1⟩,h) | false=>none)
  | _=>none
def alt82 (x:A82)(h:Hp):AT:=.br (F82_ok x.a0 x.a1) (.leaf (.ret (.bool (F82_0 x.a0 x.a1)) h)) .no
def p82:Ans:=fnAns dec82 alt82
theorem ha82:∀(x:A82) (h:Hp)(o:Out),(alt82 x h).out=some o→∃r,(rt82 x.a0 x.a1).val=some r∧o=.ret (en82 r) h:=by
  intro x h o e
  unfold alt82 at e
  simp only [AT.out]at e
  obtain ⟨g,e⟩:=cond_some e
  unfold F82_ok at g
  obtain ⟨r,hF⟩:=Option.isSome_iff_exists.1 g
  have hv:F82 x.a0 x.a1=(rt82 x.a0 x.a1).val:=by delta F82;exact rfl
  refine ⟨r,hv.symm.trans hF,?_⟩
  simp only [Option.some.injEq]at e
  rw [← e]
  have k0:F82_0 x.a0 x.a1=r.r0:=by
    show (match F82 x.a0 x.a1 with | some r=>r.r0 | none=>false)=r.r0
    rw [hF]
  rw [k0]<;>rfl
theorem hd82:∀(t:Task) (x:A82)(h:Hp),dec82 t=some (x,h)→t=.call 82 ⟨[(.int .i64 x.a0),(.int .i64 x.a1)]⟩ h:=by
  intro t x h e
  unfold dec82 at e
  split at e
  case h_2=>cases e
  split at e
  case h_2=>cases e
  rename_i hg
  simp only [Option.some.injEq,Prod.mk.injEq]at e
  obtain ⟨rfl,rfl⟩:=e
  rw [Nat.eq_of_beq_eq_true hg]
theorem known82:Known Try.prog p82:=by
  exact Known.fn noNG mixed (Known.nothing Try.prog) (n:=60) (zs:=[0]) 82 (fun x:A82=>[(.int .i64 x.a0),(.int .i64 x.a1)]) (fun x=>rt82 x.a0 x.a1) en82 (fun x=>T82  x.a0 x.a1) (fun x=>rfl) dec82 alt82 hd82 ha82
end
end Go.Proofs.Ytoojllndfjamgaa
