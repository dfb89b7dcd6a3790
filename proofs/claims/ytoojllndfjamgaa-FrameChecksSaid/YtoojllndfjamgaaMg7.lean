/- Part 7 of the texts below the claim. Conditions: none. -/
import Derived.Deep.Slices
import Derived.Test.YtoojllndfjamgaaMg6
import Derived.WalkKit
import Derived.ProofKit
import Derived.OpenShut
import Derived.ChangeOld
import Derived.Below
import Derived.Deep.Strs
import Derived.ChangeMaps5
import Derived.Test.YtoojllndfjamgaaProg
import Derived.Test.YtoojllndfjamgaaRows
set_option linter.unusedVariables false
set_option linter.unusedSimpArgs false
namespace Go.Gi
open Go.RowKit
noncomputable section
def okLeaf:Leaf→Value→Prop
  | .int q,v=>∃n,v=.int q n∧(Lit.int q n).wf=true
  | .bool,v=>∃b,v=.bool b
  | .str,v=>∃s,v=.string s∧s.size≤maxLen
  | .lst,_=>False
  | .any,_=>False
def offsOk (P:Program)(d:Nat):Nat→List Field→Bool
  | _,[]=>true
  | o,f::r=>((f.offset == o)&&(P.cellsOf f.type == (leaves P false d f.type).length))&&offsOk P d (o+(leaves P false d f.type).length) r
def flatT (P:Program):Nat→TypeId→Bool
  | 0,_=>false
  | d+1,t =>
    match P.underlying t with
    | some .bool | some (.int _) | some .string=>true
    | some (.struct fs)=>((P.cellsOf t == (leaves P false (d+1) t).length)&&offsOk P d 0 fs.toList)&&fs.toList.all fun f=>flatT P d f.type
    | _=>false
inductive All2 {α β:Type} (R:α→β→Prop):List α→List β→Prop
  | nil:All2 R [] []
  | cons {a:α} {b:β} {l:List α} {m:List β} (h:R a b) (r:All2 R l m):All2 R (a::l) (b::m)
theorem All2.append {α β:Type}{R:α→β→Prop} {l l':List α} {m m':List β}(h:All2 R l m) (h':All2 R l' m'):All2 R (l++l') (m++m'):=by
  induction h with
  | nil=>exact h'
  | cons h _ ih=>exact .cons h ih
theorem All2.len {α β:Type}{R:α→β→Prop}{l:List α}{m:List β}(h:All2 R l m):m.length=l.length:=by
  induction h with
  | nil=>rfl
  | cons _ _ ih=>simp [ih]
theorem All2.get {α β:Type}{R:α→β→Prop}{l:List α}{m:List β}(h:All2 R l m):∀{j:Nat}{a:α},l[j]?=some a→∃b,m[j]?=some b∧R a b:=by
  induction h with
  | nil=>intro j a h;simp at h
  | cons h _ ih =>
    intro j a hj
    cases j with
    | zero=>simp only [List.getElem?_cons_zero,Option.some.injEq]at hj;subst hj;exact ⟨_,rfl,h⟩
    | succ j=>simp only [List.getElem?_cons_succ]at hj ⊢;exact ih hj
section
variable {H:Type}{enc:TypeId×Value→H}{P:Program}{w:World}{base:Nat}{spare:Nat→Bool}{held:Bool}
theorem mapM_all {α β:Type}{f:α→Option β}:∀{l:List α}{r:List β},l.mapM f=some r→∀a∈l,∃b,f a=some b
  | [],_,_,a,ha=>by simp at ha
  | x::l,r,h,a,ha=>by
    rw [List.mapM_cons]at h
    cases hx:f x with
    | none=>rw [hx]at h;cases h
    | some y =>
      rw [hx]at h
      cases hl:l.mapM f with
      | none=>rw [hl]at h;cases h
      | some ys =>
        rcases List.mem_cons.1 ha with rfl | ha
        · exact ⟨y,hx⟩
        · exact mapM_all hl a ha
theorem okLeaf_g0 {l:Leaf}{v:Value}(h:okLeaf l v):g0 v=true:=by
  cases l with
  | int q=>obtain ⟨n,rfl,_⟩:=h;rfl
  | bool=>obtain ⟨b,rfl⟩:=h;rfl
  | str=>obtain ⟨s,rfl,_⟩:=h;rfl
  | lst=>exact h.elim
  | any=>exact h.elim
theorem okLeaf_rd {l:Leaf}{c:Array Value}{i:Nat}{v:Value}(hc:c[i]?=some v) (h:okLeaf l v):(rdLeaf c l i).1=true:=by
  have hl:lget c.toList i=v:=by rw [lget_eq,Array.toArray_toList,Array.getD_eq_getD_getElem?,hc];rfl
  cases l with
  | int q=>obtain ⟨n,rfl,_⟩:=h;simp [rdLeaf,isInt,hl]
  | bool=>obtain ⟨b,rfl⟩:=h;simp [rdLeaf,isBool,hl]
  | str=>obtain ⟨s,rfl,_⟩:=h;simp [rdLeaf,isStr,hl]
  | lst=>exact h.elim
  | any=>exact h.elim
theorem rdOk_of {c:Array Value}:∀{L:List Leaf}{x:Nat},(∀(j:Nat) (l:Leaf),L[j]?=some l→∃v,c[x+j]?=some v∧okLeaf l v)→rdOk c L x=true
  | [],_,_=>rfl
  | l::L,x,h=>by
    obtain ⟨v,h1,h2⟩:=h 0 l rfl
    simp only [rdOk,Bool.and_eq_true]
    refine ⟨okLeaf_rd h1 h2,rdOk_of fun j l' hj=>?_⟩
    obtain ⟨v',h3,h4⟩:=h (j+1) l' (by simpa using hj)
    exact ⟨v',by rw [show x+1+j=x+(j+1) by omega];exact h3,h4⟩
def GoodL (L:List Leaf)(c:Array Value)(off n:Nat):Prop:=c.toList.all g0=true∧∀k,k<n→rdOk c L (off+k*L.length)=true
theorem cell_some {a:Addr}{v:Value}(h:w.cell? a=some v):a.spot=none∧∃C el fr,w.heap[a.block]?=some (.cells C el fr)∧C[a.off]?=some v:=by
  unfold World.cell? at h
  split at h
  · rename_i C el fr hh
    split at h
    · cases h
    · rename_i hs
      exact ⟨by simpa using hs,C,el,fr,hh,h⟩
  · cases h
theorem add_at (B off k:Nat):(⟨B,off,none⟩:Addr).add k=⟨B,off+k,none⟩:=by
  unfold Addr.add
  split<;>simp_all
end
def Ty (P:Program):Nat→TypeId→List Value→Prop
  | 0,_,_=>False
  | d+1,t,cs=>match P.underlying t with
    | some .bool=>∃b,cs=[.bool b]
    | some (.int q)=>∃n,cs=[.int q n]∧(Lit.int q n).wf=true
    | some .string=>∃s,cs=[.string s]∧s.size≤maxLen
    | some (.struct fs)=>∃ps:List (List Value),cs=ps.flatten∧All2 (fun (f:Field) p=>Ty P d f.type p) fs.toList ps
    | some (.array n e)=>∃ps:List (List Value),cs=ps.flatten∧ps.length=n∧∀p∈ps,Ty P d e p
    | some (.slice e)=>∃(c:Array Value) (n:Nat),cs=[lstV c 0 n (P.cellsOf e)]∧c.size=n*P.cellsOf e∧n≤maxLen∧∀k,k<n→Ty P d e ((c.toList.drop (k*P.cellsOf e)).take (P.cellsOf e))
    | _=>False
def tyB (P:Program):Nat→TypeId→Bool
  | 0,_=>false
  | d+1,t=>match P.underlying t with
    | some .bool | some (.int _) | some .string=>true
    | some (.struct fs)=>offsB P 0 fs.toList&&(P.cellsOf t == (fs.toList.map fun f=>P.cellsOf f.type).sum)&&fs.toList.all fun f=>tyB P d f.type
    | some (.array n e)=>(P.cellsOf t == n*P.cellsOf e)&&tyB P d e
    | some (.slice e)=>Nat.blt 0 (P.cellsOf e)&&tyB P d e
    | _=>false
where offsB (P:Program):Nat→List Field→Bool
  | _,[]=>true
  | o,f::r=>(f.offset == o)&&offsB P (o+P.cellsOf f.type) r
section
variable {H:Type}{enc:TypeId×Value→H}{P:Program}{w:World}{base:Nat}{held:Bool}
theorem rows_of {z:Nat}{Q:Nat→List Value→Prop}:∀{n:Nat},(∀i,i<n→∃r:List Value,r.length=z∧Q i r)→∃c:List Value,c.length=n*z∧∀i,i<n→Q i ((c.drop (i*z)).take z)
  | 0,_=>⟨[],by simp,fun i hi=>absurd hi (Nat.not_lt_zero _)⟩
  | n+1,h=>by
    obtain ⟨c,h1,h2⟩:=rows_of (n:=n) fun i hi=>h i (by omega)
    obtain ⟨r,h3,h4⟩:=h n (by omega)
    refine ⟨c++r,by rw [List.length_append,h1,h3,Nat.add_mul,Nat.one_mul],fun i hi=>?_⟩
    rcases Nat.lt_or_ge i n with hlt | hge
    · have hle:i*z+z≤c.length:=by
        rw [h1]
        have:=Nat.mul_le_mul_right z hlt
        rw [Nat.succ_mul]at this
        exact this
      rw [List.drop_append_of_le_length (by omega),List.take_append_of_le_length (by rw [List.length_drop];omega)]
      exact h2 i hlt
    · obtain rfl:i=n:=by omega
      rw [← h1,List.drop_left,← h3,List.take_length]
      exact h4
theorem fr_fields {z:Nat→Option Obj}{d:Nat}{cs:List Value}(ih:∀(f:TypeId) (q:List Value),tyB P d f=true→(∃fuel x,DataW.trod enc P w base (fun _=>true) held fuel f q=some x)→∃abs,All2 (FR z) abs q∧Ty P d f abs) :
    ∀{fs:List Field} {o:Nat},tyB.offsB P o fs=true→(∀f∈fs,tyB P d f.type=true∧∃fuel x,DataW.trod enc P w base (fun _=>true) held fuel f.type ((cs.drop f.offset).take (P.cellsOf f.type))=some x) →
    ∃ps:List (List Value),All2 (FR z) ps.flatten ((cs.drop o).take (fs.map fun f=>P.cellsOf f.type).sum)∧All2 (fun (f:Field) p=>Ty P d f.type p) fs ps
  | [],o,_,_=>⟨[],by simp;exact .nil,.nil⟩
  | f::r,o,h,hf=>by
    simp only [tyB.offsB,Bool.and_eq_true,beq_iff_eq]at h
    obtain ⟨h1,h2⟩:=h
    obtain ⟨k1,k2⟩:=hf f (List.mem_cons_self ..)
    obtain ⟨abs,a1,a2⟩:=ih f.type _ k1 k2
    obtain ⟨ps,b1,b2⟩:=fr_fields ih h2 fun g hg=>hf g (List.mem_cons_of_mem _ hg)
    refine ⟨abs::ps,?_,.cons a2 b2⟩
    rw [List.flatten_cons,List.map_cons,List.sum_cons,List.take_add,List.drop_drop]
    rw [h1]at a1
    exact a1.append b1
theorem fr_rows {z:Nat→Option Obj}{k:Nat}{cs:List Value}{Q:List Value→Prop}:∀{n:Nat},(∀i,i<n→∃abs,All2 (FR z) abs ((cs.drop (i*k)).take k)∧Q abs) →
    ∃ps:List (List Value),ps.length=n∧All2 (FR z) ps.flatten (cs.take (n*k))∧∀p∈ps,Q p
  | 0,_=>⟨[],rfl,by simp;exact .nil,fun p hp=>by simp at hp⟩
  | n+1,h=>by
    obtain ⟨ps,h1,h2,h3⟩:=fr_rows (n:=n) fun i hi=>h i (by omega)
    obtain ⟨r,h4,h5⟩:=h n (by omega)
    refine ⟨ps++[r],by simp [h1],?_,fun p hp=>?_⟩
    · rw [List.flatten_append,Nat.add_mul,Nat.one_mul,List.take_add]
      simp only [List.flatten_cons,List.flatten_nil,List.append_nil]
      exact h2.append h4
    · rw [List.mem_append,List.mem_singleton]at hp
      rcases hp with hp | rfl
      · exact h3 p hp
      · exact h5
theorem fr_trod:∀{d:Nat}{t:TypeId}{fuel:Nat}{cs:List Value}{x:DataW H×List MemPlace},tyB P d t=true→DataW.trod enc P w base (fun _=>true) held fuel t cs=some x →
    ∃abs,All2 (FR fun B=>w.heap[B]?) abs cs∧Ty P d t abs
  | 0,_,_,_,_,h,_=>by cases h
  | d+1,t,0,cs,x,_,h=>by simp [DataW.trod]at h
  | d+1,t,fuel+1,cs,x,hf,h=>by
    have h0:=h
    unfold tyB at hf
    split at hf
    · rename_i hu
      unfold DataW.trod at h
      rw [hu]at h
      simp only at h
      split at h<;>first | (cases h;done) | skip
      all_goals first | (rename_i he;cases he;done) | skip
      exact ⟨_,.cons (.gnd rfl) .nil,by unfold Ty;rw [hu];exact ⟨_,rfl⟩⟩
    · rename_i q hu
      unfold DataW.trod at h
      rw [hu]at h
      simp only at h
      split at h<;>first | (cases h;done) | skip
      all_goals first | (rename_i he;cases he;done) | skip
      rename_i k k' n he
      cases he
      split at h
      · rename_i hc
        obtain ⟨rfl,hw⟩:=hc
        exact ⟨_,.cons (.gnd rfl) .nil,by unfold Ty;rw [hu];exact ⟨_,rfl,hw⟩⟩
      · cases h
    · rename_i hu
      unfold DataW.trod at h
      rw [hu]at h
      simp only at h
      split at h<;>first | (cases h;done) | skip
      all_goals first | (rename_i he;cases he;done) | skip
      split at h
      · rename_i hc;exact ⟨_,.cons (.gnd rfl) .nil,by unfold Ty;rw [hu];exact ⟨_,rfl,hc⟩⟩
      · cases h
    · rename_i fs hu
      simp only [Bool.and_eq_true,beq_iff_eq,List.all_eq_true]at hf
      obtain ⟨⟨h1,h2⟩,h3⟩:=hf
      unfold DataW.trod at h
      rw [hu]at h
      simp only at h
      split at h
      · rename_i hl
        rw [Option.map_eq_some_iff]at h
        obtain ⟨ys,hy,_⟩:=h
        have h4:=mapM_all hy
        obtain ⟨ps,a1,a2⟩:=fr_fields (z:=fun B=>w.heap[B]?) (d:=d) (cs:=cs) (P:=P) (w:=w) (enc:=enc) (base:=base) (held:=held) (fun f q hq ⟨fu,x,hx⟩=>fr_trod hq hx) h1 fun f hm=>by
          obtain ⟨y,h5⟩:=h4 f hm
          exact ⟨h3 f hm,_,_,h5⟩
        rw [List.drop_zero,← h2,← hl,List.take_length]at a1
        exact ⟨_,a1,by unfold Ty;rw [hu];exact ⟨ps,rfl,a2⟩⟩
      · cases h
    · rename_i n e hu
      simp only [Bool.and_eq_true,beq_iff_eq]at hf
      obtain ⟨h1,h2⟩:=hf
      unfold DataW.trod at h
      rw [hu]at h
      simp only at h
      split at h
      · rename_i hl
        rw [Option.map_eq_some_iff]at h
        obtain ⟨ys,hy,_⟩:=h
        have h4:=mapM_all hy
        obtain ⟨ps,a1,a2,a3⟩:=fr_rows (z:=fun B=>w.heap[B]?) (n:=n) (k:=P.cellsOf e) (cs:=cs) (Q:=Ty P d e) fun i hi=>by
          obtain ⟨y,h5⟩:=h4 i (List.mem_range.2 hi)
          exact fr_trod h2 h5
        rw [← h1,← hl,List.take_length]at a2
        exact ⟨_,a2,by unfold Ty;rw [hu];exact ⟨ps,rfl,a1,a3⟩⟩
      · cases h
    · rename_i e hu
      rw [Bool.and_eq_true,Nat.blt_eq]at hf
      obtain ⟨hpos,he⟩:=hf
      rcases Go.Deep.open_slice hu h0 with ⟨hcs,_⟩ | ⟨a,len,cap,m,k,D,Pl,hcs,hb,hl,hm,hmm,_,hx⟩
      · subst hcs
        exact ⟨_,.cons (.lstZ #[] 0 (P.cellsOf e) none) .nil,by unfold Ty;rw [hu];exact ⟨#[],0,rfl,by simp,Nat.zero_le _,fun k hk=>absurd hk (Nat.not_lt_zero _)⟩⟩
      · subst hcs
        simp only [if_true]at hmm
        subst hmm
        by_cases hc0:m=0
        · subst hc0
          obtain rfl:len=0:=by omega
          exact ⟨_,.cons (.lstZ #[] 0 (P.cellsOf e) (some a)) .nil,by unfold Ty;rw [hu];exact ⟨#[],0,rfl,by simp,Nat.zero_le _,fun k hk=>absurd hk (Nat.not_lt_zero _)⟩⟩
        · have hrow:∀i,i<m→∃r:List Value,r.length=P.cellsOf e∧(Ty P d e r∧∀j,j<P.cellsOf e→∃u,w.cell? ((a.add (i*P.cellsOf e)).add j)=some u∧FR (fun B=>w.heap[B]?) (r.getD j undef) u):=by
            intro i hi
            obtain ⟨cs',h1,h2⟩:=hx i hi
            obtain ⟨h5,h3,h4⟩:=World.cells?_some h1
            obtain ⟨abs,a1,a2⟩:=fr_trod he h2
            have hlen:=a1.len
            have hcl:cs'.length=P.cellsOf e:=h3
            refine ⟨abs,by omega,a2,fun j hj=>?_⟩
            obtain ⟨u,hu1,hu2⟩:=a1.get (List.getElem?_eq_getElem (show j<abs.length by omega))
            refine ⟨u,?_,?_⟩
            · rw [h4 j (by omega)];exact hu1
            · rw [List.getD_eq_getElem?_getD,List.getElem?_eq_getElem (show j<abs.length by omega)];exact hu2
          obtain ⟨c,hc1,hc2⟩:=rows_of (n:=len) fun i hi=>hrow i (by omega)
          have hcz:c.length=len*P.cellsOf e:=hc1
          obtain ⟨r0,hr0,_,hq0⟩:=hrow 0 (by omega)
          obtain ⟨u0,hu0,_⟩:=hq0 0 hpos
          obtain ⟨hs,C,el,fr,hh,_⟩:=cell_some hu0
          obtain ⟨B,off,spot⟩:=a
          simp only [Nat.zero_mul,Addr.add,if_true]at hs hh
          subst hs
          have hcell:∀i,i<len→∀j,j<P.cellsOf e→∃u,C[off+(i*P.cellsOf e+j)]?=some u∧FR (fun B=>w.heap[B]?) (c.getD (i*P.cellsOf e+j) undef) u:=by
            intro i hi j hj
            obtain ⟨_,hq⟩:=hc2 i hi
            obtain ⟨u,k1,k2⟩:=hq j hj
            obtain ⟨_,C',el',fr',hh',k3⟩:=cell_some k1
            simp only [add_at]at hh' k3
            rw [hh]at hh'
            cases hh'
            refine ⟨u,by rw [← Nat.add_assoc];exact k3,?_⟩
            have hle:i*P.cellsOf e+j<c.length:=by
              rw [hcz]
              have:=Nat.mul_le_mul_right (P.cellsOf e) hi
              rw [Nat.succ_mul]at this
              omega
            rw [List.getD_eq_getElem?_getD,List.getElem?_take,if_pos hj,List.getElem?_drop]at k2
            rw [List.getD_eq_getElem?_getD]
            exact k2
          have hall:∀i,i<c.length→∃u,C[off+i]?=some u∧FR (fun B=>w.heap[B]?) (c.getD i undef) u:=by
            intro i hi
            rw [hcz]at hi
            have hd:i / P.cellsOf e<len:=Nat.div_lt_of_lt_mul (by rw [Nat.mul_comm];exact hi)
            obtain ⟨u,k1,k2⟩:=hcell _ hd _ (Nat.mod_lt i hpos)
            have e1:i / P.cellsOf e*P.cellsOf e+i % P.cellsOf e=i:=by
              have:=Nat.div_add_mod i (P.cellsOf e)
              rw [Nat.mul_comm]at this;exact this
            rw [e1]at k1 k2
            exact ⟨u,k1,k2⟩
          rcases Nat.eq_zero_or_pos len with rfl | hlen
          · refine ⟨_,.cons (.lst (c:=#[]) (C:=C) (el:=el) (fr:=fr) (off:=0) (len:=0) (sz:=P.cellsOf e) (cap':=m) (B:=B) (base:=off) hh (by
              obtain ⟨_,C',el',fr',hh',k3⟩:=cell_some hu0
              simp only [add_at]at hh' k3
              rw [hh]at hh';cases hh'
              have:=(Array.getElem?_eq_some_iff.1 k3).1
              simp;omega) (fun i hi=>absurd hi (Nat.not_lt_zero _)) (Nat.zero_le _) (by simp)) .nil,?_⟩
            unfold Ty;rw [hu];exact ⟨#[],0,rfl,by simp,Nat.zero_le _,fun k hk=>absurd hk (Nat.not_lt_zero _)⟩
          · refine ⟨_,.cons (.lst (c:=⟨c⟩) (C:=C) (el:=el) (fr:=fr) (off:=0) (len:=len) (sz:=P.cellsOf e) (cap':=m) (B:=B) (base:=off) hh ?_ (fun i hi=>?_) hl (by simp;omega)) .nil,?_⟩
            · have hlc:0<c.length:=by rw [hcz];exact Nat.mul_pos hlen hpos
              obtain ⟨u,k1,_⟩:=hall (c.length-1) (by omega)
              have:=(Array.getElem?_eq_some_iff.1 k1).1
              simp;omega
            · obtain ⟨u,k1,k2⟩:=hall i (by simpa using hi)
              rw [Array.getD_eq_getD_getElem?,Array.getD_eq_getD_getElem?,k1]
              rw [List.getD_eq_getElem?_getD]at k2
              simpa using k2
            · unfold Ty;rw [hu]
              exact ⟨⟨c⟩,len,rfl,by simpa using hcz,by omega,fun k hk=>(hc2 k hk).1⟩
    · cases hf
theorem fr_agg {t:TypeId}{cs:Array Value}{fuel:Nat}{x:DataW H×List MemPlace}(ht:tyB P 20 t=true) (h:DataW.trod enc P w base (fun _=>true) held fuel t cs.toList=some x):∃abs:List Value,VR (zAll w) (.agg ⟨abs⟩) (.agg cs)∧Ty P 20 t abs:=by
  obtain ⟨abs,h1,h2⟩:=fr_trod ht h
  refine ⟨abs,VR.agg (by simpa using h1.len.symm) fun i hi=>?_,h2⟩
  have hi':i<abs.length:=by simpa using hi
  obtain ⟨b,h3,h4⟩:=h1.get (List.getElem?_eq_getElem hi')
  have h5:cs[i]?=some b:=by rw [← Array.getElem?_toList];exact h3
  rw [Array.getD_eq_getD_getElem?,Array.getD_eq_getD_getElem?,h5]
  simp only [List.getElem?_toArray,List.getElem?_eq_getElem hi',Option.getD_some]
  exact FR.vr (φ:=zAll w) h4
theorem flat_fields {d:Nat}(ih:∀(t:TypeId) (cs:List Value),flatT P d t=true→Ty P d t cs→All2 okLeaf (leaves P false d t) cs):∀{fs:List Field}{ps:List (List Value)},
    All2 (fun (f:Field) p=>Ty P d f.type p) fs ps→(∀f∈fs,flatT P d f.type=true)→All2 okLeaf (fs.flatMap fun f=>leaves P false d f.type) ps.flatten
  | [],_,.nil,_=>.nil
  | f::fs,_,.cons h r,hf=>by
    rw [List.flatMap_cons,List.flatten_cons]
    exact (ih _ _ (hf f (List.mem_cons_self ..)) h).append (flat_fields ih r fun g hg=>hf g (List.mem_cons_of_mem _ hg))
theorem ty_flat:∀{d:Nat}{t:TypeId}{cs:List Value},flatT P d t=true→Ty P d t cs→All2 okLeaf (leaves P false d t) cs
  | 0,_,_,h,_=>by cases h
  | d+1,t,cs,hf,h=>by
    unfold flatT at hf
    unfold Ty at h
    split at hf
    · rename_i hu
      rw [hu]at h
      rw [leaves,hu,show leafOf P false t=.bool by unfold leafOf;rw [hu]]
      obtain ⟨b,rfl⟩:=h
      exact .cons ⟨_,rfl⟩ .nil
    · rename_i q hu
      rw [hu]at h
      rw [leaves,hu,show leafOf P false t=.int q by unfold leafOf;rw [hu]]
      obtain ⟨n,rfl,hw⟩:=h
      exact .cons ⟨_,rfl,hw⟩ .nil
    · rename_i hu
      rw [hu]at h
      rw [leaves,hu,show leafOf P false t=.str by unfold leafOf;rw [hu]]
      obtain ⟨n,rfl,hw⟩:=h
      exact .cons ⟨_,rfl,hw⟩ .nil
    · rename_i fs hu
      rw [hu]at h
      simp only [Bool.and_eq_true,List.all_eq_true]at hf
      obtain ⟨ps,rfl,h2⟩:=h
      have hlv:leaves P false (d+1) t=fs.toList.flatMap fun f=>leaves P false d f.type:=by rw [leaves,hu]
      rw [hlv]
      exact flat_fields (fun t cs h1 h2=>ty_flat h1 h2) h2 hf.2
    · cases hf
theorem ty_good {d:Nat}{e:TypeId}{c:Array Value}{n:Nat}(hf:flatT P d e=true) (hz:P.cellsOf e=(leaves P false d e).length) (hs:c.size=n*P.cellsOf e) (hpos:0<P.cellsOf e)
    (h:∀k,k<n→Ty P d e ((c.toList.drop (k*P.cellsOf e)).take (P.cellsOf e))):GoodL (leaves P false d e) c 0 n:=by
  have hrow:∀k,k<n→∀j l,(leaves P false d e)[j]?=some l→∃v,c[k*P.cellsOf e+j]?=some v∧okLeaf l v:=by
    intro k hk j l hj
    obtain ⟨v,h1,h2⟩:=(ty_flat hf (h k hk)).get hj
    refine ⟨v,?_,h2⟩
    rw [List.getElem?_take]at h1
    split at h1
    · rw [List.getElem?_drop,Array.getElem?_toList]at h1;exact h1
    · cases h1
  refine ⟨?_,fun k hk=>rdOk_of fun j l hj=>?_⟩
  · rw [List.all_eq_true]
    intro u hu
    rw [Array.mem_toList_iff,Array.mem_iff_getElem?]at hu
    obtain ⟨i,hu⟩:=hu
    have hi:=(Array.getElem?_eq_some_iff.1 hu).1
    rw [hs]at hi
    have hd:i / P.cellsOf e<n:=Nat.div_lt_of_lt_mul (by rw [Nat.mul_comm];exact hi)
    have hm:=Nat.mod_lt i hpos
    obtain ⟨l,hl⟩:∃l,(leaves P false d e)[i % P.cellsOf e]?=some l:=⟨_,List.getElem?_eq_getElem (by omega)⟩
    obtain ⟨v,h1,h2⟩:=hrow _ hd _ l hl
    have e1:i / P.cellsOf e*P.cellsOf e+i % P.cellsOf e=i:=by
      have:=Nat.div_add_mod i (P.cellsOf e)
      rw [Nat.mul_comm]at this;exact this
    rw [e1,hu]at h1
    cases h1
    exact okLeaf_g0 h2
  · obtain ⟨v,h1,h2⟩:=hrow k hk j l hj
    exact ⟨v,by rw [Nat.zero_add,← hz];exact h1,h2⟩
end
end
end Go.Gi
namespace Go.Gi
open Go.ChangeShapes Go.WideShapes Go.ChangeAt Go.RowKit
section
variable {P:Program}
theorem tyI {d:Nat}{t:TypeId}{cs:List Value}(hu:P.underlying t=some (.int .i64)) (h:Ty P (d+1) t cs):∃n,cs=[.int .i64 n]∧(Lit.int .i64 n).wf=true:=by
  unfold Ty at h
  rw [hu]at h
  exact h
theorem tyL {d:Nat}{t e:TypeId}{cs:List Value}(hu:P.underlying t=some (.slice e)) (h:Ty P (d+1) t cs) :
    ∃(c:Array Value) (n:Nat),cs=[lstV c 0 n (P.cellsOf e)]∧c.size=n*P.cellsOf e∧n≤maxLen∧∀k,k<n→Ty P d e ((c.toList.drop (k*P.cellsOf e)).take (P.cellsOf e)):=by
  unfold Ty at h
  rw [hu]at h
  exact h
theorem tyS {d:Nat}{t:TypeId}{fs:Array Field}{cs:List Value}(hu:P.underlying t=some (.struct fs)) (h:Ty P (d+1) t cs):∃ps:List (List Value),cs=ps.flatten∧All2 (fun (f:Field) p=>Ty P d f.type p) fs.toList ps:=by
  unfold Ty at h
  rw [hu]at h
  exact h
theorem tyS3 {d:Nat}{t:TypeId}{f0 f1 f2:Field}{cs:List Value}(hu:P.underlying t=some (.struct #[f0,f1,f2])) (h:Ty P (d+1) t cs) :
    ∃p0 p1 p2,cs=p0++(p1++p2)∧Ty P d f0.type p0∧Ty P d f1.type p1∧Ty P d f2.type p2:=by
  obtain ⟨ps,rfl,g⟩:=tyS hu h
  clear h
  cases g with
  | cons h1 g =>
  cases g with
  | cons h2 g =>
  cases g with
  | cons h3 g =>
  cases g
  exact ⟨_,_,_,by simp,h1,h2,h3⟩
theorem tyS4 {d:Nat}{t:TypeId}{f0 f1 f2 f3:Field}{cs:List Value}(hu:P.underlying t=some (.struct #[f0,f1,f2,f3])) (h:Ty P (d+1) t cs) :
    ∃p0 p1 p2 p3,cs=p0++(p1++(p2++p3))∧Ty P d f0.type p0∧Ty P d f1.type p1∧Ty P d f2.type p2∧Ty P d f3.type p3:=by
  obtain ⟨ps,rfl,g⟩:=tyS hu h
  clear h
  cases g with
  | cons h1 g =>
  cases g with
  | cons h2 g =>
  cases g with
  | cons h3 g =>
  cases g with
  | cons h4 g =>
  cases g
  exact ⟨_,_,_,_,by simp,h1,h2,h3,h4⟩
structure GL (L:List Leaf) (z:Nat) (c:Array Value) (n:Nat):Prop where
  good:GoodL L c 0 n
  size:c.size=n*z
  few:n≤maxLen
theorem tyG {d z:Nat}{t e:TypeId}{L:List Leaf}{cs:List Value}(hu:P.underlying t=some (.slice e)) (hf:flatT P d e=true) (hz:P.cellsOf e=z) (hL:leaves P false d e=L) (hl:L.length=z) (hp:0<z)
    (h:Ty P (d+1) t cs):∃c n,cs=[lstV c 0 n z]∧GL L z c n:=by
  obtain ⟨c,n,h1,h2,h3,h4⟩:=tyL hu h
  subst hz
  subst hL
  exact ⟨c,n,h1,ty_good hf hl.symm h2 hp h4,h2,h3⟩
end
theorem GL.or {L:List Leaf}{z n:Nat}{c:Array Value}(h:GL L z c n):n=0∨GoodL L c 0 n:=.inr h.good
section
variable {P:Program}{H:Type}{enc:TypeId×Value→H}{w:World}{r:Reach}{b0:Nat}{v:Value}{dd:DataW H}{p:List MemPlace}{t e:TypeId}
theorem argS {fs:Array Field}(hu:P.underlying t=some (.struct fs)) (ht:tyB P 20 t=true) (hval:Value.okWide P w r b0 t v) (h:DataW.Trod enc P w 0 (fun _=>true) true t v dd p):∃abs,VR (zAll w) (.agg ⟨abs⟩) v∧Ty P 20 t abs:=by
  obtain ⟨cs,rfl,hcs⟩:=okWide_struct hu hval
  obtain ⟨fu,hf⟩:=h
  exact fr_agg ht hf
end
end Go.Gi
namespace Go.Gi
open Go.RowKit
theorem tyStr {P:Program}{d:Nat}{t:TypeId}{cs:List Value}(hu:P.underlying t=some .string) (h:Ty P (d+1) t cs):∃s,cs=[.string s]∧s.size≤maxLen:=by
  unfold Ty at h
  rw [hu]at h
  exact h
end Go.Gi
namespace Go.Proofs.Ytoojllndfjamgaa
open Go.Gi Go.RowKit
theorem noNG_of {P : Program} (h : (P.funcs.toList.all fun fn=>!(fn.name == "runtime.NumGoroutine")) = true) : NoNG P:=by
  intro f fn hf _
  rw [List.all_eq_true]at h
  have:=h fn (by rw [Array.mem_toList_iff];exact Array.mem_of_getElem? hf)
  simpa using this
theorem noNG:NoNG Try.prog:=noNG_of (by decide +kernel)
theorem mixed:Try.prog.follows .mixedOrders=true:=by decide +kernel
end Go.Proofs.Ytoojllndfjamgaa
namespace Go.Proofs.Ytoojllndfjamgaa.Old
end Go.Proofs.Ytoojllndfjamgaa.Old
namespace Go.Proofs.Ytoojllndfjamgaa
open Go.ChangeShapes Go.WideShapes Go.ChangeAt Go.RowKit Go.Gi
set_option maxRecDepth 100000
theorem own:ownKnob Try.prog.godebug=none:=by kernel_rfl
theorem laidOut:laidOutB Try.prog=true:=by kernel_rfl
def C4:List Leaf:=[Leaf.str,(Leaf.int .i64),(Leaf.int .i64),(Leaf.int .i64)]
def D3:List Leaf:=[(Leaf.int .i64),(Leaf.int .i64),(Leaf.int .i64)]
def S7:List Leaf:=[(Leaf.int .i64),(Leaf.int .i64),(Leaf.int .i64),(Leaf.int .i64),(Leaf.int .i64),(Leaf.int .i64),Leaf.bool]
theorem flat89:flatT Try.prog 18 89=true:=by kernel_rfl
theorem leaves89:leaves Try.prog false 18 89=C4:=by kernel_rfl
theorem cells89:Try.prog.cellsOf 89=4:=by kernel_rfl
theorem flat101:flatT Try.prog 18 101=true:=by kernel_rfl
theorem leaves101:leaves Try.prog false 18 101=D3:=by kernel_rfl
theorem cells101:Try.prog.cellsOf 101=3:=by kernel_rfl
theorem flat105:flatT Try.prog 18 105=true:=by kernel_rfl
theorem leaves105:leaves Try.prog false 18 105=S7:=by kernel_rfl
theorem cells105:Try.prog.cellsOf 105=7:=by kernel_rfl
theorem tyB24:tyB Try.prog 20 24=true:=by kernel_rfl
theorem tyB28:tyB Try.prog 20 28=true:=by kernel_rfl
section
variable {H:Type}{enc:TypeId×Value→H}{w:World}{r:Reach}{b0:Nat}{v:Value}{dd:DataW H}{p:List MemPlace}
theorem fmtArg (hval:Value.okWide Try.prog w r b0 24 v)(h:DataW.Trod enc Try.prog w 0 (fun _=>true) true 24 v dd p) :
    ∃s ws dp cc nc,VR (zAll w) (.agg ⟨[.string s,.int .i64 ws,.int .i64 dp,lstV cc 0 nc 4]⟩) v∧s.size≤maxLen∧(Lit.int .i64 ws).wf=true∧(Lit.int .i64 dp).wf=true∧GL C4 4 cc nc:=by
  obtain ⟨abs,h1,h2⟩:=argS Try.underlying24 tyB24 hval h
  obtain ⟨p0,p1,p2,p3,rfl,g0,g1,g2,g3⟩:=tyS4 Try.underlying24 h2
  obtain ⟨s,rfl,e0⟩:=tyStr Try.underlying9 g0
  obtain ⟨ws,rfl,e1⟩:=tyI Try.underlying3 g1
  obtain ⟨dp,rfl,e2⟩:=tyI Try.underlying3 g2
  obtain ⟨cc,nc,rfl,e3⟩:=tyG Try.underlying22 flat89 cells89 leaves89 rfl (by decide) g3
  exact ⟨s,ws,dp,cc,nc,h1,e0,e1,e2,e3⟩
theorem skyArg (hval:Value.okWide Try.prog w r b0 28 v)(h:DataW.Trod enc Try.prog w 0 (fun _=>true) true 28 v dd p) :
    ∃cd nd tu cs ns,VR (zAll w) (.agg ⟨[lstV cd 0 nd 3,.int .i64 tu,lstV cs 0 ns 7]⟩) v∧GL D3 3 cd nd∧(Lit.int .i64 tu).wf=true∧GL S7 7 cs ns:=by
  obtain ⟨abs,h1,h2⟩:=argS Try.underlying28 tyB28 hval h
  obtain ⟨p0,p1,p2,rfl,g0,g1,g2⟩:=tyS3 Try.underlying28 h2
  obtain ⟨cd,nd,rfl,e0⟩:=tyG Try.underlying25 flat101 cells101 leaves101 rfl (by decide) g0
  obtain ⟨tu,rfl,e1⟩:=tyI Try.underlying3 g1
  obtain ⟨cs,ns,rfl,e2⟩:=tyG Try.underlying26 flat105 cells105 leaves105 rfl (by decide) g2
  exact ⟨cd,nd,tu,cs,ns,h1,e0,e1,e2⟩
end
end Go.Proofs.Ytoojllndfjamgaa
namespace Go.Proofs.Ytoojllndfjamgaa
open Go.Gi Go.RowKit Go.Proofs.Ytoojllndfjamgaa.Old
noncomputable section
set_option maxRecDepth 100000
set_option maxHeartbeats 4000000
structure R42 where
  r0:Bool
structure A42 where
  a0:Int
  a1:Int
  a2:Int
def rt42 (a0:Int)(a1:Int)(a2:Int):RT R42 :=
  .br (decide (a1≤a0)) (.leaf ⟨(decide (a0≤a2))⟩) (.leaf ⟨false⟩)
def en42 (r:R42):Value:=(.bool r.r0)
theorem T42  (a0:Int) (a1:Int) (a2:Int):evC Try.prog (Ans.c (fun _=>none:Ans)) 60 (.call 42 ⟨[(.int .i64 a0),(.int .i64 a1),(.int .i64 a2)]⟩ ⟨[],0,[]⟩) (frzK [0])=(rt42 a0 a1 a2).out (fun r=>.ret (en42 r) ⟨[],0,[]⟩):=by kernel_rfl
def F42 (a0:Int)(a1:Int)(a2:Int):Option R42:=(rt42 a0 a1 a2).val
section
variable (a0:Int) (a1:Int) (a2:Int)
def F42_ok:Bool:=(F42 a0 a1 a2).isSome
def F42_0:Bool:=match F42 a0 a1 a2 with | some r=>r.r0 | none=>false
end
def dec42:Task→Option (A42×Hp)
  | .call g ⟨[(.int .i64 a0),(.int .i64 a1),(.int .i64 a2)]⟩ h=>(match Nat.beq g 42 with | true=>some (⟨a0,a1,a2⟩,h) | false=>none)
  | _=>none
def alt42 (x:A42)(h:Hp):AT:=.br (F42_ok x.a0 x.a1 x.a2) (.leaf (.ret (.bool (F42_0 x.a0 x.a1 x.a2)) h)) .no
def p42:Ans:=fnAns dec42 alt42
theorem ha42:∀(x:A42) (h:Hp)(o:Out),(alt42 x h).out=some o→∃r,(rt42 x.a0 x.a1 x.a2).val=some r∧o=.ret (en42 r) h:=by
  intro x h o e
  unfold alt42 at e
  simp only [AT.out]at e
  obtain ⟨g,e⟩:=cond_some e
  unfold F42_ok at g
  obtain ⟨r,hF⟩:=Option.isSome_iff_exists.1 g
  have hv:F42 x.a0 x.a1 x.a2=(rt42 x.a0 x.a1 x.a2).val:=by delta F42;exact rfl
  refine ⟨r,hv.symm.trans hF,?_⟩
  simp only [Option.some.injEq]at e
  rw [← e]
  have k0:F42_0 x.a0 x.a1 x.a2=r.r0:=by
    show (match F42 x.a0 x.a1 x.a2 with | some r=>r.r0 | none=>false)=r.r0
    rw [hF]
  rw [k0]<;>rfl
theorem hd42:∀(t:Task) (x:A42)(h:Hp),dec42 t=some (x,h)→t=.call 42 ⟨[(.int .i64 x.a0),(.int .i64 x.a1),(.int .i64 x.a2)]⟩ h:=by
  intro t x h e
  unfold dec42 at e
  split at e
  case h_2=>cases e
  split at e
  case h_2=>cases e
  rename_i hg
  simp only [Option.some.injEq,Prod.mk.injEq]at e
  obtain ⟨rfl,rfl⟩:=e
  rw [Nat.eq_of_beq_eq_true hg]
theorem known42:Known Try.prog p42:=by
  exact Known.fn noNG mixed (Known.nothing Try.prog) (n:=60) (zs:=[0]) 42 (fun x:A42=>[(.int .i64 x.a0),(.int .i64 x.a1),(.int .i64 x.a2)]) (fun x=>rt42 x.a0 x.a1 x.a2) en42 (fun x=>T42  x.a0 x.a1 x.a2) (fun x=>rfl) dec42 alt42 hd42 ha42
structure X78_0 where
  v0:Array Value
  v1:Nat
  v2:Nat
  v3:Int
  v4:Int
  v5:Int
inductive D78_0 where
  | k0 (d0:Int)
  | k1
def Lp78_0:LoopOf X78_0 D78_0 where
  c:=(theLoop Try.prog 78 0)
  N:=19
  M:=0
  S:=[0,1,7,8]
  sl:=fun x=>[(lstV x.v0 x.v1 x.v2 1),(.int .i64 x.v3),(.int .i64 x.v4),(.int .i64 x.v5)]
  hp:=fun x=>[]
  ex:=fun d=>match d with | .k0 ..=>.ret | .k1 ..=>.exit 0
  pick:=fun e=>match e with | .ret=>[4] | .exit 0=>[] | _=>[]
  dv:=fun d=>match d with | .k0 d0=>[(.int .i64 d0)] | .k1 =>[]
  dh:=fun d=>match d with | .k0 d0=>[] | .k1 =>[]
theorem ok78_0:Lp78_0.Ok:=⟨fun x=>rfl,fun x=>rfl,fun x=>rfl,fun x=>rfl,fun d=>by cases d<;>rfl,fun d=>by cases d<;>rfl,fun d=>by cases d<;>rfl,fun d=>by cases d<;>(intro h;cases h),fun d=>by cases d<;>rfl,fun d=>by cases d<;>rfl⟩
def rd78_0 (x:X78_0):RT (Sum X78_0 D78_0):=match x with
  | ⟨v0,v1,v2,v3,v4,v5⟩ =>
     .br (decide (v5<v4)) (.br (and (decide ((0:Int)≤v5)) (decide (v5<(Int.ofNat v2)))) (.br (isInt .i64 v0 (v1+((Int.toNat v5)*1))) (.br (decide (v3=(getInt v0 (v1+((Int.toNat v5)*1))))) (.leaf (.inr (.k0 (v5)))) (.leaf (.inl ⟨v0,v1,v2,v3,v4,(IntKind.wrap .i64 (v5+(1:Int)))⟩))) (.no)) (.no)) (.leaf (.inr (.k1)))
theorem T78_0  (y:List Value) (v0:Array Value) (v1:Nat) (v2:Nat) (v3:Int) (v4:Int) (v5:Int):evC Try.prog (Ans.c (fun _=>none:Ans)) 60 (.code none (theLoop Try.prog 78 0) ⟨sets (junkF 19 y) [(0,(lstV v0 v1 v2 1)),(1,(.int .i64 v3)),(7,(.int .i64 v4)),(8,(.int .i64 v5))],[],⟨[],0,[]⟩⟩) (sumK 0 19 Lp78_0.pk)=(rd78_0 ⟨v0,v1,v2,v3,v4,v5⟩).out Lp78_0.enc:=by kernel_rfl
def L78_0 (x:X78_0):Option D78_0:=loopR rd78_0 x
section
variable (x:X78_0)
def L78_0_k0:Bool:=match L78_0 x with | some (.k0 ..)=>true | _=>false
def Qa0:Int:=match L78_0 x with | some (.k0 d)=>d | _=>0
def L78_0_k1:Bool:=match L78_0 x with | some (.k1 ..)=>true | _=>false
end
def dec78_0:Task→Option (Code×X78_0)
  | .code none (.loop code) ⟨t,[],⟨[],0,[]⟩⟩ =>
    (match Nat.beq (firstReg code) 2,lenIs t 19,lget t 0,lget t 1,lget t 7,lget t 8 with
    | true,true,(.func (.via 0 ⟨[]⟩ 0 true) v0 ⟨[.slice (some ⟨0,v1,none⟩) v2 1]⟩),(.int .i64 v3),(.int .i64 v4),(.int .i64 v5)=>some (code,⟨v0,v1,v2,v3,v4,v5⟩)
    | _,_,_,_,_,_=>none)
  | _=>none
def alt78_0 (x:X78_0)(j:List Value):AT:=.br (L78_0_k0 x) (loopEnd 19 (.ret) [(4,(.int .i64 (Qa0 x)))] ⟨[],0,[]⟩ j) (.br (L78_0_k1 x) (loopEnd 19 (.exit 0) [] ⟨[],0,[]⟩ j) (.no))
def la78_0 (J:Task→List Value):Ans:=loopAns Lp78_0.c dec78_0 alt78_0 J
theorem ha78_0:∀(x:X78_0) (j:List Value)(o:Out),(alt78_0 x j).out=some o→∃d,loopR rd78_0 x=some d∧o=Lp78_0.tail d j:=by
  intro x j o h
  unfold alt78_0 at h
  cases hL:L78_0 x with
  | none=>simp [L78_0_k0,Qa0,L78_0_k1,hL,AT.out]at h
  | some d =>
    refine ⟨d,hL,?_⟩
    cases d<;>(simp only [L78_0_k0,Qa0,L78_0_k1,hL,AT.out,loopEnd,cond_true,cond_false,Option.some.injEq]at h;rw [← h];rfl)
theorem hd78_0:∀(t:Task) (c:Code)(x:X78_0),dec78_0 t=some (c,x)→c=Lp78_0.c→∃T,t=.code none (.loop Lp78_0.c) ⟨T,[],⟨Lp78_0.hp x,0,[]⟩⟩∧T.length=Lp78_0.N∧∀kv∈Lp78_0.S.zip (Lp78_0.sl x),lget T kv.1=kv.2:=by
  intro t c x h hc
  unfold dec78_0 at h
  split at h
  case h_2=>cases h
  split at h
  case h_2=>cases h
  simp only [Option.some.injEq,Prod.mk.injEq]at h
  obtain ⟨rfl,rfl⟩:=h
  subst hc
  refine ⟨_,rfl,lenIs_eq _ _ (by assumption),?_⟩
  intro kv hk
  simp only [Lp78_0,List.zip_cons_cons,List.zip_nil_right,List.mem_cons,List.not_mem_nil,or_false]at hk
  rcases hk with rfl | rfl | rfl | rfl<;>assumption
theorem kl78_0:∃J,Known Try.prog (la78_0 J):=by
  exact LoopOf.known noNG mixed ok78_0 (by decide) (by decide) (Known.nothing Try.prog) (n:=60) (rd:=rd78_0) (fun x j=>T78_0  j x.v0 x.v1 x.v2 x.v3 x.v4 x.v5) dec78_0 alt78_0 hd78_0 ha78_0
structure R78 where
  r0:Int
structure A78 where
  a0:Array Value
  a1:Nat
  a2:Nat
  a3:Int
def rt78 (a0:Array Value)(a1:Nat)(a2:Nat)(a3:Int):RT R78 :=
  .sw (eqCode (Lp78_0.c) (Lp78_0.c)) true (by simp only [eqCode_self,arrEq_self]) (.br (L78_0_k0 (X78_0.mk a0 a1 a2 a3 (Int.ofNat a2) (0:Int))) (.leaf ⟨(Qa0 (X78_0.mk a0 a1 a2 a3 (Int.ofNat a2) (0:Int)))⟩) (.br (L78_0_k1 (X78_0.mk a0 a1 a2 a3 (Int.ofNat a2) (0:Int))) (.leaf ⟨(-1:Int)⟩) (.no))) (.no)
def en78 (r:R78):Value:=(.int .i64 r.r0)
theorem T78 (J0:Task→List Value)(a0:Array Value)(a1:Nat)(a2:Nat)(a3:Int):evC Try.prog (Ans.c (la78_0 J0)) 60 (.call 78 ⟨[(lstV a0 a1 a2 1),(.int .i64 a3)]⟩ ⟨[],0,[]⟩) (frzK [0])=(rt78 a0 a1 a2 a3).out (fun r=>.ret (en78 r) ⟨[],0,[]⟩):=by kernel_rfl
def F78 (a0:Array Value)(a1:Nat)(a2:Nat)(a3:Int):Option R78:=(rt78 a0 a1 a2 a3).val
section
variable (a0:Array Value) (a1:Nat) (a2:Nat) (a3:Int)
def F78_ok:Bool:=(F78 a0 a1 a2 a3).isSome
def F78_0:Int:=match F78 a0 a1 a2 a3 with | some r=>r.r0 | none=>0
end
def dec78:Task→Option (A78×Hp)
  | .call g ⟨[(.func (.via 0 ⟨[]⟩ 0 true) a0 ⟨[.slice (some ⟨0,a1,none⟩) a2 1]⟩),(.int .i64 a3)]⟩ h=>(match Nat.beq g 78 with | true=>some (⟨a0,a1,a2,a3⟩,h) | false=>none)
  | _=>none
def alt78 (x:A78)(h:Hp):AT:=.br (F78_ok x.a0 x.a1 x.a2 x.a3) (.leaf (.ret (.int .i64 (F78_0 x.a0 x.a1 x.a2 x.a3)) h)) .no
def p78:Ans:=fnAns dec78 alt78
theorem ha78:∀(x:A78) (h:Hp)(o:Out),(alt78 x h).out=some o→∃r,(rt78 x.a0 x.a1 x.a2 x.a3).val=some r∧o=.ret (en78 r) h:=by
  intro x h o e
  unfold alt78 at e
  simp only [AT.out]at e
  obtain ⟨g,e⟩:=cond_some e
  unfold F78_ok at g
  obtain ⟨r,hF⟩:=Option.isSome_iff_exists.1 g
  have hv:F78 x.a0 x.a1 x.a2 x.a3=(rt78 x.a0 x.a1 x.a2 x.a3).val:=by delta F78;exact rfl
  refine ⟨r,hv.symm.trans hF,?_⟩
  simp only [Option.some.injEq]at e
  rw [← e]
  have k0:F78_0 x.a0 x.a1 x.a2 x.a3=r.r0:=by
    show (match F78 x.a0 x.a1 x.a2 x.a3 with | some r=>r.r0 | none=>0)=r.r0
    rw [hF]
  rw [k0]<;>rfl
theorem hd78:∀(t:Task) (x:A78)(h:Hp),dec78 t=some (x,h)→t=.call 78 ⟨[(lstV x.a0 x.a1 x.a2 1),(.int .i64 x.a3)]⟩ h:=by
  intro t x h e
  unfold dec78 at e
  split at e
  case h_2=>cases e
  split at e
  case h_2=>cases e
  rename_i hg
  simp only [Option.some.injEq,Prod.mk.injEq]at e
  obtain ⟨rfl,rfl⟩:=e
  rw [Nat.eq_of_beq_eq_true hg]
theorem known78:Known Try.prog p78:=by
  obtain ⟨J0,hJ0⟩:=kl78_0
  exact Known.fn noNG mixed hJ0 (n:=60) (zs:=[0]) 78 (fun x:A78=>[(lstV x.a0 x.a1 x.a2 1),(.int .i64 x.a3)]) (fun x=>rt78 x.a0 x.a1 x.a2 x.a3) en78 (fun x=>T78 J0 x.a0 x.a1 x.a2 x.a3) (fun x=>rfl) dec78 alt78 hd78 ha78
structure R43 where
  r0:Bool
structure A43 where
  a0:Array Value
  a1:Nat
  a2:Nat
  a3:Int
def rt43 (a0:Array Value)(a1:Nat)(a2:Nat)(a3:Int):RT R43 :=
  .br (F78_ok (a0) a1 a2 a3) (.leaf ⟨(decide ((0:Int)≤(F78_0 (a0) a1 a2 a3)))⟩) (.no)
def en43 (r:R43):Value:=(.bool r.r0)
theorem T43  (a0:Array Value) (a1:Nat) (a2:Nat) (a3:Int):evC Try.prog (Ans.c p78) 60 (.call 43 ⟨[(lstV a0 a1 a2 1),(.int .i64 a3)]⟩ ⟨[],0,[]⟩) (frzK [0])=(rt43 a0 a1 a2 a3).out (fun r=>.ret (en43 r) ⟨[],0,[]⟩):=by kernel_rfl
def F43 (a0:Array Value)(a1:Nat)(a2:Nat)(a3:Int):Option R43:=(rt43 a0 a1 a2 a3).val
section
variable (a0:Array Value) (a1:Nat) (a2:Nat) (a3:Int)
def F43_ok:Bool:=(F43 a0 a1 a2 a3).isSome
def F43_0:Bool:=match F43 a0 a1 a2 a3 with | some r=>r.r0 | none=>false
end
def dec43:Task→Option (A43×Hp)
  | .call g ⟨[(.func (.via 0 ⟨[]⟩ 0 true) a0 ⟨[.slice (some ⟨0,a1,none⟩) a2 1]⟩),(.int .i64 a3)]⟩ h=>(match Nat.beq g 43 with | true=>some (⟨a0,a1,a2,a3⟩,h) | false=>none)
  | _=>none
def alt43 (x:A43)(h:Hp):AT:=.br (F43_ok x.a0 x.a1 x.a2 x.a3) (.leaf (.ret (.bool (F43_0 x.a0 x.a1 x.a2 x.a3)) h)) .no
def p43:Ans:=fnAns dec43 alt43
theorem ha43:∀(x:A43) (h:Hp)(o:Out),(alt43 x h).out=some o→∃r,(rt43 x.a0 x.a1 x.a2 x.a3).val=some r∧o=.ret (en43 r) h:=by
  intro x h o e
  unfold alt43 at e
  simp only [AT.out]at e
  obtain ⟨g,e⟩:=cond_some e
  unfold F43_ok at g
  obtain ⟨r,hF⟩:=Option.isSome_iff_exists.1 g
  have hv:F43 x.a0 x.a1 x.a2 x.a3=(rt43 x.a0 x.a1 x.a2 x.a3).val:=by delta F43;exact rfl
  refine ⟨r,hv.symm.trans hF,?_⟩
  simp only [Option.some.injEq]at e
  rw [← e]
  have k0:F43_0 x.a0 x.a1 x.a2 x.a3=r.r0:=by
    show (match F43 x.a0 x.a1 x.a2 x.a3 with | some r=>r.r0 | none=>false)=r.r0
    rw [hF]
  rw [k0]<;>rfl
theorem hd43:∀(t:Task) (x:A43)(h:Hp),dec43 t=some (x,h)→t=.call 43 ⟨[(lstV x.a0 x.a1 x.a2 1),(.int .i64 x.a3)]⟩ h:=by
  intro t x h e
  unfold dec43 at e
  split at e
  case h_2=>cases e
  split at e
  case h_2=>cases e
  rename_i hg
  simp only [Option.some.injEq,Prod.mk.injEq]at e
  obtain ⟨rfl,rfl⟩:=e
  rw [Nat.eq_of_beq_eq_true hg]
theorem known43:Known Try.prog p43:=by
  exact Known.fn noNG mixed known78 (n:=60) (zs:=[0]) 43 (fun x:A43=>[(lstV x.a0 x.a1 x.a2 1),(.int .i64 x.a3)]) (fun x=>rt43 x.a0 x.a1 x.a2 x.a3) en43 (fun x=>T43  x.a0 x.a1 x.a2 x.a3) (fun x=>rfl) dec43 alt43 hd43 ha43
structure R101 where
  r0:Bool
structure A101 where
  a0:Int
def rt101 (a0:Int):RT R101 :=
  .br (decide ((97:Int)≤a0)) (.leaf ⟨(decide (a0≤(122:Int)))⟩) (.leaf ⟨false⟩)
def en101 (r:R101):Value:=(.bool r.r0)
theorem T101  (a0:Int):evC Try.prog (Ans.c (fun _=>none:Ans)) 60 (.call 101 ⟨[(.int .u8 a0)]⟩ ⟨[],0,[]⟩) (frzK [0])=(rt101 a0).out (fun r=>.ret (en101 r) ⟨[],0,[]⟩):=by kernel_rfl
def F101 (a0:Int):Option R101:=(rt101 a0).val
section
variable (a0:Int)
def F101_ok:Bool:=(F101 a0).isSome
def F101_0:Bool:=match F101 a0 with | some r=>r.r0 | none=>false
end
def dec101:Task→Option (A101×Hp)
  | .call g ⟨[(.int .u8 a0)]⟩ h=>(match Nat.beq g 101 with | true=>some (⟨a0⟩,h) | false=>none)
  | _=>none
def alt101 (x:A101)(h:Hp):AT:=.br (F101_ok x.a0) (.leaf (.ret (.bool (F101_0 x.a0)) h)) .no
def p101:Ans:=fnAns dec101 alt101
theorem ha101:∀(x:A101) (h:Hp)(o:Out),(alt101 x h).out=some o→∃r,(rt101 x.a0).val=some r∧o=.ret (en101 r) h:=by
  intro x h o e
  unfold alt101 at e
  simp only [AT.out]at e
  obtain ⟨g,e⟩:=cond_some e
  unfold F101_ok at g
  obtain ⟨r,hF⟩:=Option.isSome_iff_exists.1 g
  have hv:F101 x.a0=(rt101 x.a0).val:=by delta F101;exact rfl
  refine ⟨r,hv.symm.trans hF,?_⟩
  simp only [Option.some.injEq]at e
  rw [← e]
  have k0:F101_0 x.a0=r.r0:=by
    show (match F101 x.a0 with | some r=>r.r0 | none=>false)=r.r0
    rw [hF]
  rw [k0]<;>rfl
theorem hd101:∀(t:Task) (x:A101)(h:Hp),dec101 t=some (x,h)→t=.call 101 ⟨[(.int .u8 x.a0)]⟩ h:=by
  intro t x h e
  unfold dec101 at e
  split at e
  case h_2=>cases e
  split at e
  case h_2=>cases e
  rename_i hg
  simp only [Option.some.injEq,Prod.mk.injEq]at e
  obtain ⟨rfl,rfl⟩:=e
  rw [Nat.eq_of_beq_eq_true hg]
theorem known101:Known Try.prog p101:=by
  exact Known.fn noNG mixed (Known.nothing Try.prog) (n:=60) (zs:=[0]) 101 (fun x:A101=>[(.int .u8 x.a0)]) (fun x=>rt101 x.a0) en101 (fun x=>T101  x.a0) (fun x=>rfl) dec101 alt101 hd101 ha101
structure R102 where
  r0:Bool
structure A102 where
  a0:Int
def rt102 (a0:Int):RT R102 :=
  .br (decide ((48:Int)≤a0)) (.leaf ⟨(decide (a0≤(57:Int)))⟩) (.leaf ⟨false⟩)
def en102 (r:R102):Value:=(.bool r.r0)
theorem T102  (a0:Int):evC Try.prog (Ans.c (fun _=>none:Ans)) 60 (.call 102 ⟨[(.int .u8 a0)]⟩ ⟨[],0,[]⟩) (frzK [0])=(rt102 a0).out (fun r=>.ret (en102 r) ⟨[],0,[]⟩):=by kernel_rfl
def F102 (a0:Int):Option R102:=(rt102 a0).val
section
variable (a0:Int)
def F102_ok:Bool:=(F102 a0).isSome
def F102_0:Bool:=match F102 a0 with | some r=>r.r0 | none=>false
end
def dec102:Task→Option (A102×Hp)
  | .call g ⟨[(.int .u8 a0)]⟩ h=>(match Nat.beq g 102 with | true=>some (⟨a0⟩,h) | false=>none)
  | _=>none
def alt102 (x:A102)(h:Hp):AT:=.br (F102_ok x.a0) (.leaf (.ret (.bool (F102_0 x.a0)) h)) .no
def p102:Ans:=fnAns dec102 alt102
theorem ha102:∀(x:A102) (h:Hp)(o:Out),(alt102 x h).out=some o→∃r,(rt102 x.a0).val=some r∧o=.ret (en102 r) h:=by
  intro x h o e
  unfold alt102 at e
  simp only [AT.out]at e
  obtain ⟨g,e⟩:=cond_some e
  unfold F102_ok at g
  obtain ⟨r,hF⟩:=Option.isSome_iff_exists.1 g
  have hv:F102 x.a0=(rt102 x.a0).val:=by delta F102;exact rfl
  refine ⟨r,hv.symm.trans hF,?_⟩
  simp only [Option.some.injEq]at e
  rw [← e]
  have k0:F102_0 x.a0=r.r0:=by
    show (match F102 x.a0 with | some r=>r.r0 | none=>false)=r.r0
    rw [hF]
  rw [k0]<;>rfl
theorem hd102:∀(t:Task) (x:A102)(h:Hp),dec102 t=some (x,h)→t=.call 102 ⟨[(.int .u8 x.a0)]⟩ h:=by
  intro t x h e
  unfold dec102 at e
  split at e
  case h_2=>cases e
  split at e
  case h_2=>cases e
  rename_i hg
  simp only [Option.some.injEq,Prod.mk.injEq]at e
  obtain ⟨rfl,rfl⟩:=e
  rw [Nat.eq_of_beq_eq_true hg]
theorem known102:Known Try.prog p102:=by
  exact Known.fn noNG mixed (Known.nothing Try.prog) (n:=60) (zs:=[0]) 102 (fun x:A102=>[(.int .u8 x.a0)]) (fun x=>rt102 x.a0) en102 (fun x=>T102  x.a0) (fun x=>rfl) dec102 alt102 hd102 ha102
structure X79_0 where
  v0:ByteArray
  v1:Int
inductive D79_0 where
  | k0 (d0:Bool)
  | k1
def Lp79_0:LoopOf X79_0 D79_0 where
  c:=(theLoop Try.prog 79 0)
  N:=40
  M:=0
  S:=[0,3]
  sl:=fun x=>[(.string x.v0),(.int .i64 x.v1)]
  hp:=fun x=>[]
  ex:=fun d=>match d with | .k0 ..=>.ret | .k1 ..=>.exit 0
  pick:=fun e=>match e with | .ret=>[2] | .exit 0=>[] | _=>[]
  dv:=fun d=>match d with | .k0 d0=>[(.bool d0)] | .k1 =>[]
  dh:=fun d=>match d with | .k0 d0=>[] | .k1 =>[]
theorem ok79_0:Lp79_0.Ok:=⟨fun x=>rfl,fun x=>rfl,fun x=>rfl,fun x=>rfl,fun d=>by cases d<;>rfl,fun d=>by cases d<;>rfl,fun d=>by cases d<;>rfl,fun d=>by cases d<;>(intro h;cases h),fun d=>by cases d<;>rfl,fun d=>by cases d<;>rfl⟩
def rd79_0 (x:X79_0):RT (Sum X79_0 D79_0):=match x with
  | ⟨v0,v1⟩ =>
     .br (decide (v1<(Int.ofNat (ByteArray.size v0)))) (.br (and (decide ((0:Int)≤v1)) (decide (v1<(Int.ofNat (ByteArray.size v0))))) (.br (F101_ok (getByte v0 (Int.toNat v1))) (.br (not (F101_0 (getByte v0 (Int.toNat v1)))) (.br (F102_ok (getByte v0 (Int.toNat v1))) (.br (not (F102_0 (getByte v0 (Int.toNat v1)))) (.br (not (decide ((getByte v0 (Int.toNat v1))=(45:Int)))) (.leaf (.inr (.k0 (false)))) (.leaf (.inl ⟨v0,(IntKind.wrap .i64 (v1+(1:Int)))⟩))) (.leaf (.inl ⟨v0,(IntKind.wrap .i64 (v1+(1:Int)))⟩))) (.no)) (.leaf (.inl ⟨v0,(IntKind.wrap .i64 (v1+(1:Int)))⟩))) (.no)) (.no)) (.leaf (.inr (.k1)))
theorem T79_0  (y:List Value) (v0:ByteArray) (v1:Int):evC Try.prog (Ans.c (p101.or p102)) 60 (.code none (theLoop Try.prog 79 0) ⟨sets (junkF 40 y) [(0,(.string v0)),(3,(.int .i64 v1))],[],⟨[],0,[]⟩⟩) (sumK 0 40 Lp79_0.pk)=(rd79_0 ⟨v0,v1⟩).out Lp79_0.enc:=by kernel_rfl
def L79_0 (x:X79_0):Option D79_0:=loopR rd79_0 x
section
variable (x:X79_0)
def L79_0_k0:Bool:=match L79_0 x with | some (.k0 ..)=>true | _=>false
def Qb0:Bool:=match L79_0 x with | some (.k0 d)=>d | _=>false
def L79_0_k1:Bool:=match L79_0 x with | some (.k1 ..)=>true | _=>false
end
def dec79_0:Task→Option (Code×X79_0)
  | .code none (.loop code) ⟨t,[],⟨[],0,[]⟩⟩ =>
    (match Nat.beq (firstReg code) 4,lenIs t 40,lget t 0,lget t 3 with
    | true,true,(.string v0),(.int .i64 v1)=>some (code,⟨v0,v1⟩)
    | _,_,_,_=>none)
  | _=>none
def alt79_0 (x:X79_0)(j:List Value):AT:=.br (L79_0_k0 x) (loopEnd 40 (.ret) [(2,(.bool (Qb0 x)))] ⟨[],0,[]⟩ j) (.br (L79_0_k1 x) (loopEnd 40 (.exit 0) [] ⟨[],0,[]⟩ j) (.no))
def la79_0 (J:Task→List Value):Ans:=loopAns Lp79_0.c dec79_0 alt79_0 J
theorem ha79_0:∀(x:X79_0) (j:List Value)(o:Out),(alt79_0 x j).out=some o→∃d,loopR rd79_0 x=some d∧o=Lp79_0.tail d j:=by
  intro x j o h
  unfold alt79_0 at h
  cases hL:L79_0 x with
  | none=>simp [L79_0_k0,Qb0,L79_0_k1,hL,AT.out]at h
  | some d =>
    refine ⟨d,hL,?_⟩
    cases d<;>(simp only [L79_0_k0,Qb0,L79_0_k1,hL,AT.out,loopEnd,cond_true,cond_false,Option.some.injEq]at h;rw [← h];rfl)
theorem hd79_0:∀(t:Task) (c:Code)(x:X79_0),dec79_0 t=some (c,x)→c=Lp79_0.c→∃T,t=.code none (.loop Lp79_0.c) ⟨T,[],⟨Lp79_0.hp x,0,[]⟩⟩∧T.length=Lp79_0.N∧∀kv∈Lp79_0.S.zip (Lp79_0.sl x),lget T kv.1=kv.2:=by
  intro t c x h hc
  unfold dec79_0 at h
  split at h
  case h_2=>cases h
  split at h
  case h_2=>cases h
  simp only [Option.some.injEq,Prod.mk.injEq]at h
  obtain ⟨rfl,rfl⟩:=h
  subst hc
  refine ⟨_,rfl,lenIs_eq _ _ (by assumption),?_⟩
  intro kv hk
  simp only [Lp79_0,List.zip_cons_cons,List.zip_nil_right,List.mem_cons,List.not_mem_nil,or_false]at hk
  rcases hk with rfl | rfl<;>assumption
theorem kl79_0:∃J,Known Try.prog (la79_0 J):=by
  exact LoopOf.known noNG mixed ok79_0 (by decide) (by decide) (Known.or known101 known102) (n:=60) (rd:=rd79_0) (fun x j=>T79_0  j x.v0 x.v1) dec79_0 alt79_0 hd79_0 ha79_0
structure R79 where
  r0:Bool
structure A79 where
  a0:ByteArray
def rt79 (a0:ByteArray):RT R79 :=
  .br (decide ((Int.ofNat (ByteArray.size a0))<(1:Int))) (.leaf ⟨false⟩) (.br (decide ((24:Int)<(Int.ofNat (ByteArray.size a0)))) (.leaf ⟨false⟩) (.br (and true (decide ((0:Int)<(Int.ofNat (ByteArray.size a0))))) (.br (F101_ok (getByte a0 0)) (.br (not (F101_0 (getByte a0 0))) (.leaf ⟨false⟩)
      (.sw (eqCode (Lp79_0.c) (Lp79_0.c)) true (by simp only [eqCode_self,arrEq_self]) (.br (L79_0_k0 (X79_0.mk a0 (1:Int))) (.leaf ⟨(Qb0 (X79_0.mk a0 (1:Int)))⟩) (.br (L79_0_k1 (X79_0.mk a0 (1:Int))) (.leaf ⟨true⟩) (.no))) (.no))) (.no)) (.no)))
def en79 (r:R79):Value:=(.bool r.r0)
theorem T79 (J0:Task→List Value)(a0:ByteArray):evC Try.prog (Ans.c (p101.or (p102.or (la79_0 J0)))) 60 (.call 79 ⟨[(.string a0)]⟩ ⟨[],0,[]⟩) (frzK [0])=(rt79 a0).out (fun r=>.ret (en79 r) ⟨[],0,[]⟩):=by kernel_rfl
def F79 (a0:ByteArray):Option R79:=(rt79 a0).val
section
variable (a0:ByteArray)
def F79_ok:Bool:=(F79 a0).isSome
def F79_0:Bool:=match F79 a0 with | some r=>r.r0 | none=>false
end
def dec79:Task→Option (A79×Hp)
  | .call g ⟨[(.string a0)]⟩ h=>(match Nat.beq g 79 with | true=>some (⟨a0⟩,h) | false=>none)
  | _=>none
def alt79 (x:A79)(h:Hp):AT:=.br (F79_ok x.a0) (.leaf (.ret (.bool (F79_0 x.a0)) h)) .no
def p79:Ans:=fnAns dec79 alt79
theorem ha79:∀(x:A79) (h:Hp)(o:Out),(alt79 x h).out=some o→∃r,(rt79 x.a0).val=some r∧o=.ret (en79 r) h:=by
  intro x h o e
  unfold alt79 at e
  simp only [AT.out]at e
  obtain ⟨g,e⟩:=cond_some e
  unfold F79_ok at g
  obtain ⟨r,hF⟩:=Option.isSome_iff_exists.1 g
  have hv:F79 x.a0=(rt79 x.a0).val:=by delta F79;exact rfl
  refine ⟨r,hv.symm.trans hF,?_⟩
  simp only [Option.some.injEq]at e
  rw [← e]
  have k0:F79_0 x.a0=r.r0:=by
    show (match F79 x.a0 with | some r=>r.r0 | none=>false)=r.r0
    rw [hF]
  rw [k0]<;>rfl
theorem hd79:∀(t:Task) (x:A79)(h:Hp),dec79 t=some (x,h)→t=.call 79 ⟨[(.string x.a0)]⟩ h:=by
  intro t x h e
  unfold dec79 at e
  split at e
  case h_2=>cases e
  split at e
  case h_2=>cases e
  rename_i hg
  simp only [Option.some.injEq,Prod.mk.injEq]at e
  obtain ⟨rfl,rfl⟩:=e
  rw [Nat.eq_of_beq_eq_true hg]
theorem known79:Known Try.prog p79:=by
  obtain ⟨J0,hJ0⟩:=kl79_0
  exact Known.fn noNG mixed (Known.or known101 (Known.or known102 hJ0)) (n:=60) (zs:=[0]) 79 (fun x:A79=>[(.string x.a0)]) (fun x=>rt79 x.a0) en79 (fun x=>T79 J0 x.a0) (fun x=>rfl) dec79 alt79 hd79 ha79
structure R82 where
  r0:Bool
structure A82 where
  a0:Int
  a1:Int
def rt82 (a0:Int)(a1:Int):RT R82 :=
  .br (decide ((1:Int)≤a0)) (.br (not (decide (a0=(0:Int)))) (.leaf ⟨(decide ((Int.tmod a1 a0)=(0:Int)))⟩) (.no)) (.leaf ⟨false⟩)
def en82 (r:R82):Value:=(.bool r.r0)
theorem T82  (a0:Int) (a1:Int):evC Try.prog (Ans.c (fun _=>none:Ans)) 60 (.call 82 ⟨[(.int .i64 a0),(.int .i64 a1)]⟩ ⟨[],0,[]⟩) (frzK [0])=(rt82 a0 a1).out (fun r=>.ret (en82 r) ⟨[],0,[]⟩):=by kernel_rfl
def F82 (a0:Int)(a1:Int):Option R82:=(rt82 a0 a1).val
section
variable (a0:Int) (a1:Int)
def F82_ok:Bool:=(F82 a0 a1).isSome
def F82_0:Bool:=match F82 a0 a1 with | some r=>r.r0 | none=>false
end
def dec82:Task→Option (A82×Hp)
  | .call g ⟨[(.int .i64 a0),(.int .i64 a1)]⟩ h=>(match Nat.beq g 82 with | true=>some (⟨a0,a1⟩,h) | false=>none)
  | _=>none
def alt82 (x:A82)(h:Hp):AT:=.br (F82_ok x.a0 x.a1) (.leaf (.ret (.bool (F82_0 x.a0 x.a1)) h)) .no
def p82:Ans:=fnAns dec82 alt82
theorem ha82:∀(x:A82) (h:Hp)(o:Out),(alt82 x h).out=some o→∃r,(rt82 x.a0 x.a1).val=some r∧o=.ret (en82 r) h:=by
  intro x h o e
  unfold alt82 at e
  simp only [AT.out]at e
  obtain ⟨g,e⟩:=cond_some e
  unfold F82_ok at g
  obtain ⟨r,hF⟩:=Option.isSome_iff_exists.1 g
  have hv:F82 x.a0 x.a1=(rt82 x.a0 x.a1).val:=by delta F82;exact rfl
  refine ⟨r,hv.symm.trans hF,?_⟩
  simp only [Option.some.injEq]at e
  rw [← e]
  have k0:F82_0 x.a0 x.a1=r.r0:=by
    show (match F82 x.a0 x.a1 with | some r=>r.r0 | none=>false)=r.r0
    rw [hF]
  rw [k0]<;>rfl
theorem hd82:∀(t:Task) (x:A82)(h:Hp),dec82 t=some (x,h)→t=.call 82 ⟨[(.int .i64 x.a0),(.int .i64 x.a1)]⟩ h:=by
  intro t x h e
  unfold dec82 at e
  split at e
  case h_2=>cases e
  split at e
  case h_2=>cases e
  rename_i hg
  simp only [Option.some.injEq,Prod.mk.injEq]at e
  obtain ⟨rfl,rfl⟩:=e
  rw [Nat.eq_of_beq_eq_true hg]
theorem known82:Known Try.prog p82:=by
  exact Known.fn noNG mixed (Known.nothing Try.prog) (n:=60) (zs:=[0]) 82 (fun x:A82=>[(.int .i64 x.a0),(.int .i64 x.a1)]) (fun x=>rt82 x.a0 x.a1) en82 (fun x=>T82  x.a0 x.a1) (fun x=>rfl) dec82 alt82 hd82 ha82
end
end Go.Proofs.Ytoojllndfjamgaa
namespace Go.Gi
open Go.RowKit
noncomputable section
def boxD (m:Nat):Ob→Bool
  | .dead=>true
  | ob=>boxB m ob
theorem boxD_live {m:Nat}{ob:Ob}(h:boxD m ob=true) (hl:ob.live=true):ob.rw=true∧obSc m ob=true:=by
  cases ob with
  | dead=>cases hl
  | _ =>
    simp only [boxD,boxB,Bool.and_eq_true]at h
    exact ⟨h.1.2,h.2⟩
section
variable {K:Nat→Prop}{w0 w:World} {φ ψ:Phi}{X H2:List Ob} {κ:Nat→Nat}
theorem Inv.view (hF:Inv K w0 φ X w)
    (hv:∀(i:Nat) (ob:Ob),H2[i]?=some ob→ob.live=true→∃ob',X[κ i]?=some ob'∧ob'.live=true∧(ob.rw=true→ob'.rw=true)∧ψ i=φ (κ i)∧∀B base tot,ObR φ w ob' B base tot→ObR ψ w ob B base tot)
    (hi:∀(i i':Nat) (ob ob':Ob),H2[i]?=some ob→H2[i']?=some ob'→ob.live=true→ob'.live=true→κ i=κ i'→i=i')
    (ht:∀i,H2.length≤i→ψ i=none) (hz:∀B o,ψ.z B=some o→w.heap[B]?=some o)
    (hs:∀(i:Nat) (ob:Ob) (x:Nat×Nat×Nat),H2[i]?=some ob→ob.rw=true→ψ i=some x→ψ.z x.1=none) (hk:∀k,K k→ψ.z k=none):Inv K w0 ψ H2 w:=by
  refine ⟨?_,?_,?_,hF.keep,hF.klt,hF.size,hF.os,hF.tape,hF.output,ht,hz,hs,hk⟩
  · intro i ob h1 h2
    obtain ⟨ob',k1,k2,_,k4,k5⟩:=hv i ob h1 h2
    obtain ⟨B,base,tot,q1,q2⟩:=hF.obs _ ob' k1 k2
    exact ⟨B,base,tot,k4.trans q1,k5 _ _ _ q2⟩
  · intro i i' ob ob' x y hne h1 h1' hrw hl hx hy
    obtain ⟨o1,k1,k2,k3,k4,_⟩:=hv i ob h1 (Ob.live_of_rw hrw)
    obtain ⟨o2,l1,l2,_,l4,_⟩:=hv i' ob' h1' hl
    exact hF.sep _ _ o1 o2 x y (fun he=>hne (hi i i' ob ob' h1 h1' (Ob.live_of_rw hrw) hl he)) k1 l1 (k3 hrw) l2 (k4 ▸ hx) (l4 ▸ hy)
  · intro i ob x h1 hrw hx
    obtain ⟨o1,k1,_,k3,k4,_⟩:=hv i ob h1 (Ob.live_of_rw hrw)
    exact hF.prot _ o1 x k1 (k3 hrw) (k4 ▸ hx)
theorem zF_frz (hF:Inv K w0 φ X w)(m:Nat):∀B o,zF φ X m w B=some o→w.heap[B]?=some o:=by
  intro B o hB
  unfold zF at hB
  split at hB
  · exact hB
  · exact hF.frz B o hB
theorem zF_sep (hF:Inv K w0 φ X w) {m b:Nat}{ob:Ob}{x:Nat×Nat×Nat}(h1:b<m) (h2:X[b]?=some ob) (hrw:ob.rw=true) (hx2:φ b=some x):zF φ X m w x.1=none:=by
  unfold zF
  rw [if_neg]
  · exact hF.zsep b ob x h2 hrw hx2
  · rintro ⟨b',ob',x',k1,k2,k3,k4,k5⟩
    exact hF.sep b b' ob ob' x x' (by omega) h2 k2 hrw (Ob.live_of_rw k3) hx2 k4 k5.symm
theorem VRs.picks {tm:Array Value}:∀(pk:List Nat) (vs:List Value) (T:List Value),VRs ψ T.toArray tm→VRl ψ vs (pk.map fun i=>tm.getD i undef)→vs.all (fun v=>notU v)=true→VRs ψ (sets T (pk.zip vs)).toArray tm:=by
  intro pk
  induction pk with
  | nil=>intro vs T h _ _;cases vs<;>exact h
  | cons i r ih =>
    intro vs T h hv hall
    cases hv with
    | cons h1' h2' =>
      rename_i v vs'
      simp only [List.all_cons,Bool.and_eq_true]at hall
      refine ih vs' _ ?_ h2' hall.2
      rcases Nat.lt_or_ge i tm.size with hi | hi
      · have e:tm=tm.setIfInBounds i (tm.getD i undef):=by
          apply Array.ext_getElem?
          intro q
          rw [Array.getElem?_setIfInBounds]
          split
          · rename_i hq
            subst hq
            first
            | (rw [Array.getElem?_eq_getElem hi];rfl)
            | (rw [if_pos hi,Array.getD_eq_getD_getElem?,Array.getElem?_eq_getElem hi];rfl)
          · rfl
        rw [lset_eq]
        have:=h.set h1' i
        rw [← e]at this
        exact this
      · have hT:T.length≤i:=by have:=h.size;simp at this;omega
        have e:lset T i v=T:=by rw [lset_set,List.set_eq_of_length_le hT]
        rw [e];exact h
theorem VRs.lo {LL:List Value}{N:Nat}{tm:Array Value}(hl:LL.length=N) (h:VRs φ LL.toArray tm):VRs ψ (junkF N (LL.map Go.Gi.lo)).toArray tm:=by
  rw [junkF_eq (by simpa using hl)]
  intro i
  have hVi:=h i
  rw [List.getElem?_toArray]at hVi ⊢
  rw [List.getElem?_map]
  generalize LL[i]?=q at hVi
  generalize tm[i]?=q' at hVi ⊢
  cases hVi with
  | none=>exact .none
  | some h=>exact .some (cl_vr h)
end
def obCells:Ob→Option (List Value)
  | .cells ⟨c⟩ false=>some c
  | .loop _ _ ⟨t⟩ _ _ _ _=>some t
  | _=>none
def obPut:Ob→List Value→Ob
  | .cells _ r,c=>.cells ⟨c⟩ r
  | .loop st pend _ ps asn bd d,c=>.loop st pend ⟨c⟩ ps asn bd d
  | ob,_=>ob
theorem obPut_cells {ob:Ob}{cq:List Value}(h:obCells ob=some cq) (c:List Value):obCells (obPut ob c)=some c:=by
  unfold obCells at h
  split at h
  · rfl
  · rfl
  · cases h
theorem obPut_live {ob:Ob}{cq:List Value}(h:obCells ob=some cq):ob.live=true∧ob.rw=true∧∀c,(obPut ob c).live=true∧(obPut ob c).rw=true:=by
  unfold obCells at h
  split at h
  · exact ⟨rfl,rfl,fun c=>⟨rfl,rfl⟩⟩
  · exact ⟨rfl,rfl,fun c=>⟨rfl,rfl⟩⟩
  · cases h
theorem obPut_same {o1 o2:Ob}{c1 c2 x1 x2:List Value}(h1:obCells o1=some c1) (h2:obCells o2=some c2) (h:obPut o1 x1=obPut o2 x2):x1=x2∧∀z,obPut o1 z=obPut o2 z:=by
  unfold obCells at h1 h2
  split at h1
  · split at h2
    · simp only [obPut,Ob.cells.injEq,Array.mk.injEq,and_true]at h
      exact ⟨h,fun z=>rfl⟩
    · simp [obPut]at h
    · cases h2
  · split at h2
    · simp [obPut]at h
    · simp only [obPut,Ob.loop.injEq,Array.mk.injEq]at h
      obtain ⟨a1,a2,a3,a4,a5,a6,a7⟩:=h
      refine ⟨a3,fun z=>?_⟩
      simp only [obPut,a1,a2,a4,a5,a6,a7]
    · cases h2
  · cases h1
theorem obPut_self {ob:Ob}{cq:List Value}(h:obCells ob=some cq):obPut ob cq=ob:=by
  unfold obCells at h
  split at h
  · simp only [Option.some.injEq]at h;subst h;rfl
  · simp only [Option.some.injEq]at h;subst h;rfl
  · cases h
section
variable {φ ψ:Phi}{w:World}{B base tot n:Nat}
theorem obR_put {ob:Ob}{cq c2:List Value}(h:obCells ob=some cq) (hl:c2.length=cq.length) (hc:∀(k:Nat) (u u2:Value),cq[k]?=some u→c2[k]?=some u2→∀v',VR φ u v'→VR ψ u2 v') (hle:le (cut φ n) ψ)
    (hs:∃z,obSc n (obPut ob z)=true) (hr:ObR φ w ob B base tot):ObR ψ w (obPut ob c2) B base tot:=by
  unfold obCells at h
  split at h
  · rename_i c
    simp only [Option.some.injEq]at h;subst h
    obtain ⟨C,el,fr,r1,r2,r3⟩:=hr
    refine ⟨C,el,fr,r1,fun k u hu=>?_,fun hh=>?_⟩
    · simp only [List.getElem?_toArray]at hu
      have hk:k<c.length:=by have:=lt_of_get hu;omega
      obtain ⟨v',r4,r5⟩:=r2 k c[k] (by rw [List.getElem?_toArray];exact List.getElem?_eq_getElem hk)
      exact ⟨v',r4,hc k _ u (List.getElem?_eq_getElem hk) hu v' r5⟩
    · have:=r3 hh
      simp only [List.size_toArray]at this ⊢
      rw [hl];exact this
  · rename_i st pend c ps asn bd d
    simp only [Option.some.injEq]at h;subst h
    obtain ⟨r0,fn,tm,D,r1,r2,td,r3⟩:=hr
    refine ⟨r0,fn,tm,D,r1,fun k=>?_,td,hle.fn _ _ ?_⟩
    · have hk:=r2 k
      rw [List.getElem?_toArray]at hk ⊢
      rcases Nat.lt_or_ge k c.length with h1 | h1
      · have e1:c[k]?=some c[k]:=List.getElem?_eq_getElem h1
        have e2:c2[k]?=some (c2[k]'(by omega)):=List.getElem?_eq_getElem (by omega)
        rw [e1]at hk
        rw [e2]
        generalize tm[k]?=y at hk
        cases hk with
        | some hv=>exact .some (hc k _ _ e1 e2 _ hv)
      · rw [List.getElem?_eq_none h1]at hk
        rw [List.getElem?_eq_none (by omega)]
        generalize tm[k]?=y at hk
        cases hk;exact .none
    · obtain ⟨z,hs⟩:=hs
      simp only [obPut,obSc,Bool.and_eq_true,decide_eq_true_eq]at hs
      exact (cut_lt hs.2).trans r3
  · cases h
end
theorem obCells_sc {ob:Ob}{cq:List Value}{n k:Nat} {u v':Value} {φ:Phi}(h:obCells ob=some cq) (hs:obSc n ob=true) (hu:cq[k]?=some u) (hv:VR φ u v'):VR (cut φ n) u v':=by
  unfold obCells at h
  split at h
  · simp only [Option.some.injEq]at h;subst h
    simp only [obSc,List.all_eq_true]at hs
    exact sc1_cut (hs u (List.mem_of_getElem? hu)) hv
  · simp only [Option.some.injEq]at h;subst h
    simp only [obSc,Bool.and_eq_true,List.all_eq_true]at hs
    exact scT_cut (hs.1 u (List.mem_of_getElem? hu)) hv
  · cases h
inductive Fgl:List Value→List Value→Prop
  | nil:Fgl [] []
  | same {v:Value} {l l':List Value} (h:Fgl l l'):Fgl (v::l) (v::l')
  | lo {v u:Value} {l l':List Value} (e:Go.Gi.lo v=u) (h:Fgl l l'):Fgl (v::l) (u::l')
theorem Fgl.get {φ:Phi} {l l':List Value}(h:Fgl l l'):∀{x:Array Value},VRs φ l.toArray x→VRs φ l'.toArray x:=by
  have key:∀{l l':List Value},Fgl l l'→∀i:Nat,OR (fun v u=>∀x,VR φ v x→VR φ u x) l[i]? l'[i]?:=by
    intro l l' h
    induction h with
    | nil=>intro i;simp;exact .none
    | same _ ih =>
      intro i
      cases i with
      | zero=>simp only [List.getElem?_cons_zero];exact .some fun x h=>h
      | succ i=>simpa using ih i
    | lo e _ ih =>
      intro i
      cases i with
      | zero=>simp only [List.getElem?_cons_zero];exact .some fun x h=>e ▸ cl_vr h
      | succ i=>simpa using ih i
  intro x hx i
  have h1:=key h i
  have h2:=hx i
  rw [List.getElem?_toArray]at h2 ⊢
  generalize l[i]?=a at h1 h2
  generalize l'[i]?=b at h1 ⊢
  generalize x[i]?=y at h2 ⊢
  cases h1 with
  | none=>cases h2;exact .none
  | some h3=>cases h2 with
    | some h4=>exact .some (h3 _ h4)
inductive Forgets:List Ob→List Ob→Prop
  | nil:Forgets [] []
  | same {o:Ob} {l l':List Ob} (h:Forgets l l'):Forgets (o::l) (o::l')
  | loop {st:LoopState} {pend:Option Code} {t t':List Value} {ps:Array Tmp} {asn bd:Code} {d:Nat} {l l':List Ob} (e:Fgl t t') (h:Forgets l l'):Forgets (.loop st pend ⟨t⟩ ps asn bd d::l) (.loop st pend ⟨t'⟩ ps asn bd d::l')
theorem Forgets.len {H' H:List Ob}(h:Forgets H' H):H'.length=H.length:=by
  induction h with
  | nil=>rfl
  | same _ ih=>simp [ih]
  | loop _ _ ih=>simp [ih]
theorem Forgets.refl:∀H:List Ob,Forgets H H
  | []=>.nil
  | _::r=>.same (Forgets.refl r)
theorem Forgets.get {H' H:List Ob}(h:Forgets H' H):∀(i:Nat) (ob:Ob),H[i]?=some ob→∃ob',H'[i]?=some ob'∧ob'.live=ob.live∧ob'.rw=ob.rw∧(ob.rw=false→ob'=ob)∧∀(φ:Phi) (w:World) (B base tot:Nat),ObR φ w ob' B base tot→ObR φ w ob B base tot:=by
  induction h with
  | nil=>intro i ob h;simp at h
  | same _ ih =>
    intro i ob hi
    cases i with
    | zero=>simp only [List.getElem?_cons_zero,Option.some.injEq]at hi;subst hi;exact ⟨_,rfl,rfl,rfl,fun _=>rfl,fun _ _ _ _ _ h=>h⟩
    | succ i=>exact ih i ob (by simpa using hi)
  | loop e _ ih =>
    intro i ob hi
    cases i with
    | zero =>
      simp only [List.getElem?_cons_zero,Option.some.injEq]at hi;subst hi
      refine ⟨_,rfl,rfl,rfl,fun h=>(by cases h),?_⟩
      rintro φ w B base tot ⟨r0,fn,tm,D,r1,r2,r3⟩
      exact ⟨r0,fn,tm,D,r1,e.get r2,r3⟩
    | succ i=>exact ih i ob (by simpa using hi)
theorem Forgets.inv {K:Nat→Prop}{w0 w:World} {φ:Phi} {H' H:List Ob}(h:Forgets H' H) (hI:Inv K w0 φ H' w):Inv K w0 φ H w:=by
  refine hI.view (κ:=id) (fun i ob hi hl=>?_) (fun i i' _ _ _ _ _ _ h=>h) (fun i hi=>hI.top i (by rw [h.len];exact hi)) hI.frz (fun i ob x hi hrw hx=>?_) hI.zk
  · obtain ⟨ob',h1,h2,h3,_,h4⟩:=h.get i ob hi
    exact ⟨ob',h1,h2.trans hl,fun h=>h3.trans h,rfl,fun B base tot hr=>h4 φ w B base tot hr⟩
  · obtain ⟨ob',h1,h2,h3,_,h4⟩:=h.get i ob hi
    exact hI.zsep i ob' x h1 (h3.trans hrw) hx
theorem Forgets.ro {H' H:List Ob}{b:Nat}{ob:Ob}(h:Forgets H' H) (hr:ob.rw=false) (hb:H[b]?=some ob):H'[b]?=some ob:=by
  obtain ⟨ob',h1,_,_,h4,_⟩:=h.get b ob hb
  rw [h1,h4 hr]
def gB:List Nat→List Ob→Bool
  | [],_=>true
  | b::r,H=>(match nthO H b with | some (.cells a false)=>allFz a | _=>false)&&gB r H
def gC (H:List Ob)(k:Option Out):List Nat→Option Out
  | []=>k
  | b::r=>match nthO H b with
    | some (.cells a false)=>cond (allFz a) (gC H k r) none
    | _=>none
theorem gC_ok {H:List Ob}{k:Option Out}{o:Out}:∀{Bs:List Nat},gC H k Bs=some o→gB Bs H=true∧k=some o
  | [],h=>⟨rfl,h⟩
  | b::r,h=>by
    unfold gC at h
    unfold gB
    split at h
    · rename_i a hb
      obtain ⟨h1,h2⟩:=cond_some h
      obtain ⟨h3,h4⟩:=gC_ok h2
      exact ⟨by rw [h1,h3];rfl,h4⟩
    · cases h
section
variable {X D:Type}
structure LoopS (X D:Type) where
  c:Code
  N:Nat
  M:Nat
  S:List Nat
  Bs:List Nat
  q:Option (Nat×Nat)
  sz:Nat
  z:Nat
  sl:X→List Value
  hp:X→Value→List Ob
  own:X→Option (Array Value×Nat)
  ex:D→Ex
  pick:Ex→List Nat
  dv:D→List Value
  dh:D→List Ob
def LoopS.ownB (L:LoopS X D)(x:X):List Ob:=match L.own x with
  | none=>[]
  | some (a,_)=>[.cells a false]
def LoopS.ownV (L:LoopS X D)(x:X):Value:=match L.own x with
  | none=>.slice none 0 0
  | some (_,l)=>.slice (some ⟨L.M,0,none⟩) l L.sz
def LoopS.H (L:LoopS X D)(x:X):List Ob:=L.hp x (L.ownV x)++L.ownB x
def LoopS.good (L:LoopS X D)(x:X):Prop:=gB L.Bs (L.hp x (L.ownV x))=true∧∀a l,L.own x=some (a,l)→allFz a=true
def LoopS.encS (L:LoopS X D):Sum X D→Out
  | .inl x=>.ex .normal ⟨L.sl x,[],⟨L.H x,L.N,[]⟩⟩
  | .inr d=>.ex (L.ex d) ⟨L.dv d,[],⟨L.dh d,L.N,[]⟩⟩
def LoopS.headS (L:LoopS X D)(x:X)(j:List Value):Task:=.code none L.c ⟨sets (junkF L.N j) (L.S.zip (L.sl x)),[],⟨L.H x,0,[]⟩⟩
def LoopS.tailS (L:LoopS X D)(x:X)(d:D)(j:List Value):Out:=.ex (L.ex d) ⟨sets (junkF L.N j) ((L.pick (L.ex d)).zip (L.dv d)),[],⟨L.dh d++List.replicate (L.ownB x).length .dead,0,[]⟩⟩
def kS (N M:Nat)(S:List Nat)(pick:Ex→List Nat)(Bs:List Nat)(z:Nat)(q:Option (Nat×Nat)):Kn
  | .ex e s=>match s.d,lenIs s.t N with
    | [],true=>(match e with
      | .normal=>(match q with
        | none=>gC (s.h.bl.take M) (some (.ex .normal ⟨S.map (lget s.t),[],⟨s.h.bl.take M,N,s.h.wr⟩⟩)) Bs
        | some (q,j)=>(match nthO s.h.bl q with
          | some ob=>(match obCells ob with
            | some cq=>(match lget cq j with
              | .slice none 0 0=>gC (s.h.bl.take M) (some (.ex .normal ⟨S.map (lget s.t),[],⟨s.h.bl.take M,N,s.h.wr⟩⟩)) Bs
              | .slice (some ⟨b,0,none⟩) l zz=>(match Nat.ble M b,nthO s.h.bl b with
                | true,some (.cells a false)=>cond (allFz a) (gC ((s.h.bl.take M).set q (obPut ob (lset cq j (.slice (some ⟨M,0,none⟩) l zz)))) (some (.ex .normal ⟨S.map (lget s.t),[],⟨(s.h.bl.take M).set q (obPut ob (lset cq j (.slice (some ⟨M,0,none⟩) l zz)))++[.cells a false],N,s.h.wr⟩⟩)) Bs) none
                | _,_=>none)
              | _=>none)
            | _=>none)
          | _=>none))
      | e=>(match q with
        | none=>gC (s.h.bl.take M) (some (.ex e ⟨(pick e).map (lget s.t),[],⟨s.h.bl.take M,N,s.h.wr⟩⟩)) Bs
        | some (q,j)=>(match nthO s.h.bl q with
          | some ob=>(match obCells ob with
            | some cq=>frzG M z s.h.bl [lget cq j] fun us=>frzG M z s.h.bl ((pick e).map (lget s.t)) fun vs =>
                gC ((s.h.bl.take M).set q (obPut ob (lset cq j (us.headD undef)))) (some (.ex e ⟨vs,[],⟨(s.h.bl.take M).set q (obPut ob (lset cq j (us.headD undef))),N,s.h.wr⟩⟩)) Bs
            | _=>none)
          | _=>none)))
    | _,_=>none
  | _=>none
structure LoopS.OkS (L:LoopS X D):Prop where
  s2:∀x,(L.sl x).all (fun v=>notU v&&scT L.M v)=true
  s1:∀x,(L.sl x).length=L.S.length
  h1:∀x v,(L.hp x v).length=L.M
  h2:∀x,gB L.Bs (L.hp x (.slice none 0 0))=true→(L.hp x (.slice none 0 0)).all (boxD L.M)=true
  h3:∀x v,match L.q with
    | none=>L.hp x v=L.hp x (.slice none 0 0)
    | some (q,j)=>∃(ob0:Ob) (cs:List Value),(L.hp x (.slice none 0 0))[q]?=some ob0∧obCells ob0=some cs∧j<cs.length∧L.hp x v=(L.hp x (.slice none 0 0)).set q (obPut ob0 (cs.set j v))
  h4:∀x v,gB L.Bs (L.hp x v)=gB L.Bs (L.hp x (.slice none 0 0))
  qM:∀q j,L.q=some (q,j)→q<L.M
  d1:∀d,(L.dv d).all (fun v=>notU v&&scT L.M v)=true
  d2:∀d,(L.dh d).length=L.M
  d3:∀d,gB L.Bs (L.dh d)=true→(L.dh d).all (boxD L.M)=true
  e1:∀d,L.ex d≠.normal
  e2:∀d,noPanic (L.ex d)=true
  e3:∀d,(L.pick (L.ex d)).length=(L.dv d).length
  nd:L.S.Nodup
  lt:∀k∈L.S,k<L.N
theorem LoopS.own_cases {L:LoopS X D}(x:X):(L.own x=none∧L.ownB x=[]∧L.ownV x=.slice none 0 0)∨∃a l,L.own x=some (a,l)∧L.ownB x=[.cells a false]∧L.ownV x=.slice (some ⟨L.M,0,none⟩) l L.sz:=by
  unfold LoopS.ownB LoopS.ownV
  cases h:L.own x with
  | none=>exact .inl ⟨rfl,rfl,rfl⟩
  | some al=>obtain ⟨a,l⟩:=al;exact .inr ⟨a,l,rfl,rfl,rfl⟩
theorem all_boxD {m:Nat}{H:List Ob}(h:H.all (boxD m)=true) {i:Nat}{ob:Ob}(hi:H[i]?=some ob):boxD m ob=true:=by
  rw [List.all_eq_true]at h
  exact h ob (List.mem_of_getElem? hi)
def turnP (φ:Phi)(M b:Nat)(o:Bool):Phi:=⟨fun i=>if i<M then φ i else if i=M∧o=true then φ b else none,φ.z⟩
theorem turn_le {φ:Phi}{M b:Nat}{o:Bool}:le (cut φ M) (turnP φ M b o):=by
  refine ⟨fun i y hi=>?_,fun B o hB=>hB⟩
  rcases Nat.lt_or_ge i M with h | h
  · rw [cut_lt h]at hi
    show (if i<M then φ i else _)=some y
    rw [if_pos h];exact hi
  · rw [cut_ge h]at hi;cases hi
theorem take_get {bl H1:List Ob}{M:Nat}(h:bl.take M=H1) {b:Nat}{ob:Ob}(hb:H1[b]?=some ob):b<M∧bl[b]?=some ob:=by
  rw [← h,List.getElem?_take]at hb
  split at hb
  · exact ⟨by assumption,hb⟩
  · cases hb
theorem LoopS.same {L:LoopS X D}(ok:L.OkS) {x:X}{bl:List Ob}(ho:L.own x=none) (e:bl.take L.M=L.H x) (hg:gB L.Bs (bl.take L.M)=true) :
    L.good x∧∀(K:Nat→Prop) (w0:World) (φ:Phi) (w:World),Inv K w0 φ bl w→Inv K w0 (turnP φ L.M 0 false) (L.H x) w:=by
  have hV:L.ownV x=.slice none 0 0:=by unfold LoopS.ownV;rw [ho]
  have hB:L.ownB x=[]:=by unfold LoopS.ownB;rw [ho]
  have hH:L.H x=L.hp x (.slice none 0 0):=by unfold LoopS.H;rw [hV,hB,List.append_nil]
  have hgb:gB L.Bs (L.hp x (.slice none 0 0))=true:=by rw [← hH,← e];exact hg
  have hbox:=ok.h2 x hgb
  refine ⟨⟨by rw [hV];exact hgb,fun a l h=>by rw [ho]at h;cases h⟩,fun K w0 φ w hF=>?_⟩
  rw [hH]at e ⊢
  refine hF.view (κ:=id) (fun i ob hi hl=>?_) (fun i i' _ _ _ _ _ _ h=>h) (fun i hi=>?_) hF.frz (fun i ob y hi hrw hy=>?_) hF.zk
  · obtain ⟨k1,k2⟩:=take_get e hi
    refine ⟨ob,k2,hl,fun h=>h,if_pos k1,fun B base tot hr=>?_⟩
    exact (obSc_cut (boxD_live (all_boxD hbox hi) hl).2 hr).keep turn_le rfl
  · rw [ok.h1]at hi
    show (if i<L.M then _ else if i=L.M∧false=true then _ else none)=none
    rw [if_neg (by omega),if_neg (by simp)]
  · obtain ⟨k1,k2⟩:=take_get e hi
    have hy':(if i<L.M then φ i else if i=L.M∧false=true then φ 0 else none)=some y:=hy
    rw [if_pos k1]at hy'
    exact hF.zsep i ob y k2 hrw hy'
theorem LoopS.turn {L:LoopS X D}(ok:L.OkS) {e:Ex}{LL:List Value}{bl:List Ob}{b1:Nat}{wr:List Nat}{x:X}
    (h:kS L.N L.M L.S L.pick L.Bs L.z L.q (.ex e ⟨LL,[],⟨bl,b1,wr⟩⟩)=some (L.encS (.inl x))) :
    e=.normal∧LL.length=L.N∧L.good x∧L.S.map (lget LL)=L.sl x∧∃b o,∀(K:Nat→Prop) (w0:World) (φ:Phi) (w:World),Inv K w0 φ bl w→Inv K w0 (turnP φ L.M b o) (L.H x) w:=by
  unfold kS at h
  simp only at h
  split at h
  case h_2=>cases h
  rename_i hlen
  have k4:=lenIs_eq _ _ hlen
  have nil:∀{k:Option Out},gC (bl.take L.M) (some (.ex .normal ⟨L.S.map (lget LL),[],⟨bl.take L.M,L.N,wr⟩⟩)) L.Bs=some (L.encS (.inl x)) →
      L.good x∧L.S.map (lget LL)=L.sl x∧∃b o,∀(K:Nat→Prop) (w0:World) (φ:Phi) (w:World),Inv K w0 φ bl w→Inv K w0 (turnP φ L.M b o) (L.H x) w:=by
    intro _ h
    obtain ⟨g1,g2⟩:=gC_ok h
    simp only [LoopS.encS,Option.some.injEq,Out.ex.injEq,St.mk.injEq,Hp.mk.injEq,true_and]at g2
    obtain ⟨q1,q2,_⟩:=g2
    have ho:L.own x=none:=by
      rcases LoopS.own_cases (L:=L) x with ⟨p1,_,_⟩ | ⟨a,l,p1,p2,_⟩
      · exact p1
      · have:=congrArg List.length q2
        unfold LoopS.H at this
        rw [List.length_append,ok.h1,p2,List.length_take]at this
        simp only [List.length_cons,List.length_nil]at this
        omega
    obtain ⟨s1,s2⟩:=LoopS.same ok ho q2 g1
    exact ⟨s1,q1,0,false,s2⟩
  split at h
  · split at h
    · exact ⟨rfl,k4,nil (k:=none) h⟩
    · rename_i q j hq
      split at h
      case h_2=>cases h
      rename_i obq hobq
      rw [nthO_eq]at hobq
      split at h
      case h_2=>cases h
      rename_i cq hcq
      split at h
      · exact ⟨rfl,k4,nil (k:=none) h⟩
      · rename_i b l zz hsl
        split at h
        case h_2=>cases h
        rename_i a hmb hX
        rw [nthO_eq]at hX
        have hMb:=Nat.le_of_ble_eq_true hmb
        obtain ⟨ha,h⟩:=cond_some h
        obtain ⟨g1,g2⟩:=gC_ok h
        simp only [LoopS.encS,Option.some.injEq,Out.ex.injEq,St.mk.injEq,Hp.mk.injEq,true_and]at g2
        obtain ⟨q1,q2,_⟩:=g2
        have hqM:=ok.qM q j hq
        have hblM:L.M≤bl.length:=by have:=lt_of_get hX;omega
        have hlen2:((bl.take L.M).set q (obPut obq (lset cq j (.slice (some ⟨L.M,0,none⟩) l zz)))).length=(L.hp x (L.ownV x)).length:=by
          rw [List.length_set,List.length_take,ok.h1];omega
        obtain ⟨q3,q4⟩:=List.append_inj (show _++_=L.hp x (L.ownV x)++L.ownB x from q2) hlen2
        rcases LoopS.own_cases (L:=L) x with ⟨p1,p2,p3⟩ | ⟨a2,l2,p1,p2,p3⟩
        · rw [p2]at q4;cases q4
        · rw [p2]at q4
          simp only [List.cons.injEq,Ob.cells.injEq,and_true]at q4
          subst q4
          have h3:=ok.h3 x (L.ownV x)
          rw [hq]at h3
          obtain ⟨ob0,cs,c1,c0,c2,c3⟩:=h3
          rw [c3]at q3
          have hqlt:q<(bl.take L.M).length:=by rw [List.length_take];omega
          have hqn:q<(L.hp x (.slice none 0 0)).length:=by rw [ok.h1];exact hqM
          have e0:=congrArg (fun z=>z[q]?) q3
          simp only [List.getElem?_set_self hqlt,List.getElem?_set_self hqn,Option.some.injEq]at e0
          obtain ⟨e1,e6⟩:=obPut_same hcq c0 e0
          have e2:∀i,i≠q→i<L.M→bl[i]?=(L.hp x (.slice none 0 0))[i]?:=by
            intro i hi him
            have:=congrArg (fun z=>z[i]?) q3
            simp only [List.getElem?_set_ne (Ne.symm hi)]at this
            rw [← this,List.getElem?_take,if_pos him]
          rw [lset_set]at e1
          have e3:cq.length=cs.length:=by
            have:=congrArg List.length e1
            simpa using this
          have e4:L.ownV x=.slice (some ⟨L.M,0,none⟩) l zz:=by
            have:=congrArg (fun z=>z[j]?) e1
            simp only [List.getElem?_set_self (show j<cq.length by omega),List.getElem?_set_self c2,Option.some.injEq]at this
            exact this.symm
          have e5:∀k,k≠j→cq[k]?=cs[k]?:=by
            intro k hk
            have:=congrArg (fun z=>z[k]?) e1
            simpa only [List.getElem?_set_ne (Ne.symm hk)] using this
          have hgb:gB L.Bs (L.hp x (L.ownV x))=true:=by rw [c3,← q3];exact g1
          have hgb0:gB L.Bs (L.hp x (.slice none 0 0))=true:=by rw [← ok.h4 x (L.ownV x)];exact hgb
          have hbox:=ok.h2 x hgb0
          refine ⟨rfl,k4,⟨hgb,fun a' l' h'=>by rw [p1]at h';simp only [Option.some.injEq,Prod.mk.injEq]at h';rw [← h'.1];exact ha⟩,q1,b,true,fun K w0 φ w hF=>?_⟩
          have hsl':cq[j]?=some (.slice (some ⟨b,0,none⟩) l zz):=getElem_of_lget hsl rfl
          have hHget:∀{i:Nat} {ob:Ob},(L.H x)[i]?=some ob→(i<L.M∧(L.hp x (L.ownV x))[i]?=some ob)∨(i=L.M∧ob=.cells a false):=by
            intro i ob hi
            unfold LoopS.H at hi
            rcases get_app hi with ⟨h1,h2⟩ | ⟨h1,h2⟩
            · exact .inl ⟨by rwa [ok.h1]at h1,h2⟩
            · rw [ok.h1]at h1 h2
              rw [p2,List.getElem?_singleton]at h2
              split at h2
              · simp only [Option.some.injEq]at h2
                exact .inr ⟨by omega,h2.symm⟩
              · cases h2
          have hlt:∀{i:Nat},i<L.M→turnP φ L.M b true i=φ i:=fun h=>if_pos h
          have hM:turnP φ L.M b true L.M=φ b:=by
            show (if L.M<L.M then _ else if L.M=L.M∧true=true then φ b else none)=φ b
            rw [if_neg (by omega),if_pos ⟨rfl,rfl⟩]
          have hback:∀{i:Nat} {ob:Ob},(L.H x)[i]?=some ob→ob.live=true→∃ob',bl[if i=L.M then b else i]?=some ob'∧ob'.live=true∧(ob.rw=true→ob'.rw=true)∧turnP φ L.M b true i=φ (if i=L.M then b else i)∧∀B base tot,ObR φ w ob' B base tot→ObR (turnP φ L.M b true) w ob B base tot:=by
            intro i ob hi hl
            rcases hHget hi with ⟨hiM,h2⟩ | ⟨rfl,rfl⟩
            · rw [if_neg (by omega),hlt hiM]
              rw [c3]at h2
              by_cases hiq:i=q
              · subst hiq
                rw [List.getElem?_set_self hqn,Option.some.injEq]at h2
                subst h2
                have hsc:=(boxD_live (all_boxD hbox c1) (obPut_live c0).1).2
                refine ⟨obq,hobq,(obPut_live hcq).1,fun _=>(obPut_live hcq).2.1,rfl,fun B base tot hr=>?_⟩
                rw [← e6]
                refine obR_put (n:=L.M) hcq (by rw [List.length_set,e3]) (fun k u u2 hu hu2 v' hv=>?_) turn_le ⟨cs,by rw [e6,obPut_self c0];exact hsc⟩ hr
                by_cases hkj:k=j
                · subst hkj
                  rw [List.getElem?_set_self c2,Option.some.injEq]at hu2
                  subst hu2
                  rw [hsl',Option.some.injEq]at hu
                  subst hu
                  rw [e4]
                  cases hv with
                  | sliceZ hp' a2 c2'=>exact .sliceZ (a:=⟨L.M,0,none⟩) (hM.trans hp') a2 _
                  | slice hp' hl' hc'=>exact .slice (hM.trans hp') hl' hc'
                · rw [List.getElem?_set_ne (Ne.symm hkj),← e5 k hkj,hu,Option.some.injEq]at hu2
                  subst hu2
                  exact (obCells_sc c0 hsc (by rw [← e5 k hkj];exact hu) hv).mono turn_le
              · rw [List.getElem?_set_ne (Ne.symm hiq)]at h2
                have h2':=h2
                rw [← e2 i hiq hiM]at h2'
                refine ⟨ob,h2',hl,fun h=>h,rfl,fun B base tot hr=>?_⟩
                exact (obSc_cut (boxD_live (all_boxD hbox h2) hl).2 hr).keep turn_le rfl
            · rw [if_pos rfl]
              refine ⟨_,hX,rfl,fun _=>rfl,hM,fun B base tot hr=>?_⟩
              refine (obSc_cut (own_sc ha L.M) hr).keep turn_le rfl
          refine hF.view (κ:=fun i=>if i=L.M then b else i) (fun i ob hi hl=>hback hi hl) (fun i i' ob ob' hi hi' hl hl' he=>?_) (fun i hi=>?_) hF.frz (fun i ob y hi hrw hy=>?_) hF.zk
          · have g1:i≤L.M:=by rcases hHget hi with ⟨h,_⟩ | ⟨h,_⟩<;>omega
            have g2:i'≤L.M:=by rcases hHget hi' with ⟨h,_⟩ | ⟨h,_⟩<;>omega
            split at he<;>split at he<;>omega
          · unfold LoopS.H at hi
            rw [List.length_append,ok.h1,p2]at hi
            simp only [List.length_cons,List.length_nil]at hi
            show (if i<L.M then _ else if i=L.M∧true=true then _ else none)=none
            rw [if_neg (by omega),if_neg (by omega)]
          · obtain ⟨ob',k1,k2,k3,k5,_⟩:=hback hi (Ob.live_of_rw hrw)
            rw [k5]at hy
            exact hF.zsep _ ob' y k1 (k3 hrw) hy
      · cases h
  · rename_i e' hne
    exfalso
    split at h
    · obtain ⟨_,g2⟩:=gC_ok h
      simp only [LoopS.encS,Option.some.injEq,Out.ex.injEq]at g2
      exact hne g2.1
    · split at h
      case h_2=>cases h
      split at h
      case h_2=>cases h
      obtain ⟨us,h1,_⟩:=frzG_all h
      obtain ⟨vs,h2,_⟩:=frzG_all h1
      obtain ⟨_,g2⟩:=gC_ok h2
      simp only [LoopS.encS,Option.some.injEq,Out.ex.injEq]at g2
      exact hne g2.1
def leaveP (φ φ0:Phi)(bl:List Ob)(M:Nat)(w:World):Phi:=⟨fun i=>if i<M then φ i else φ0 i,zF φ bl M w⟩
theorem LoopS.leave {L:LoopS X D}(ok:L.OkS) {e:Ex}{LL:List Value}{bl:List Ob}{b1:Nat}{wr:List Nat}{d:D}
    (h:kS L.N L.M L.S L.pick L.Bs L.z L.q (.ex e ⟨LL,[],⟨bl,b1,wr⟩⟩)=some (L.encS (.inr d))) :
    e=L.ex d∧LL.length=L.N∧gB L.Bs (L.dh d)=true∧∀(K:Nat→Prop) (w0:World) (φ φ0:Phi) (w:World) (tm:Array Value) (nb:Nat),Inv K w0 φ bl w→VRs φ LL.toArray tm→(∀i y,i<L.M→φ0 i=some y→φ i=some y)→(∀B o,φ0.z B=some o→φ.z B=some o)→(∀i,L.M+nb≤i→φ0 i=none) →
      ∃ψ,le φ0 ψ∧VRs ψ (sets (junkF L.N (LL.map lo)) ((L.pick (L.ex d)).zip (L.dv d))).toArray tm∧Inv K w0 ψ (L.dh d++List.replicate nb .dead) w:=by
  unfold kS at h
  simp only at h
  split at h
  case h_2=>cases h
  rename_i hlen
  have k4:=lenIs_eq _ _ hlen
  have hle0:∀{K:Nat→Prop} {w0:World} {φ φ0:Phi} {w:World},Inv K w0 φ bl w→(∀i y,i<L.M→φ0 i=some y→φ i=some y)→(∀B o,φ0.z B=some o→φ.z B=some o)→le φ0 (leaveP φ φ0 bl L.M w):=by
    intro K w0 φ φ0 w hF h1 h2
    refine ⟨fun i y hi=>?_,fun B o hB=>(zF_made hF L.M).le B o (h2 B o hB)⟩
    show (if i<L.M then φ i else φ0 i)=some y
    split
    · rename_i h;exact h1 i y h hi
    · exact hi
  have hcut:∀{K:Nat→Prop} {w0:World} {φ φ0:Phi} {w:World},Inv K w0 φ bl w→le (cut φ L.M) (leaveP φ φ0 bl L.M w):=by
    intro K w0 φ φ0 w hF
    refine ⟨fun i y hi=>?_,fun B o hB=>(zF_made hF L.M).le B o hB⟩
    rcases Nat.lt_or_ge i L.M with h | h
    · rw [cut_lt h]at hi
      show (if i<L.M then φ i else φ0 i)=some y
      rw [if_pos h];exact hi
    · rw [cut_ge h]at hi;cases hi
  have fin:∀{K:Nat→Prop} {w0:World} {φ φ0:Phi} {w:World} {nb:Nat},Inv K w0 φ bl w→(∀i,L.M+nb≤i→φ0 i=none)→gB L.Bs (L.dh d)=true →
      (∀(i:Nat) (ob:Ob),(L.dh d)[i]?=some ob→ob.live=true→i<L.M∧∃ob',bl[i]?=some ob'∧ob'.live=true∧(ob.rw=true→ob'.rw=true)∧(bl[i]?=some ob∨∀B base tot,ObR φ w ob' B base tot→ObR (leaveP φ φ0 bl L.M w) w ob B base tot)) →
      Inv K w0 (leaveP φ φ0 bl L.M w) (L.dh d++List.replicate nb .dead) w:=by
    intro K w0 φ φ0 w nb hF htop hg hv
    have hbox:=ok.d3 d hg
    have hget:∀{i:Nat} {ob:Ob},(L.dh d++List.replicate nb Ob.dead)[i]?=some ob→ob.live=true→(L.dh d)[i]?=some ob:=by
      intro i ob hi hl
      rcases get_app hi with ⟨_,h2⟩ | ⟨_,h2⟩
      · exact h2
      · rw [List.getElem?_replicate]at h2
        split at h2
        · simp only [Option.some.injEq]at h2;subst h2;cases hl
        · cases h2
    refine hF.view (κ:=id) (fun i ob hi hl=>?_) (fun i i' _ _ _ _ _ _ h=>h) (fun i hi=>?_) (zF_frz hF L.M) (fun i ob y hi hrw hy=>?_) (fun k hk=>zF_k hF L.M hk)
    · obtain ⟨hiM,ob',g1,g2,g3,g4⟩:=hv i ob (hget hi hl) hl
      refine ⟨ob',g1,g2,g3,if_pos hiM,fun B base tot hr=>?_⟩
      rcases g4 with g4 | g4
      · rw [g1,Option.some.injEq]at g4
        subst g4
        exact (obSc_cut (boxD_live (all_boxD hbox (hget hi hl)) hl).2 hr).keep (hcut hF) rfl
      · exact g4 B base tot hr
    · rw [List.length_append,ok.d2,List.length_replicate]at hi
      show (if i<L.M then φ i else φ0 i)=none
      rw [if_neg (by omega)]
      exact htop i hi
    · have hl:=Ob.live_of_rw hrw
      obtain ⟨hiM,ob',g1,g2,g3,_⟩:=hv i ob (hget hi hl) hl
      have hy':(if i<L.M then φ i else φ0 i)=some y:=hy
      rw [if_pos hiM]at hy'
      exact zF_sep hF hiM g1 (g3 hrw) hy'
  split at h
  · exfalso
    have no:∀{T:List Value} {H:List Ob} {wr:List Nat},¬(some (Out.ex .normal ⟨T,[],⟨H,L.N,wr⟩⟩)=some (L.encS (.inr d))):=by
      intro T H wr hh
      simp only [LoopS.encS,Option.some.injEq,Out.ex.injEq]at hh
      exact ok.e1 d hh.1.symm
    split at h
    · exact no (gC_ok h).2
    · split at h
      case h_2=>cases h
      split at h
      case h_2=>cases h
      split at h
      · exact no (gC_ok h).2
      · split at h
        case h_2=>cases h
        obtain ⟨_,h⟩:=cond_some h
        exact no (gC_ok h).2
      · cases h
  · rename_i e' hne
    split at h
    · obtain ⟨g1,g2⟩:=gC_ok h
      simp only [LoopS.encS,Option.some.injEq,Out.ex.injEq,St.mk.injEq,Hp.mk.injEq,true_and]at g2
      obtain ⟨rfl,q1,q2,_⟩:=g2
      refine ⟨rfl,k4,by rw [← q2];exact g1,fun K w0 φ φ0 w tm nb hF hV ha hz ht=>⟨leaveP φ φ0 bl L.M w,hle0 hF ha hz,?_,?_⟩⟩
      · have hs:SlotRs L.M LL (sets (junkF L.N (LL.map lo)) ((L.pick (L.ex d)).zip (L.dv d))):=by
          refine slotRs_known k4 fun kv hkv=>?_
          have hm:=ok.d1 d
          rw [List.all_eq_true]at hm
          have hm1:=hm _ (List.of_mem_zip hkv).2
          rw [Bool.and_eq_true]at hm1
          rw [← q1]at hkv
          have h5:=zip_get (show (kv.1,kv.2)∈(L.pick (L.ex d)).zip ((L.pick (L.ex d)).map (lget LL)) from hkv)
          exact ⟨getElem_of_lget h5.symm hm1.1,hm1.2⟩
        exact (hs.vrs hV).mono (hcut hF)
      · refine fin hF ht (by rw [← q2];exact g1) fun i ob hi hl=>?_
        obtain ⟨k1,k2⟩:=take_get q2 hi
        exact ⟨k1,ob,k2,hl,fun h=>h,.inl k2⟩
    · rename_i q j hq
      split at h
      case h_2=>cases h
      rename_i obq hobq
      rw [nthO_eq]at hobq
      split at h
      case h_2=>cases h
      rename_i cq hcq
      obtain ⟨us,h1,u1,u2⟩:=frzG_all h
      obtain ⟨vs,h2,v1,v2⟩:=frzG_all h1
      obtain ⟨g1,g2⟩:=gC_ok h2
      simp only [LoopS.encS,Option.some.injEq,Out.ex.injEq,St.mk.injEq,Hp.mk.injEq,true_and]at g2
      obtain ⟨rfl,q1,q2,_⟩:=g2
      have hqM:=ok.qM q j hq
      have hqb:q<(bl.take L.M).length:=by rw [List.length_take];have:=lt_of_get hobq;omega
      refine ⟨rfl,k4,by rw [← q2];exact g1,fun K w0 φ φ0 w tm nb hF hV ha hz ht=>⟨leaveP φ φ0 bl L.M w,hle0 hF ha hz,?_,?_⟩⟩
      · have hpick:VRl φ ((L.pick (L.ex d)).map (lget LL)) ((L.pick (L.ex d)).map (fun i=>tm.getD i undef)):=by
          generalize L.pick (L.ex d)=pk
          induction pk with
          | nil=>exact .nil
          | cons i r ih =>
            refine .cons ?_ ih
            have:=hV.getD i
            rw [← lget_eq]at this
            exact this
        obtain ⟨u,hu,hu2⟩:=frzG_ok (ψ:=leaveP φ φ0 bl L.M w) (zF_made hF L.M) (hcut hF) h1 hpick
        obtain ⟨_,g3⟩:=gC_ok hu2
        simp only [LoopS.encS,Option.some.injEq,Out.ex.injEq,St.mk.injEq,Hp.mk.injEq,true_and]at g3
        obtain ⟨rfl,_,_⟩:=g3
        refine VRs.picks _ _ _ (VRs.lo k4 hV) hu ?_
        have hm:=ok.d1 d
        rw [List.all_eq_true]at hm ⊢
        intro v hv
        have:=hm v hv
        rw [Bool.and_eq_true]at this
        exact this.1
      · refine fin hF ht (by rw [← q2];exact g1) fun i ob hi hl=>?_
        rw [← q2]at hi
        by_cases hiq:i=q
        · subst hiq
          rw [List.getElem?_set_self hqb,Option.some.injEq]at hi
          subst hi
          refine ⟨hqM,obq,hobq,(obPut_live hcq).1,fun _=>(obPut_live hcq).2.1,.inr fun B base tot hr=>?_⟩
          have hgd:gB L.Bs (L.dh d)=true:=by rw [← q2];exact g1
          have hget:(L.dh d)[i]?=some (obPut obq (lset cq j (us.headD undef))):=by rw [← q2,List.getElem?_set_self hqb]
          have hsc:=(boxD_live (all_boxD (ok.d3 d hgd) hget) ((obPut_live hcq).2.2 _).1).2
          have hput:=obPut_cells hcq (lset cq j (us.headD undef))
          refine obR_put (n:=L.M) hcq (by rw [lset_set,List.length_set]) (fun k u u2 hu hu2 v' hv=>?_) (hcut hF) ⟨_,hsc⟩ hr
          by_cases hkj:k=j
          · subst hkj
            have hlg:lget cq k=u:=by
              rw [lget_eq,Array.getD_eq_getD_getElem?,List.getElem?_toArray,hu];rfl
            obtain ⟨w1,hw,hw2⟩:=frzG_ok (ψ:=leaveP φ φ0 bl L.M w) (zF_made hF L.M) (hcut hF) h (show VRl φ [lget cq k] [v'] by rw [hlg];exact .cons hv .nil)
            obtain ⟨vs',h2',_,_⟩:=frzG_all hw2
            obtain ⟨_,g3⟩:=gC_ok h2'
            simp only [LoopS.encS,Option.some.injEq,Out.ex.injEq,St.mk.injEq,Hp.mk.injEq,true_and]at g3
            obtain ⟨_,g4,_⟩:=g3
            have e1:=congrArg (fun z=>z[i]?) (g4.trans q2.symm)
            simp only [List.getElem?_set_self hqb,Option.some.injEq]at e1
            obtain ⟨e1,_⟩:=obPut_same hcq hcq e1
            have e2:=congrArg (fun z=>z[k]?) e1
            have hkl:k<cq.length:=lt_of_get hu
            simp only [lset_set,List.getElem?_set_self hkl,Option.some.injEq]at e2
            rw [lset_set,List.getElem?_set_self hkl,Option.some.injEq]at hu2
            subst hu2
            rw [← e2]
            cases hw with
            | cons hw3 hw4=>cases hw4;exact hw3
          · rw [lset_set,List.getElem?_set_ne (Ne.symm hkj),hu,Option.some.injEq]at hu2
            subst hu2
            exact (obCells_sc hput hsc (by rw [lset_set,List.getElem?_set_ne (Ne.symm hkj)];exact hu) hv).mono (hcut hF)
        · rw [List.getElem?_set_ne (Ne.symm hiq)]at hi
          obtain ⟨k1,k2⟩:=take_get rfl hi
          exact ⟨k1,ob,k2,hl,fun h=>h,.inl k2⟩
section
variable {P:Program}(hN:NoNG P) (hm:P.follows .mixedOrders=true)
include hN hm
omit hN hm in
theorem told_slots {M N:Nat}{S:List Nat}{vs t:List Value}(ht:t.length=N) (hv:vs.all (fun v=>notU v&&scT M v)=true) (hS:∀kv∈S.zip vs,lget t kv.1=kv.2):SlotRs M t (sets (junkF N (t.map lo)) (S.zip vs)):=by
  refine slotRs_known ht fun kv hkv=>?_
  rw [List.all_eq_true]at hv
  have:=hv _ (List.of_mem_zip hkv).2
  rw [Bool.and_eq_true]at this
  exact ⟨getElem_of_lget (hS kv hkv) this.1,this.2⟩
theorem LoopS.sem {L:LoopS X D}(ok:L.OkS) {a:Ans}(hk:Known P a) {n:Nat}{rd:X→RT (Sum X D)}
    (hr:∀x j,L.good x→evC P a.c n (L.headS x j) (kS L.N L.M L.S L.pick L.Bs L.z L.q)=(rd x).out L.encS):∀{m:Nat} {x:X} {d:D},loopV rd m x=some d→L.good x →
    ∀{t:List Value},t.length=L.N→(∀kv∈L.S.zip (L.sl x),lget t kv.1=kv.2)→∃j,gB L.Bs (L.dh d)=true∧∀(K:Nat→Prop) (w0:World) (φ φ0:Phi) (w:World) (ac:Act) (F:Fence) (n:Nat) (nb:Nat),
      Inv K w0 φ (L.H x) w→VRs φ t.toArray ac.tmps→DRs φ [] ac.defers→FenceOk φ none F→(∀i y,i<L.M→φ0 i=some y→φ i=some y)→(∀B o,φ0.z B=some o→φ.z B=some o)→(∀i,L.M+nb≤i→φ0 i=none) →
      wpLoopIn F n P L.c (CodeR K w0 φ0 (L.ex d) ⟨sets (junkF L.N j) ((L.pick (L.ex d)).zip (L.dv d)),[],⟨L.dh d++List.replicate nb .dead,0,[]⟩⟩) ac w
  | 0,_,_,h,_,_,_,_=>by cases h
  | m+1,x,d,h,hx,t,ht,hS=>by
    have hev:∀{y:Sum X D},(rd x).val=some y→∃e LL bl b1 wr,Fact P (.code none L.c ⟨sets (junkF L.N (t.map lo)) (L.S.zip (L.sl x)),[],⟨L.H x,0,[]⟩⟩) (.ex e ⟨LL,[],⟨bl,b1,wr⟩⟩)∧kS L.N L.M L.S L.pick L.Bs L.z L.q (.ex e ⟨LL,[],⟨bl,b1,wr⟩⟩)=some (L.encS y):=by
      intro y hy
      have h1:=hr x (t.map lo) hx
      rw [RT.out_val,hy,Option.map_some]at h1
      obtain ⟨o,h2,hf⟩:=hk.factK hN hm h1
      have h3:=h2
      unfold kS at h3
      split at h3
      case h_2=>cases h3
      rename_i e s
      split at h3
      case h_2=>cases h3
      rename_i hd _
      obtain ⟨LL,d0,⟨bl,b1,wr1⟩⟩:=s
      simp only at hd
      subst hd
      exact ⟨e,LL,bl,b1,wr1,hf,h2⟩
    have hsl:=told_slots ht (ok.s2 x) hS
    have dnil:∀{φ ψ:Phi} {l:List Deferred},DRs φ [] l→DRs ψ [] l:=fun h=>by cases h;exact .nil
    unfold loopV at h
    split at h
    · rename_i y hy
      obtain ⟨e,LL,bl,b1,wr,hf,hks⟩:=hev hy
      obtain ⟨rfl,k4,hgy,hsy,b,o,hturn⟩:=LoopS.turn ok hks
      have hTl:(sets (junkF L.N (LL.map lo)) (L.S.zip (L.sl y))).length=L.N:=len_sets _
      have hTs:SlotRs L.M LL (sets (junkF L.N (LL.map lo)) (L.S.zip (L.sl y))):=told_slots k4 (ok.s2 y) fun kv hkv=>by
        rw [← hsy]at hkv
        exact (zip_get (show (kv.1,kv.2)∈L.S.zip (L.S.map (lget LL)) from hkv)).symm
      obtain ⟨j,hgd,hj⟩:=LoopS.sem ok hk hr h hgy hTl (lget_setsL ok.nd ok.lt (ok.s1 y) _)
      refine ⟨j,hgd,fun K w0 φ φ0 w ac F n nb hI hV hD hF ha hz htop=>?_⟩
      obtain ⟨_,hh⟩:=hf.1 (Nat.zero_le _)
      refine rounds_of (wpIn_mono (hh K w0 φ w ac F n hI ((hsl.vrs hV).mono (cut_le φ _)) hD hF) ?_)
      rintro x' a' w' ⟨φ',hle,hx',ht',hd',hI'⟩
      cases hx'
      show wpLoopIn F n P L.c _ a' w'
      refine hj K w0 (turnP φ' L.M b o) φ0 w' a' F n nb (hturn K w0 φ' w' hI') ((hTs.vrs ht').mono turn_le) (dnil hd') hF (fun i y hi h0=>?_) (fun B o h0=>hle.zz B o (hz B o h0)) htop
      show (if i<L.M then φ' i else _)=some y
      rw [if_pos hi]
      exact hle _ _ (ha i y hi h0)
    · rename_i d' hd
      simp only [Option.some.injEq]at h
      subst h
      obtain ⟨e,LL,bl,b1,wr,hf,hks⟩:=hev hd
      obtain ⟨rfl,k4,hgd,hleave⟩:=LoopS.leave ok hks
      refine ⟨LL.map lo,hgd,fun K w0 φ φ0 w ac F n nb hI hV hD hF ha hz htop=>?_⟩
      obtain ⟨_,hh⟩:=hf.1 (Nat.zero_le _)
      refine rounds_of (wpIn_mono (hh K w0 φ w ac F n hI ((hsl.vrs hV).mono (cut_le φ _)) hD hF) ?_)
      rintro x' a' w' ⟨φ',hle,hx',ht',hd',hI'⟩
      obtain ⟨ψ,p1,p2,p3⟩:=hleave K w0 φ' φ0 w' a'.tmps nb hI' ht' (fun i y hi h0=>hle _ _ (ha i y hi h0)) (fun B o h0=>hle.zz B o (hz B o h0)) htop
      have hc:CodeR K w0 φ0 (L.ex d') ⟨sets (junkF L.N (LL.map lo)) ((L.pick (L.ex d')).zip (L.dv d')),[],⟨L.dh d'++List.replicate nb .dead,0,[]⟩⟩ x' a' w':=⟨ψ,p1,hx'.any (ok.e2 d'),p2,dnil hd',p3⟩
      have hne:=ok.e1 d'
      revert hc
      generalize CodeR K w0 φ0 (L.ex d') ⟨sets (junkF L.N (LL.map lo)) ((L.pick (L.ex d')).zip (L.dv d')),[],⟨L.dh d'++List.replicate nb .dead,0,[]⟩⟩=Q
      intro hc
      generalize L.ex d'=q at hx' hne
      cases hx' with
      | normal=>exact absurd rfl hne
      | _=>exact hc
    · cases h
theorem LoopS.fact {L:LoopS X D}(ok:L.OkS) {a:Ans}(hk:Known P a) {n:Nat}{rd:X→RT (Sum X D)}
    (hr:∀x j,L.good x→evC P a.c n (L.headS x j) (kS L.N L.M L.S L.pick L.Bs L.z L.q)=(rd x).out L.encS) {m:Nat} {x:X} {d:D} (h:loopV rd m x=some d) (hx:L.good x)
    {t:List Value} (ht:t.length=L.N) (hS:∀kv∈L.S.zip (L.sl x),lget t kv.1=kv.2):∃j,Fact P (.code none (.loop L.c) ⟨t,[],⟨L.H x,0,[]⟩⟩) (L.tailS x d j):=by
  obtain ⟨j,hg,hj⟩:=LoopS.sem hN hm ok hk hr h hx ht hS
  have hlen:(L.H x).length=L.M+(L.ownB x).length:=by unfold LoopS.H;rw [List.length_append,ok.h1]
  have key:∀(K:Nat→Prop) (w0:World) (φ:Phi) (w:World) (ac:Act) (F:Fence) (n:Nat),Inv K w0 φ (L.H x) w→VRs φ t.toArray ac.tmps→DRs φ [] ac.defers→FenceOk φ none F →
      wpLoopIn F n P L.c (CodeR K w0 φ (L.ex d) ⟨sets (junkF L.N j) ((L.pick (L.ex d)).zip (L.dv d)),[],⟨L.dh d++List.replicate (L.ownB x).length .dead,0,[]⟩⟩) ac w:=fun K w0 φ w ac F n hI ht hd hF =>
    hj K w0 φ φ w ac F n (L.ownB x).length hI ht hd hF (fun _ _ _ h=>h) (fun _ _ h=>h) fun i hi=>hI.top i (by rw [hlen];exact hi)
  refine ⟨j,fun _=>⟨⟨rfl,?_,fun b hb _=>absurd hb (Nat.not_lt_zero _),fun b ob hb hl hrw=>?_⟩,fun K w0 φ w ac F n hI ht hd hF=>wpIn_of_rounds (key K w0 φ w ac F n hI ht hd hF)⟩,fun _ K w0 φ w ac F n hI ht hd hF=>key K w0 φ w ac F n hI ht hd hF⟩
  · show (L.H x).length≤(L.dh d++List.replicate (L.ownB x).length Ob.dead).length
    rw [hlen,List.length_append,ok.d2,List.length_replicate]
    exact Nat.le_refl _
  · exfalso
    rcases get_app hb with ⟨_,h2⟩ | ⟨_,h2⟩
    · rw [(boxD_live (all_boxD (ok.d3 d hg) h2) hl).1]at hrw;cases hrw
    · rw [List.getElem?_replicate]at h2
      split at h2
      · simp only [Option.some.injEq]at h2;subst h2;cases hl
      · cases h2
omit hN hm in
theorem Fact.tells {c:Code}{t:List Value} {H H':List Ob}{o:Out}(hf:Fact P (.code none (.loop c) ⟨t,[],⟨H,0,[]⟩⟩) o) (hg:Forgets H' H):Fact P (.code none (.loop c) ⟨t,[],⟨H',0,[]⟩⟩) o:=by
  cases o with
  | ex e s =>
    obtain ⟨h1,h2⟩:=hf
    refine ⟨fun hb=>?_,fun hb K w0 φ w a F n hI ht hd hF=>h2 (Nat.zero_le _) K w0 φ w a F n (hg.inv hI) ht hd hF⟩
    obtain ⟨hp,hh⟩:=h1 (Nat.zero_le _)
    refine ⟨⟨hp.base,?_,fun b hb=>absurd hb (Nat.not_lt_zero _),fun b ob hx hl hr=>?_⟩,fun K w0 φ w a F n hI ht hd hF=>hh K w0 φ w a F n (hg.inv hI) ht hd hF⟩
    · have h3:=hp.len
      have h4:=hg.len
      show H'.length≤_
      rw [h4];exact h3
    · exact hg.ro hr (hp.ro b ob hx hl hr)
  | _=>exact absurd hf.1 (by intro h;exact h)
omit hN hm in
theorem Fact.rebase {c:Code}{t T:List Value}{H H1:List Ob}{e:Ex}{b:Nat}{w:List Nat}(hf:Fact P (.code none (.loop c) ⟨t,[],⟨H,0,[]⟩⟩) (.ex e ⟨T,[],⟨H1,0,[]⟩⟩)) :
    Fact P (.code none (.loop c) ⟨t,[],⟨H,b,w⟩⟩) (.ex e ⟨T,[],⟨H1,b,List.range H.length++w⟩⟩):=by
  obtain ⟨h1,h2⟩:=hf
  obtain ⟨hp,hh⟩:=h1 (Nat.zero_le _)
  refine ⟨fun hb=>⟨⟨rfl,hp.len,fun k hk hn=>?_,hp.ro⟩,hh⟩,fun hb=>h2 (Nat.zero_le _)⟩
  exact absurd (List.mem_append_left w (List.mem_range.2 (Nat.lt_of_lt_of_le hk hb))) hn
def LoopS.tailB (L:LoopS X D)(x:X)(d:D)(j:List Value)(b:Nat)(w:List Nat):Out:=.ex (L.ex d) ⟨sets (junkF L.N j) ((L.pick (L.ex d)).zip (L.dv d)),[],⟨L.dh d++List.replicate (L.ownB x).length .dead,b,List.range (L.M+(L.ownB x).length)++w⟩⟩
theorem LoopS.knownB {L:LoopS X D}(ok:L.OkS) {a:Ans}(hk:Known P a) {n:Nat}{rd:X→RT (Sum X D)}
    (hr:∀x j,L.good x→evC P a.c n (L.headS x j) (kS L.N L.M L.S L.pick L.Bs L.z L.q)=(rd x).out L.encS) {c0:Code} (bs:X→Nat) (ws:X→List Nat) (dec:Task→Option (Code×X)) (alt:X→List Value→AT)
    (hd:∀t c x,dec t=some (c,x)→c=c0→∃T H',t=.code none (.loop L.c) ⟨T,[],⟨H',bs x,ws x⟩⟩∧Forgets H' (L.H x)∧T.length=L.N∧∀kv∈L.S.zip (L.sl x),lget T kv.1=kv.2)
    (ha:∀x j o,(alt x j).out=some o→L.good x∧∃d,loopR rd x=some d∧o=L.tailB x d j (bs x) (ws x)) :
    ∃J:Task→List Value,Known P (loopAns c0 dec alt J):=by
  classical
  let good:Task→List Value→Prop:=fun t j=>∀c x d,dec t=some (c,x)→c=c0→L.good x→loopR rd x=some d→Fact P t (L.tailB x d j (bs x) (ws x))
  have hex:∀t,∃j,good t j:=by
    intro t
    cases hdt:dec t with
    | none=>exact ⟨[],fun c x d h=>by rw [hdt]at h;cases h⟩
    | some cx =>
      obtain ⟨c,x⟩:=cx
      by_cases hc:c=c0
      · by_cases hx:L.good x
        · cases hl:loopR rd x with
          | none=>exact ⟨[],fun c' x' d h _ _ hr=>by rw [hdt]at h;cases h;rw [hl]at hr;cases hr⟩
          | some d =>
            obtain ⟨T,H',rfl,hg,hT,hS⟩:=hd t c x hdt hc
            obtain ⟨m,hm'⟩:=loopR_some hl
            obtain ⟨j,hj⟩:=LoopS.fact hN hm ok hk hr hm' hx hT hS
            refine ⟨j,fun c' x' d' h _ _ hr=>?_⟩
            rw [hdt]at h;cases h;rw [hl]at hr;cases hr
            have:=Fact.rebase (b:=bs x) (w:=ws x) (hj.tells hg)
            have hlen:H'.length=L.M+(L.ownB x).length:=by rw [hg.len];unfold LoopS.H;rw [List.length_append,ok.h1]
            rw [hlen]at this
            exact this
        · exact ⟨[],fun c' x' d h _ h' _=>by rw [hdt]at h;cases h;exact absurd h' hx⟩
      · exact ⟨[],fun c' x' d h h' _ _=>by rw [hdt]at h;cases h;exact absurd h' hc⟩
  refine ⟨fun t=>Classical.choose (hex t),?_⟩
  intro t at' o ht ho
  cases hdt:dec t with
  | none=>simp only [loopAns,hdt]at ht;cases ht
  | some cx =>
    obtain ⟨c,x⟩:=cx
    simp only [loopAns,hdt,Option.some.injEq]at ht
    subst ht
    simp only [AT.out]at ho
    obtain ⟨h1,h2⟩:=cond_some ho
    obtain ⟨hx,d,h3,rfl⟩:=ha x _ o h2
    exact Classical.choose_spec (hex t) c x d hdt (eqCode_eq h1) hx h3
end
end
def dI (q:IntKind)(v:Value):Option Int:=match v with
  | .int q' n=>(match decide (q'=q) with | true=>some n | false=>none)
  | _=>none
theorem dI_eq {q:IntKind}{v:Value}{n:Int}(h:dI q v=some n):v=.int q n:=by
  unfold dI at h
  split at h
  · split at h
    · rename_i hq
      simp only [Option.some.injEq]at h
      rw [h,of_decide_eq_true hq]
    · cases h
  · cases h
def dSt (v:Value):Option ByteArray:=match v with
  | .string b=>some b
  | _=>none
theorem dSt_eq {v:Value}{n:ByteArray}(h:dSt v=some n):v=.string n:=by
  unfold dSt at h
  split at h
  · simp only [Option.some.injEq]at h;rw [h]
  · cases h
def dLs (z:Nat)(v:Value):Option (Array Value×Nat×Nat):=match v with
  | .func (.via 0 ⟨[]⟩ 0 true) c ⟨[.slice (some ⟨0,o,none⟩) n z']⟩=>(match Nat.beq z' z with | true=>some (c,o,n) | false=>none)
  | _=>none
theorem dLs_eq {z:Nat}{v:Value}{p:Array Value×Nat×Nat}(h:dLs z v=some p):v=lstV p.1 p.2.1 p.2.2 z:=by
  unfold dLs at h
  split at h
  · split at h
    · rename_i hz
      simp only [Option.some.injEq]at h
      subst h
      rw [Nat.eq_of_beq_eq_true hz]
    · cases h
  · cases h
def dPt (b off:Nat)(v:Value):Option Unit:=match v with
  | .pointer (some ⟨b',off',none⟩)=>(match Nat.beq b' b,Nat.beq off' off with | true,true=>some () | _,_=>none)
  | _=>none
theorem dPt_eq {b off:Nat}{v:Value}{u:Unit}(h:dPt b off v=some u):v=.pointer (some ⟨b,off,none⟩):=by
  unfold dPt at h
  split at h
  · split at h
    · rename_i h1 h2
      rw [Nat.eq_of_beq_eq_true h1,Nat.eq_of_beq_eq_true h2]
    · cases h
  · cases h
def dYi (l:Nat)(v:Value):Option Unit:=match v with
  | .func (.yield l') ⟨[]⟩ ⟨[]⟩=>(match Nat.beq l' l with | true=>some () | _=>none)
  | _=>none
def dFn (g:Nat)(v:Value):Option (List Value×List Value):=match v with
  | .func (.func g') ⟨a⟩ ⟨b⟩=>(match Nat.beq g' g with | true=>some (a,b) | _=>none)
  | _=>none
theorem dFn_eq {g:Nat}{v:Value}{p:List Value×List Value}(h:dFn g v=some p):v=.func (.func g) ⟨p.1⟩ ⟨p.2⟩:=by
  unfold dFn at h
  split at h
  · split at h
    · rename_i h1
      simp only [Option.some.injEq]at h
      subst h
      rw [Nat.eq_of_beq_eq_true h1]
    · cases h
  · cases h
def dCe (ob:Ob):Option (List Value):=match ob with
  | .cells ⟨l⟩ false=>some l
  | _=>none
theorem dCe_eq {ob:Ob}{l:List Value}(h:dCe ob=some l):ob=.cells ⟨l⟩ false:=by
  unfold dCe at h
  split at h
  · simp only [Option.some.injEq]at h;rw [h]
  · cases h
end
end Go.Gi
