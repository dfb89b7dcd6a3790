/- Part 11 of the texts below the claim. Conditions: none. -/
import Derived.Test.YtfnogghclaijlaaMg6
import Derived.Test.YtfnogghclaijlaaMg7
import Derived.Test.YtfnogghclaijlaaRows
import Derived.WalkKit
import Derived.ProofKit
import Derived.OpenShut
import Derived.ChangeOld
import Derived.Below
import Derived.Deep.Strs
import Derived.ChangeMaps5
import Derived.Test.YtfnogghclaijlaaMg8
import Derived.Test.YtfnogghclaijlaaMg9
import Derived.Test.YtfnogghclaijlaaMg10
import Derived.Test.YtfnogghclaijlaaMg5
set_option linter.unusedVariables false
set_option linter.unusedSimpArgs false
namespace Go.Gi
open Go.RowKit
noncomputable section
def Ty (P:Program):Nat→TypeId→List Value→Prop
  | 0,_,_=>False
  | d+1,t,cs=>match P.underlying t with
    | some .bool=>∃b,cs=[.bool b]
    | some (.int q)=>∃n,cs=[.int q n]∧(Lit.int q n).wf=true
    | some .string=>∃s,cs=[.string s]∧s.size≤maxLen
    | some (.struct fs)=>∃ps:List (List Value),cs=ps.flatten∧All2 (fun (f:Field) p=>Ty P d f.type p) fs.toList ps
    | some (.array n e)=>∃ps:List (List Value),cs=ps.flatten∧ps.length=n∧∀p∈ps,Ty P d e p
    | some (.slice e)=>∃(c:Array Value) (n:Nat),cs=[lstV c 0 n (P.cellsOf e)]∧c.size=n*P.cellsOf e∧n≤maxLen∧∀k,k<n→Ty P d e ((c.toList.drop (k*P.cellsOf e)).take (P.cellsOf e))
    | _=>False
def tyB (P:Program):Nat→TypeId→Bool
  | 0,_=>false
  | d+1,t=>match P.underlying t with
    | some .bool | some (.int _) | some .string=>true
    | some (.struct fs)=>offsB P 0 fs.toList&&(P.cellsOf t == (fs.toList.map fun f=>P.cellsOf f.type).sum)&&fs.toList.all fun f=>tyB P d f.type
    | some (.array n e)=>(P.cellsOf t == n*P.cellsOf e)&&tyB P d e
    | some (.slice e)=>Nat.blt 0 (P.cellsOf e)&&tyB P d e
    | _=>false
where offsB (P:Program):Nat→List Field→Bool
  | _,[]=>true
  | o,f::r=>(f.offset == o)&&offsB P (o+P.cellsOf f.type) r
section
variable {H:Type}{enc:TypeId×Value→H}{P:Program}{w:World}{base:Nat}{held:Bool}
theorem rows_of {z:Nat}{Q:Nat→List Value→Prop}:∀{n:Nat},(∀i,i<n→∃r:List Value,r.length=z∧Q i r)→∃c:List Value,c.length=n*z∧∀i,i<n→Q i ((c.drop (i*z)).take z)
  | 0,_=>⟨[],by simp,fun i hi=>absurd hi (Nat.not_lt_zero _)⟩
  | n+1,h=>by
    obtain ⟨c,h1,h2⟩:=rows_of (n:=n) fun i hi=>h i (by omega)
    obtain ⟨r,h3,h4⟩:=h n (by omega)
    refine ⟨c++r,by rw [List.length_append,h1,h3,Nat.add_mul,Nat.one_mul],fun i hi=>?_⟩
    rcases Nat.lt_or_ge i n with hlt | hge
    · have hle:i*z+z≤c.length:=by
        rw [h1]
        have:=Nat.mul_le_mul_right z hlt
        rw [Nat.succ_mul]at this
        exact this
      rw [List.drop_append_of_le_length (by omega),List.take_append_of_le_length (by rw [List.length_drop];omega)]
      exact h2 i hlt
    · obtain rfl:i=n:=by omega
      rw [← h1,List.drop_left,← h3,List.take_length]
      exact h4
theorem fr_fields {z:Nat→Option Obj}{d:Nat}{cs:List Value}(ih:∀(f:TypeId) (q:List Value),tyB P d f=true→(∃fuel x,DataW.trod enc P w base (fun _=>true) held fuel f q=some x)→∃abs,All2 (FR z) abs q∧Ty P d f abs) :
    ∀{fs:List Field} {o:Nat},tyB.offsB P o fs=true→(∀f∈fs,tyB P d f.type=true∧∃fuel x,DataW.trod enc P w base (fun _=>true) held fuel f.type ((cs.drop f.offset).take (P.cellsOf f.type))=some x) →
    ∃ps:List (List Value),All2 (FR z) ps.flatten ((cs.drop o).take (fs.map fun f=>P.cellsOf f.type).sum)∧All2 (fun (f:Field) p=>Ty P d f.type p) fs ps
  | [],o,_,_=>⟨[],by simp;exact .nil,.nil⟩
  | f::r,o,h,hf=>by
    simp only [tyB.offsB,Bool.and_eq_true,beq_iff_eq]at h
    obtain ⟨h1,h2⟩:=h
    obtain ⟨k1,k2⟩:=hf f (List.mem_cons_self ..)
    obtain ⟨abs,a1,a2⟩:=ih f.type _ k1 k2
    obtain ⟨ps,b1,b2⟩:=fr_fields ih h2 fun g hg=>hf g (List.mem_cons_of_mem _ hg)
    refine ⟨abs::ps,?_,.cons a2 b2⟩
    rw [List.flatten_cons,List.map_cons,List.sum_cons,List.take_add,List.drop_drop]
    rw [h1]at a1
    exact a1.append b1
theorem fr_rows {z:Nat→Option Obj}{k:Nat}{cs:List Value}{Q:List Value→Prop}:∀{n:Nat},(∀i,i<n→∃abs,All2 (FR z) abs ((cs.drop (i*k)).take k)∧Q abs) →
    ∃ps:List (List Value),ps.length=n∧All2 (FR z) ps.flatten (cs.take (n*k))∧∀p∈ps,Q p
  | 0,_=>⟨[],rfl,by simp;exact .nil,fun p hp=>by simp at hp⟩
  | n+1,h=>by
    obtain ⟨ps,h1,h2,h3⟩:=fr_rows (n:=n) fun i hi=>h i (by omega)
    obtain ⟨r,h4,h5⟩:=h n (by omega)
    refine ⟨ps++[r],by simp [h1],?_,fun p hp=>?_⟩
    · rw [List.flatten_append,Nat.add_mul,Nat.one_mul,List.take_add]
      simp only [List.flatten_cons,List.flatten_nil,List.append_nil]
      exact h2.append h4
    · rw [List.mem_append,List.mem_singleton]at hp
      rcases hp with hp | rfl
      · exact h3 p hp
      · exact h5
theorem fr_trod:∀{d:Nat}{t:TypeId}{fuel:Nat}{cs:List Value}{x:DataW H×List MemPlace},tyB P d t=true→DataW.trod enc P w base (fun _=>true) held fuel t cs=some x →
    ∃abs,All2 (FR fun B=>w.heap[B]?) abs cs∧Ty P d t abs
  | 0,_,_,_,_,h,_=>by cases h
  | d+1,t,0,cs,x,_,h=>by simp [DataW.trod]at h
  | d+1,t,fuel+1,cs,x,hf,h=>by
    have h0:=h
    unfold tyB at hf
    split at hf
    · rename_i hu
      unfold DataW.trod at h
      rw [hu]at h
      simp only at h
      split at h<;>first | (cases h;done) | skip
      all_goals first | (rename_i he;cases he;done) | skip
      exact ⟨_,.cons (.gnd rfl) .nil,by unfold Ty;rw [hu];exact ⟨_,rfl⟩⟩
    · rename_i q hu
      unfold DataW.trod at h
      rw [hu]at h
      simp only at h
      split at h<;>first | (cases h;done) | skip
      all_goals first | (rename_i he;cases he;done) | skip
      rename_i k k' n he
      cases he
      split at h
      · rename_i hc
        obtain ⟨rfl,hw⟩:=hc
        exact ⟨_,.cons (.gnd rfl) .nil,by unfold Ty;rw [hu];exact ⟨_,rfl,hw⟩⟩
      · cases h
    · rename_i hu
      unfold DataW.trod at h
      rw [hu]at h
      simp only at h
      split at h<;>first | (cases h;done) | skip
      all_goals first | (rename_i he;cases he;done) | skip
      split at h
      · rename_i hc;exact ⟨_,.cons (.gnd rfl) .nil,by unfold Ty;rw [hu];exact ⟨_,rfl,hc⟩⟩
      · cases h
    · rename_i fs hu
      simp only [Bool.and_eq_true,beq_iff_eq,List.all_eq_true]at hf
      obtain ⟨⟨h1,h2⟩,h3⟩:=hf
      unfold DataW.trod at h
      rw [hu]at h
      simp only at h
      split at h
      · rename_i hl
        rw [Option.map_eq_some_iff]at h
        obtain ⟨ys,hy,_⟩:=h
        have h4:=mapM_all hy
        obtain ⟨ps,a1,a2⟩:=fr_fields (z:=fun B=>w.heap[B]?) (d:=d) (cs:=cs) (P:=P) (w:=w) (enc:=enc) (base:=base) (held:=held) (fun f q hq ⟨fu,x,hx⟩=>fr_trod hq hx) h1 fun f hm=>by
          obtain ⟨y,h5⟩:=h4 f hm
          exact ⟨h3 f hm,_,_,h5⟩
        rw [List.drop_zero,← h2,← hl,List.take_length]at a1
        exact ⟨_,a1,by unfold Ty;rw [hu];exact ⟨ps,rfl,a2⟩⟩
      · cases h
    · rename_i n e hu
      simp only [Bool.and_eq_true,beq_iff_eq]at hf
      obtain ⟨h1,h2⟩:=hf
      unfold DataW.trod at h
      rw [hu]at h
      simp only at h
      split at h
      · rename_i hl
        rw [Option.map_eq_some_iff]at h
        obtain ⟨ys,hy,_⟩:=h
        have h4:=mapM_all hy
        obtain ⟨ps,a1,a2,a3⟩:=fr_rows (z:=fun B=>w.heap[B]?) (n:=n) (k:=P.cellsOf e) (cs:=cs) (Q:=Ty P d e) fun i hi=>by
          obtain ⟨y,h5⟩:=h4 i (List.mem_range.2 hi)
          exact fr_trod h2 h5
        rw [← h1,← hl,List.take_length]at a2
        exact ⟨_,a2,by unfold Ty;rw [hu];exact ⟨ps,rfl,a1,a3⟩⟩
      · cases h
    · rename_i e hu
      rw [Bool.and_eq_true,Nat.blt_eq]at hf
      obtain ⟨hpos,he⟩:=hf
      rcases Go.Deep.open_slice hu h0 with ⟨hcs,_⟩ | ⟨a,len,cap,m,k,D,Pl,hcs,hb,hl,hm,hmm,_,hx⟩
      · subst hcs
        exact ⟨_,.cons (.lstZ #[] 0 (P.cellsOf e) none) .nil,by unfold Ty;rw [hu];exact ⟨#[],0,rfl,by simp,Nat.zero_le _,fun k hk=>absurd hk (Nat.not_lt_zero _)⟩⟩
      · subst hcs
        simp only [if_true]at hmm
        subst hmm
        by_cases hc0:m=0
        · subst hc0
          obtain rfl:len=0:=by omega
          exact ⟨_,.cons (.lstZ #[] 0 (P.cellsOf e) (some a)) .nil,by unfold Ty;rw [hu];exact ⟨#[],0,rfl,by simp,Nat.zero_le _,fun k hk=>absurd hk (Nat.not_lt_zero _)⟩⟩
        · have hrow:∀i,i<m→∃r:List Value,r.length=P.cellsOf e∧(Ty P d e r∧∀j,j<P.cellsOf e→∃u,w.cell? ((a.add (i*P.cellsOf e)).add j)=some u∧FR (fun B=>w.heap[B]?) (r.getD j undef) u):=by
            intro i hi
            obtain ⟨cs',h1,h2⟩:=hx i hi
            obtain ⟨h5,h3,h4⟩:=World.cells?_some h1
            obtain ⟨abs,a1,a2⟩:=fr_trod he h2
            have hlen:=a1.len
            have hcl:cs'.length=P.cellsOf e:=h3
            refine ⟨abs,by omega,a2,fun j hj=>?_⟩
            obtain ⟨u,hu1,hu2⟩:=a1.get (List.getElem?_eq_getElem (show j<abs.length by omega))
            refine ⟨u,?_,?_⟩
            · rw [h4 j (by omega)];exact hu1
            · rw [List.getD_eq_getElem?_getD,List.getElem?_eq_getElem (show j<abs.length by omega)];exact hu2
          obtain ⟨c,hc1,hc2⟩:=rows_of (n:=len) fun i hi=>hrow i (by omega)
          have hcz:c.length=len*P.cellsOf e:=hc1
          obtain ⟨r0,hr0,_,hq0⟩:=hrow 0 (by omega)
          obtain ⟨u0,hu0,_⟩:=hq0 0 hpos
          obtain ⟨hs,C,el,fr,hh,_⟩:=cell_some hu0
          obtain ⟨B,off,spot⟩:=a
          simp only [Nat.zero_mul,Addr.add,if_true]at hs hh
          subst hs
          have hcell:∀i,i<len→∀j,j<P.cellsOf e→∃u,C[off+(i*P.cellsOf e+j)]?=some u∧FR (fun B=>w.heap[B]?) (c.getD (i*P.cellsOf e+j) undef) u:=by
            intro i hi j hj
            obtain ⟨_,hq⟩:=hc2 i hi
            obtain ⟨u,k1,k2⟩:=hq j hj
            obtain ⟨_,C',el',fr',hh',k3⟩:=cell_some k1
            simp only [add_at]at hh' k3
            rw [hh]at hh'
            cases hh'
            refine ⟨u,by rw [← Nat.add_assoc];exact k3,?_⟩
            have hle:i*P.cellsOf e+j<c.length:=by
              rw [hcz]
              have:=Nat.mul_le_mul_right (P.cellsOf e) hi
              rw [Nat.succ_mul]at this
              omega
            rw [List.getD_eq_getElem?_getD,List.getElem?_take,if_pos hj,List.getElem?_drop]at k2
            rw [List.getD_eq_getElem?_getD]
            exact k2
          have hall:∀i,i<c.length→∃u,C[off+i]?=some u∧FR (fun B=>w.heap[B]?) (c.getD i undef) u:=by
            intro i hi
            rw [hcz]at hi
            have hd:i / P.cellsOf e<len:=Nat.div_lt_of_lt_mul (by rw [Nat.mul_comm];exact hi)
            obtain ⟨u,k1,k2⟩:=hcell _ hd _ (Nat.mod_lt i hpos)
            have e1:i / P.cellsOf e*P.cellsOf e+i % P.cellsOf e=i:=by
              have:=Nat.div_add_mod i (P.cellsOf e)
              rw [Nat.mul_comm]at this;exact this
            rw [e1]at k1 k2
            exact ⟨u,k1,k2⟩
          rcases Nat.eq_zero_or_pos len with rfl | hlen
          · refine ⟨_,.cons (.lst (c:=#[]) (C:=C) (el:=el) (fr:=fr) (off:=0) (len:=0) (sz:=P.cellsOf e) (cap':=m) (B:=B) (base:=off) hh (by
              obtain ⟨_,C',el',fr',hh',k3⟩:=cell_some hu0
              simp only [add_at]at hh' k3
              rw [hh]at hh';cases hh'
              have:=(Array.getElem?_eq_some_iff.1 k3).1
              simp;omega) (fun i hi=>absurd hi (Nat.not_lt_zero _)) (Nat.zero_le _) (by simp)) .nil,?_⟩
            unfold Ty;rw [hu];exact ⟨#[],0,rfl,by simp,Nat.zero_le _,fun k hk=>absurd hk (Nat.not_lt_zero _)⟩
          · refine ⟨_,.cons (.lst (c:=⟨c⟩) (C:=C) (el:=el) (fr:=fr) (off:=0) (len:=len) (sz:=P.cellsOf e) (cap':=m) (B:=B) (base:=off) hh ?_ (fun i hi=>?_) hl (by simp;omega)) .nil,?_⟩
            · have hlc:0<c.length:=by rw [hcz];exact Nat.mul_pos hlen hpos
              obtain ⟨u,k1,_⟩:=hall (c.length-1) (by omega)
              have:=(Array.getElem?_eq_some_iff.1 k1).1
              simp;omega
            · obtain ⟨u,k1,k2⟩:=hall i (by simpa using hi)
              rw [Array.getD_eq_getD_getElem?,Array.getD_eq_getD_getElem?,k1]
              rw [List.getD_eq_getElem?_getD]at k2
              simpa using k2
            · unfold Ty;rw [hu]
              exact ⟨⟨c⟩,len,rfl,by simpa using hcz,by omega,fun k hk=>(hc2 k hk).1⟩
    · cases hf
theorem fr_agg {t:TypeId}{cs:Array Value}{fuel:Nat}{x:DataW H×List MemPlace}(ht:tyB P 20 t=true) (h:DataW.trod enc P w base (fun _=>true) held fuel t cs.toList=some x):∃abs:List Value,VR (zAll w) (.agg ⟨abs⟩) (.agg cs)∧Ty P 20 t abs:=by
  obtain ⟨abs,h1,h2⟩:=fr_trod ht h
  refine ⟨abs,VR.agg (by simpa using h1.len.symm) fun i hi=>?_,h2⟩
  have hi':i<abs.length:=by simpa using hi
  obtain ⟨b,h3,h4⟩:=h1.get (List.getElem?_eq_getElem hi')
  have h5:cs[i]?=some b:=by rw [← Array.getElem?_toList];exact h3
  rw [Array.getD_eq_getD_getElem?,Array.getD_eq_getD_getElem?,h5]
  simp only [List.getElem?_toArray,List.getElem?_eq_getElem hi',Option.getD_some]
  exact FR.vr (φ:=zAll w) h4
theorem flat_fields {d:Nat}(ih:∀(t:TypeId) (cs:List Value),flatT P d t=true→Ty P d t cs→All2 okLeaf (leaves P false d t) cs):∀{fs:List Field}{ps:List (List Value)},
    All2 (fun (f:Field) p=>Ty P d f.type p) fs ps→(∀f∈fs,flatT P d f.type=true)→All2 okLeaf (fs.flatMap fun f=>leaves P false d f.type) ps.flatten
  | [],_,.nil,_=>.nil
  | f::fs,_,.cons h r,hf=>by
    rw [List.flatMap_cons,List.flatten_cons]
    exact (ih _ _ (hf f (List.mem_cons_self ..)) h).append (flat_fields ih r fun g hg=>hf g (List.mem_cons_of_mem _ hg))
theorem ty_flat:∀{d:Nat}{t:TypeId}{cs:List Value},flatT P d t=true→Ty P d t cs→All2 okLeaf (leaves P false d t) cs
  | 0,_,_,h,_=>by cases h
  | d+1,t,cs,hf,h=>by
    unfold flatT at hf
    unfold Ty at h
    split at hf
    · rename_i hu
      rw [hu]at h
      rw [leaves,hu,show leafOf P false t=.bool by unfold leafOf;rw [hu]]
      obtain ⟨b,rfl⟩:=h
      exact .cons ⟨_,rfl⟩ .nil
    · rename_i q hu
      rw [hu]at h
      rw [leaves,hu,show leafOf P false t=.int q by unfold leafOf;rw [hu]]
      obtain ⟨n,rfl,hw⟩:=h
      exact .cons ⟨_,rfl,hw⟩ .nil
    · rename_i hu
      rw [hu]at h
      rw [leaves,hu,show leafOf P false t=.str by unfold leafOf;rw [hu]]
      obtain ⟨n,rfl,hw⟩:=h
      exact .cons ⟨_,rfl,hw⟩ .nil
    · rename_i fs hu
      rw [hu]at h
      simp only [Bool.and_eq_true,List.all_eq_true]at hf
      obtain ⟨ps,rfl,h2⟩:=h
      have hlv:leaves P false (d+1) t=fs.toList.flatMap fun f=>leaves P false d f.type:=by rw [leaves,hu]
      rw [hlv]
      exact flat_fields (fun t cs h1 h2=>ty_flat h1 h2) h2 hf.2
    · cases hf
theorem ty_good {d:Nat}{e:TypeId}{c:Array Value}{n:Nat}(hf:flatT P d e=true) (hz:P.cellsOf e=(leaves P false d e).length) (hs:c.size=n*P.cellsOf e) (hpos:0<P.cellsOf e)
    (h:∀k,k<n→Ty P d e ((c.toList.drop (k*P.cellsOf e)).take (P.cellsOf e))):GoodL (leaves P false d e) c 0 n:=by
  have hrow:∀k,k<n→∀j l,(leaves P false d e)[j]?=some l→∃v,c[k*P.cellsOf e+j]?=some v∧okLeaf l v:=by
    intro k hk j l hj
    obtain ⟨v,h1,h2⟩:=(ty_flat hf (h k hk)).get hj
    refine ⟨v,?_,h2⟩
    rw [List.getElem?_take]at h1
    split at h1
    · rw [List.getElem?_drop,Array.getElem?_toList]at h1;exact h1
    · cases h1
  refine ⟨?_,fun k hk=>rdOk_of fun j l hj=>?_⟩
  · rw [List.all_eq_true]
    intro u hu
    rw [Array.mem_toList_iff,Array.mem_iff_getElem?]at hu
    obtain ⟨i,hu⟩:=hu
    have hi:=(Array.getElem?_eq_some_iff.1 hu).1
    rw [hs]at hi
    have hd:i / P.cellsOf e<n:=Nat.div_lt_of_lt_mul (by rw [Nat.mul_comm];exact hi)
    have hm:=Nat.mod_lt i hpos
    obtain ⟨l,hl⟩:∃l,(leaves P false d e)[i % P.cellsOf e]?=some l:=⟨_,List.getElem?_eq_getElem (by omega)⟩
    obtain ⟨v,h1,h2⟩:=hrow _ hd _ l hl
    have e1:i / P.cellsOf e*P.cellsOf e+i % P.cellsOf e=i:=by
      have:=Nat.div_add_mod i (P.cellsOf e)
      rw [Nat.mul_comm]at this;exact this
    rw [e1,hu]at h1
    cases h1
    exact okLeaf_g0 h2
  · obtain ⟨v,h1,h2⟩:=hrow k hk j l hj
    exact ⟨v,by rw [Nat.zero_add,← hz];exact h1,h2⟩
end
end
end Go.Gi
namespace Go.Proofs.Ytfnogghclaijlaa
open Go.ChangeShapes Go.WideShapes Go.ChangeAt Go.RowKit Go.Gi Go.Proofs.Ytfnogghclaijlaa.Old
section
variable {P:Program}
theorem tyI {d:Nat}{t:TypeId}{cs:List Value}(hu:P.underlying t=some (.int .i64)) (h:Ty P (d+1) t cs):∃n,cs=[.int .i64 n]∧(Lit.int .i64 n).wf=true:=by
  unfold Ty at h
  rw [hu]at h
  exact h
theorem tyL {d:Nat}{t e:TypeId}{cs:List Value}(hu:P.underlying t=some (.slice e)) (h:Ty P (d+1) t cs) :
    ∃(c:Array Value) (n:Nat),cs=[lstV c 0 n (P.cellsOf e)]∧c.size=n*P.cellsOf e∧n≤maxLen∧∀k,k<n→Ty P d e ((c.toList.drop (k*P.cellsOf e)).take (P.cellsOf e)):=by
  unfold Ty at h
  rw [hu]at h
  exact h
theorem tyS {d:Nat}{t:TypeId}{fs:Array Field}{cs:List Value}(hu:P.underlying t=some (.struct fs)) (h:Ty P (d+1) t cs):∃ps:List (List Value),cs=ps.flatten∧All2 (fun (f:Field) p=>Ty P d f.type p) fs.toList ps:=by
  unfold Ty at h
  rw [hu]at h
  exact h
theorem tyA {d:Nat}{t e:TypeId}{n:Nat}{cs:List Value}(hu:P.underlying t=some (.array n e)) (h:Ty P (d+1) t cs):∃ps:List (List Value),cs=ps.flatten∧ps.length=n∧∀p∈ps,Ty P d e p:=by
  unfold Ty at h
  rw [hu]at h
  exact h
theorem tyS5 {d:Nat}{t:TypeId}{f0 f1 f2 f3 f4:Field}{cs:List Value}(hu:P.underlying t=some (.struct #[f0,f1,f2,f3,f4])) (h:Ty P (d+1) t cs) :
    ∃p0 p1 p2 p3 p4,cs=p0++(p1++(p2++(p3++p4)))∧Ty P d f0.type p0∧Ty P d f1.type p1∧Ty P d f2.type p2∧Ty P d f3.type p3∧Ty P d f4.type p4:=by
  obtain ⟨ps,rfl,g⟩:=tyS hu h
  clear h
  cases g with
  | cons h1 g =>
  cases g with
  | cons h2 g =>
  cases g with
  | cons h3 g =>
  cases g with
  | cons h4 g =>
  cases g with
  | cons h5 g =>
  cases g
  exact ⟨_,_,_,_,_,by simp,h1,h2,h3,h4,h5⟩
theorem tyA3 {d:Nat}{t e:TypeId}{cs:List Value}(hu:P.underlying t=some (.array 3 e)) (he:P.underlying e=some (.int .i64)) (h:Ty P (d+1+1) t cs) :
    ∃x0 x1 x2,cs=[.int .i64 x0,.int .i64 x1,.int .i64 x2]∧(Lit.int .i64 x0).wf=true∧(Lit.int .i64 x1).wf=true∧(Lit.int .i64 x2).wf=true:=by
  obtain ⟨ps,rfl,hl,g⟩:=tyA hu h
  match ps,hl with
  | [p0,p1,p2],_ =>
    obtain ⟨x0,rfl,w0⟩:=tyI he (g p0 (by simp))
    obtain ⟨x1,rfl,w1⟩:=tyI he (g p1 (by simp))
    obtain ⟨x2,rfl,w2⟩:=tyI he (g p2 (by simp))
    exact ⟨x0,x1,x2,rfl,w0,w1,w2⟩
structure GL (L:List Leaf) (z:Nat) (c:Array Value) (n:Nat):Prop where
  good:GoodL L c 0 n
  size:c.size=n*z
  few:n≤maxLen
theorem tyG {d z:Nat}{t e:TypeId}{L:List Leaf}{cs:List Value}(hu:P.underlying t=some (.slice e)) (hf:flatT P d e=true) (hz:P.cellsOf e=z) (hL:leaves P false d e=L) (hl:L.length=z) (hp:0<z)
    (h:Ty P (d+1) t cs):∃c n,cs=[lstV c 0 n z]∧GL L z c n:=by
  obtain ⟨c,n,h1,h2,h3,h4⟩:=tyL hu h
  subst hz
  subst hL
  exact ⟨c,n,h1,ty_good hf hl.symm h2 hp h4,h2,h3⟩
end
theorem own:ownKnob Try.prog.godebug=none:=by kernel_rfl
theorem laidOut:laidOutB Try.prog=true:=by kernel_rfl
theorem flat107:flatT Try.prog 18 107=true:=by kernel_rfl
theorem leaves107:leaves Try.prog false 18 107=L7:=by kernel_rfl
theorem flat89:flatT Try.prog 18 89=true:=by kernel_rfl
theorem leaves89:leaves Try.prog false 18 89=L5:=by kernel_rfl
theorem flat3:flatT Try.prog 18 3=true:=by kernel_rfl
theorem leaves3:leaves Try.prog false 18 3=L1:=by kernel_rfl
theorem cells107:Try.prog.cellsOf 107=7:=by kernel_rfl
theorem cells89:Try.prog.cellsOf 89=5:=by kernel_rfl
theorem cells3:Try.prog.cellsOf 3=1:=by kernel_rfl
theorem tyB26:tyB Try.prog 20 26=true:=by kernel_rfl
theorem tyB50:tyB Try.prog 20 50=true:=by kernel_rfl
def Tsk (abs:List Value):Prop:=∃c1 n1 c2 n2 c3 n3 age shear,abs=[lstV c1 0 n1 7,lstV c2 0 n2 5,lstV c3 0 n3 1,.int .i64 age,.int .i64 shear]∧GL L7 7 c1 n1∧GL L5 5 c2 n2∧GL L1 1 c3 n3 ∧
  (Lit.int .i64 age).wf=true∧(Lit.int .i64 shear).wf=true
set_option maxRecDepth 100000 in
theorem tsk {abs:List Value}(h:Ty Try.prog 20 26 abs):Tsk abs:=by
  obtain ⟨p0,p1,p2,p3,p4,rfl,h1,h2,h3,h4,h5⟩:=tyS5 Try.underlying26 h
  obtain ⟨c1,n1,rfl,g1⟩:=tyG Try.underlying22 flat107 cells107 leaves107 rfl (by decide) h1
  obtain ⟨c2,n2,rfl,g2⟩:=tyG Try.underlying23 flat89 cells89 leaves89 rfl (by decide) h2
  obtain ⟨c3,n3,rfl,g3⟩:=tyG Try.underlying24 flat3 cells3 leaves3 rfl (by decide) h3
  obtain ⟨age,rfl,w4⟩:=tyI Try.underlying3 h4
  obtain ⟨shear,rfl,w5⟩:=tyI Try.underlying3 h5
  exact ⟨c1,n1,c2,n2,c3,n3,age,shear,rfl,g1,g2,g3,w4,w5⟩
theorem GL.or {L:List Leaf}{z n:Nat}{c:Array Value}(h:GL L z c n):n=0∨GoodL L c 0 n:=.inr h.good
theorem F20_ok_of {c1 c2 c3:Array Value}{n1 n2 n3:Nat}{age shear:Int}(h1:GL L7 7 c1 n1) (h2:GL L5 5 c2 n2) (h3:GL L1 1 c3 n3):F20_ok c1 0 n1 c2 0 n2 c3 0 n3 age shear=true :=
  dec_iff.2 ⟨h1.or,h2.or,h3.or⟩
theorem okWide_arr {P:Program}{w:World}{r:Reach}{base:Nat}{t:TypeId}{v:Value}{n:Nat}{e:TypeId}(ht:P.underlying t=some (.array n e)) (h:Value.okWide P w r base t v):∃cs,v=.agg cs∧cs.size=P.cellsOf t:=by
  simp only [Value.okWide,ht]at h
  obtain ⟨cs,rfl,hs,_⟩:=h
  exact ⟨cs,rfl,hs⟩
section
variable {P:Program}{H:Type}{enc:TypeId×Value→H}{w:World}{r:Reach}{b0:Nat}{v:Value}{dd:DataW H}{p:List MemPlace}{t e:TypeId}
theorem argS {fs:Array Field}(hu:P.underlying t=some (.struct fs)) (ht:tyB P 20 t=true) (hval:Value.okWide P w r b0 t v) (h:DataW.Trod enc P w 0 (fun _=>true) true t v dd p):∃abs,VR (zAll w) (.agg ⟨abs⟩) v∧Ty P 20 t abs:=by
  obtain ⟨cs,rfl,hcs⟩:=okWide_struct hu hval
  obtain ⟨fu,hf⟩:=h
  exact fr_agg ht hf
theorem argA {n:Nat}(hu:P.underlying t=some (.array n e)) (ht:tyB P 20 t=true) (hval:Value.okWide P w r b0 t v) (h:DataW.Trod enc P w 0 (fun _=>true) true t v dd p):∃abs,VR (zAll w) (.agg ⟨abs⟩) v∧Ty P 20 t abs:=by
  obtain ⟨cs,rfl,hcs⟩:=okWide_arr hu hval
  obtain ⟨fu,hf⟩:=h
  exact fr_agg ht hf
end
section
variable {H:Type}{enc:TypeId×Value→H}{w:World}{r:Reach}{b0:Nat}{v:Value}{dd:DataW H}{p:List MemPlace}
set_option maxRecDepth 100000 in
theorem tskArg (hval:Value.okWide Try.prog w r b0 26 v)(h:DataW.Trod enc Try.prog w 0 (fun _=>true) true 26 v dd p):∃abs,VR (zAll w) (.agg ⟨abs⟩) v∧Tsk abs:=by
  obtain ⟨abs,h1,h2⟩:=argS Try.underlying26 tyB26 hval h
  exact ⟨abs,h1,tsk h2⟩
set_option maxRecDepth 100000 in
theorem threeArg (hval:Value.okWide Try.prog w r b0 50 v)(h:DataW.Trod enc Try.prog w 0 (fun _=>true) true 50 v dd p):∃x0 x1 x2,VR (zAll w) (.agg ⟨[.int .i64 x0,.int .i64 x1,.int .i64 x2]⟩) v∧(Lit.int .i64 x0).wf=true∧(Lit.int .i64 x1).wf=true∧(Lit.int .i64 x2).wf=true:=by
  obtain ⟨abs,h1,h2⟩:=argA Try.underlying50 tyB50 hval h
  obtain ⟨x0,x1,x2,rfl,w0,w1,w2⟩:=tyA3 Try.underlying50 Try.underlying3 h2
  exact ⟨x0,x1,x2,h1,w0,w1,w2⟩
end
end Go.Proofs.Ytfnogghclaijlaa
namespace Go.Proofs.Ytfnogghclaijlaa
open Go.Gi Go.RowKit Go.Proofs.Ytfnogghclaijlaa.Old
noncomputable section
set_option maxRecDepth 100000
section
variable {c0 c c3:Array Value}{n n2 n3 off3:Nat}{age shear now:Int}{k:Nat}
theorem row0 (h:GoodL L7 c0 0 n) {s:Int}(h0:0≤s) (h1:s<n):rdOk c0 L7 (0+s.toNat*7)=true:=h.2 s.toNat (by omega)
theorem rdOk_int2 {c:Array Value}{i:Nat}(h:rdOk c L7 i=true):isInt .i64 c (i+2)=true:=by
  simp only [rdOk,rdLeaf,Bool.and_eq_true]at h
  exact h.2.2.1
end
section
variable {c0 c c3:Array Value}{n n2 n3 off3:Nat}{age shear now:Int}{k:Nat}
def fold (c0 c:Array Value)(age shear lo hi tick now:Int)(g:Nat)(q:Int)(m k:Nat)(s:Hd):Hd:=hdR c0 0 c 0 age shear lo hi tick now g q m k s
end
def bot:Hd:=⟨-20000,20000,-20000,20000,false⟩
section
variable (c0 c:Array Value) (age shear lo hi tick now:Int)
def upd (k:Nat)(s:Hd):Hd :=
  ⟨max s.xl (getInt c (0+k*5+3)-dbI c0 0 c 0 age shear lo hi tick k),min s.xh (getInt c (0+k*5+3)+dbI c0 0 c 0 age shear lo hi tick k),
   max s.yl (getInt c (0+k*5+4)-dbI c0 0 c 0 age shear lo hi tick k),min s.yh (getInt c (0+k*5+4)+dbI c0 0 c 0 age shear lo hi tick k),true⟩
def hdP (p:Int→Bool):Nat→Nat→Hd→Hd
  | 0,_,s=>s
  | m+1,k,s=>hdP p m (k+1) (if knP c0 0 c 0 now k=true∧p (getInt c (0+k*5))=true then upd c0 c age shear lo hi tick k s else s)
theorem hdP_of (g:Nat)(q:Int):∀(m k:Nat) (s:Hd),fold c0 c age shear lo hi tick now g q m k s=hdP c0 c age shear lo hi tick now (chB g q) m k s
  | 0,k,s=>by unfold fold hdP hdR;rfl
  | m+1,k,s=>by
    have h:=hdP_of g q m (k+1)
    unfold fold at h ⊢
    unfold hdP hdR
    rw [h]
    rfl
theorem hdP_congr {p q:Int→Bool}:∀(m k:Nat) (s:Hd),(∀i,k≤i→i<k+m→p (getInt c (0+i*5))=q (getInt c (0+i*5)))→hdP c0 c age shear lo hi tick now p m k s=hdP c0 c age shear lo hi tick now q m k s
  | 0,_,_,_=>rfl
  | m+1,k,s,h=>by
    unfold hdP
    rw [h k (Nat.le_refl _) (by omega)]
    exact hdP_congr m (k+1) _ fun i h1 h2=>h i (by omega) (by omega)
end
section
variable {c0 c c3:Array Value}{n n2 n3 off3:Nat}{age shear lo hi tick now:Int}
def all (c0 c:Array Value)(n2:Nat)(age shear lo hi tick now:Int)(p:Int→Bool):Hd:=hdP c0 c age shear lo hi tick now p n2 0 bot
theorem all_congr {p q:Int→Bool}(h:∀i,i<n2→p (getInt c (0+i*5))=q (getInt c (0+i*5))):all c0 c n2 age shear lo hi tick now p=all c0 c n2 age shear lo hi tick now q :=
  hdP_congr c0 c age shear lo hi tick now n2 0 bot fun i _ h1=>h i (by omega)
end
section
variable {c0 c c3:Array Value}{n n2 n3 off3:Nat}{age shear lo hi tick now:Int}
theorem F81_fold {g:Nat}{q:Int}(hv:Vld c0 0 n c 0 n2 age shear) :
    hdR (arrOf (some ⟨0,0,none⟩) [obF n c0,obF n2 c,obF n3 c3]) 0 (arrOf (some ⟨1,0,none⟩) [obF n c0,obF n2 c,obF n3 c3]) 0 age shear lo hi tick now g q n2 0 bot=all c0 c n2 age shear lo hi tick now (chB g q):=by
  rcases Nat.eq_zero_or_pos n2 with rfl | h
  · rfl
  · have hs:=hv.src 0 h
    have e1:obF n c0=.cells c0 true:=by unfold obF;rw [if_neg (by omega)]
    have e2:obF n2 c=.cells c true:=by unfold obF;rw [if_neg (by omega)]
    rw [e1,e2]
    unfold all
    rw [← hdP_of]
    rfl
theorem F81_of {g:Nat}{q:Int}(hv:Vld c0 0 n c 0 n2 age shear) :
    F81xl g q c0 0 n c 0 n2 c3 off3 n3 age shear lo hi tick now=(all c0 c n2 age shear lo hi tick now (chB g q)).xl∧F81xh g q c0 0 n c 0 n2 c3 off3 n3 age shear lo hi tick now=(all c0 c n2 age shear lo hi tick now (chB g q)).xh ∧
    F81yl g q c0 0 n c 0 n2 c3 off3 n3 age shear lo hi tick now=(all c0 c n2 age shear lo hi tick now (chB g q)).yl∧F81yh g q c0 0 n c 0 n2 c3 off3 n3 age shear lo hi tick now=(all c0 c n2 age shear lo hi tick now (chB g q)).yh:=by
  have h:=F81_fold (c3:=c3) (n3:=n3) (lo:=lo) (hi:=hi) (tick:=tick) (now:=now) (g:=g) (q:=q) hv
  exact ⟨congrArg Hd.xl h,congrArg Hd.xh h,congrArg Hd.yl h,congrArg Hd.yh h⟩
end
end
end Go.Proofs.Ytfnogghclaijlaa
namespace Go.Proofs.Ytfnogghclaijlaa
open Go.Gi Go.RowKit Go.Proofs.Ytfnogghclaijlaa.Old
noncomputable section
set_option maxRecDepth 100000
set_option maxHeartbeats 4000000
structure R74 where
  (r0:Bool)
structure A74 where
  (a0:Int)
def rt74 (a0:Int):RT R74 :=
  .br (decide ((0:Int)≤a0)) (.leaf ⟨(decide (a0≤(100000:Int)))⟩) (.leaf ⟨false⟩)
def en74 (r:R74):Value:=(.bool r.r0)
theorem T74  (a0:Int):evC Try.prog (Ans.c (fun _=>none:Ans)) 60 (.call 74 ⟨[(.int .i64 a0)]⟩ ⟨[],0,[]⟩) (frzK [0])=(rt74 a0).out (fun r=>.ret (en74 r) ⟨[],0,[]⟩):=by kernel_rfl
def F74 (a0:Int):Option R74:=(rt74 a0).val
section
variable (a0:Int)
def F74_ok:Bool:=(F74 a0).isSome
def F74_0:Bool:=match F74 a0 with | some r=>r.r0 | none=>false
end
def dec74:Task→Option (A74×Hp)
  | .call g ⟨[(.int .i64 a0)]⟩ h=>(match Nat.beq g 74 with | true=>some (⟨a0⟩,h) | false=>none)
  | _=>none
def alt74 (x:A74)(h:Hp):AT:=.br (F74_ok x.a0) (.leaf (.ret (.bool (F74_0 x.a0)) h)) .no
def p74:Ans:=fnAns dec74 alt74
theorem ha74:∀(x:A74) (h:Hp)(o:Out),(alt74 x h).out=some o→∃r,(rt74 x.a0).val=some r∧o=.ret (en74 r) h:=by
  intro x h o e
  unfold alt74 at e
  cases hF:F74 x.a0 with
  | none=>simp [F74_ok,hF,AT.out]at e
  | some r =>
    refine ⟨r,hF,?_⟩
    simp only [F74_ok,F74_0,hF,AT.out,Option.isSome_some,cond_true,Option.some.injEq]at e
    rw [← e];rfl
theorem hd74:∀(t:Task) (x:A74)(h:Hp),dec74 t=some (x,h)→t=.call 74 ⟨[(.int .i64 x.a0)]⟩ h:=by
  intro t x h e
  unfold dec74 at e
  split at e
  case h_2=>cases e
  split at e
  case h_2=>cases e
  rename_i hg
  simp only [Option.some.injEq,Prod.mk.injEq]at e
  obtain ⟨rfl,rfl⟩:=e
  rw [Nat.eq_of_beq_eq_true hg]
theorem known74:Known Try.prog p74:=by
  exact Known.fn noNG mixed (Known.nothing Try.prog) (n:=60) (zs:=[0]) 74 (fun x:A74=>[(.int .i64 x.a0)]) (fun x=>rt74 x.a0) en74 (fun x=>T74  x.a0) (fun x=>rfl) dec74 alt74 hd74 ha74
structure R91 where
  (r0:Bool)
structure A91 where
  (a0 a1:Int)
  (a2 a3:Int)
def rt91 (a0 a1:Int)(a2 a3:Int):RT R91 :=
  .br (F74_ok a2) (.br (F74_0 a2) (.br (F74_ok a3) (.leaf ⟨(F74_0 a3)⟩) (.no)) (.leaf ⟨false⟩)) (.no)
def en91 (r:R91):Value:=(.bool r.r0)
theorem T91  (a0 a1:Int) (a2 a3:Int):evC Try.prog (Ans.c p74) 60 (.call 91 ⟨[(.agg ⟨[(.int .i64 a0),(.int .i64 a1),(.int .i64 a2),(.int .i64 a3)]⟩)]⟩ ⟨[],0,[]⟩) (frzK [0])=(rt91 a0 a1 a2 a3).out (fun r=>.ret (en91 r) ⟨[],0,[]⟩):=by kernel_rfl
def F91 (a0 a1:Int)(a2 a3:Int):Option R91:=(rt91 a0 a1 a2 a3).val
section
variable (a0 a1:Int) (a2 a3:Int)
def F91_ok:Bool:=(F91 a0 a1 a2 a3).isSome
def F91_0:Bool:=match F91 a0 a1 a2 a3 with | some r=>r.r0 | none=>false
end
def dec91:Task→Option (A91×Hp)
  | .call g ⟨[(.agg ⟨[(.int .i64 a0),(.int .i64 a1),(.int .i64 a2),(.int .i64 a3)]⟩)]⟩ h=>(match Nat.beq g 91 with | true=>some (⟨a0,a1,a2,a3⟩,h) | false=>none)
  | _=>none
def alt91 (x:A91)(h:Hp):AT:=.br (F91_ok x.a0 x.a1 x.a2 x.a3) (.leaf (.ret (.bool (F91_0 x.a0 x.a1 x.a2 x.a3)) h)) .no
def p91:Ans:=fnAns dec91 alt91
theorem ha91:∀(x:A91) (h:Hp)(o:Out),(alt91 x h).out=some o→∃r,(rt91 x.a0 x.a1 x.a2 x.a3).val=some r∧o=.ret (en91 r) h:=by
  intro x h o e
  unfold alt91 at e
  cases hF:F91 x.a0 x.a1 x.a2 x.a3 with
  | none=>simp [F91_ok,hF,AT.out]at e
  | some r =>
    refine ⟨r,hF,?_⟩
    simp only [F91_ok,F91_0,hF,AT.out,Option.isSome_some,cond_true,Option.some.injEq]at e
    rw [← e];rfl
theorem hd91:∀(t:Task) (x:A91)(h:Hp),dec91 t=some (x,h)→t=.call 91 ⟨[(.agg ⟨[(.int .i64 x.a0),(.int .i64 x.a1),(.int .i64 x.a2),(.int .i64 x.a3)]⟩)]⟩ h:=by
  intro t x h e
  unfold dec91 at e
  split at e
  case h_2=>cases e
  split at e
  case h_2=>cases e
  rename_i hg
  simp only [Option.some.injEq,Prod.mk.injEq]at e
  obtain ⟨rfl,rfl⟩:=e
  rw [Nat.eq_of_beq_eq_true hg]
theorem known91:Known Try.prog p91:=by
  exact Known.fn noNG mixed known74 (n:=60) (zs:=[0]) 91 (fun x:A91=>[(.agg ⟨[(.int .i64 x.a0),(.int .i64 x.a1),(.int .i64 x.a2),(.int .i64 x.a3)]⟩)]) (fun x=>rt91 x.a0 x.a1 x.a2 x.a3) en91 (fun x=>T91  x.a0 x.a1 x.a2 x.a3) (fun x=>rfl) dec91 alt91 hd91 ha91
structure R94 where
  (r0 r1:Int)
structure A94 where
  (a0:Array Value)
  (a1 a2:Nat)
  (a3:Array Value)
  (a4 a5:Nat)
  (a6:Array Value)
  (a7 a8:Nat)
  (a9 a10 a11:Int)
def rt94 (a0:Array Value)(a1 a2:Nat)(a3:Array Value)(a4 a5:Nat)(a6:Array Value)(a7 a8:Nat)(a9 a10 a11:Int):RT R94 :=
  .br (decide ((0:Int)<a11)) (.br (and (decide ((0:Int)≤(IntKind.wrap .i64 (a11-(1:Int))))) (decide ((IntKind.wrap .i64 (a11-(1:Int)))<(Int.ofNat a8)))) (.br (isInt .i64 a6 (a7+((Int.toNat (IntKind.wrap .i64 (a11-(1:Int))))*1))) (.br (and (decide ((0:Int)≤a11)) (decide (a11<(Int.ofNat a8)))) (.br (isInt .i64 a6 (a7+((Int.toNat a11)*1))) (.leaf ⟨(getInt a6 (a7+((Int.toNat (IntKind.wrap .i64 (a11-(1:Int))))*1))),(IntKind.wrap .i64 ((getInt a6 (a7+((Int.toNat a11)*1)))-(1:Int)))⟩) (.no)) (.no)) (.no)) (.no)) (.br (and (decide ((0:Int)≤a11)) (decide (a11<(Int.ofNat a8)))) (.br (isInt .i64 a6 (a7+((Int.toNat a11)*1))) (.leaf ⟨(0:Int),(IntKind.wrap .i64 ((getInt a6 (a7+((Int.toNat a11)*1)))-(1:Int)))⟩) (.no)) (.no))
def en94 (r:R94):Value:=(.agg ⟨[(.int .i64 r.r0),(.int .i64 r.r1)]⟩)
theorem T94  (a0:Array Value) (a1 a2:Nat) (a3:Array Value) (a4 a5:Nat) (a6:Array Value) (a7 a8:Nat) (a9 a10 a11:Int):evC Try.prog (Ans.c (fun _=>none:Ans)) 60 (.call 94 ⟨[(.agg ⟨[(lstV a0 a1 a2 7),(lstV a3 a4 a5 5),(lstV a6 a7 a8 1),(.int .i64 a9),(.int .i64 a10)]⟩),(.int .i64 a11)]⟩ ⟨[],0,[]⟩) (frzK [0])=(rt94 a0 a1 a2 a3 a4 a5 a6 a7 a8 a9 a10 a11).out (fun r=>.ret (en94 r) ⟨[],0,[]⟩):=by kernel_rfl
def F94 (a0:Array Value)(a1 a2:Nat)(a3:Array Value)(a4 a5:Nat)(a6:Array Value)(a7 a8:Nat)(a9 a10 a11:Int):Option R94:=(rt94 a0 a1 a2 a3 a4 a5 a6 a7 a8 a9 a10 a11).val
section
variable (a0:Array Value) (a1 a2:Nat) (a3:Array Value) (a4 a5:Nat) (a6:Array Value) (a7 a8:Nat) (a9 a10 a11:Int)
def F94_ok:Bool:=(F94 a0 a1 a2 a3 a4 a5 a6 a7 a8 a9 a10 a11).isSome
def F94_0:Int:=match F94 a0 a1 a2 a3 a4 a5 a6 a7 a8 a9 a10 a11 with | some r=>r.r0 | none=>0
def F94_1:Int:=match F94 a0 a1 a2 a3 a4 a5 a6 a7 a8 a9 a10 a11 with | some r=>r.r1 | none=>0
end
def dec94:Task→Option (A94×Hp)
  | .call g ⟨[(.agg ⟨[(.func (.via 0 ⟨[]⟩ 0 true) a0 ⟨[.slice (some ⟨0,a1,none⟩) a2 7]⟩),(.func (.via 0 ⟨[]⟩ 0 true) a3 ⟨[.slice (some ⟨0,a4,none⟩) a5 5]⟩),(.func (.via 0 ⟨[]⟩ 0 true) a6 ⟨[.slice (some ⟨0,a7,none⟩) a8 1]⟩),(.int .i64 a9),(.int .i64 a10)]⟩),(.int .i64 a11)]⟩ h=>(match Nat.beq g 94 with | true=>some (⟨a0,a1,a2,a3,a4,a5,a6,a7,a8,a9,a10,a11⟩,h) | false=>none)
  | _=>none
def alt94 (x:A94)(h:Hp):AT:=.br (F94_ok x.a0 x.a1 x.a2 x.a3 x.a4 x.a5 x.a6 x.a7 x.a8 x.a9 x.a10 x.a11) (.leaf (.ret (.agg ⟨[(.int .i64 (F94_0 x.a0 x.a1 x.a2 x.a3 x.a4 x.a5 x.a6 x.a7 x.a8 x.a9 x.a10 x.a11)),(.int .i64 (F94_1 x.a0 x.a1 x.a2 x.a3 x.a4 x.a5 x.a6 x.a7 x.a8 x.a9 x.a10 x.a11))]⟩) h)) .no
def p94:Ans:=fnAns dec94 alt94
theorem ha94:∀(x:A94) (h:Hp)(o:Out),(alt94 x h).out=some o→∃r,(rt94 x.a0 x.a1 x.a2 x.a3 x.a4 x.a5 x.a6 x.a7 x.a8 x.a9 x.a10 x.a11).val=some r∧o=.ret (en94 r) h:=by
  intro x h o e
  unfold alt94 at e
  cases hF:F94 x.a0 x.a1 x.a2 x.a3 x.a4 x.a5 x.a6 x.a7 x.a8 x.a9 x.a10 x.a11 with
  | none=>simp [F94_ok,hF,AT.out]at e
  | some r =>
    refine ⟨r,hF,?_⟩
    simp only [F94_ok,F94_0,F94_1,hF,AT.out,Option.isSome_some,cond_true,Option.some.injEq]at e
    rw [← e];rfl
theorem hd94:∀(t:Task) (x:A94)(h:Hp),dec94 t=some (x,h)→t=.call 94 ⟨[(.agg ⟨[(lstV x.a0 x.a1 x.a2 7),(lstV x.a3 x.a4 x.a5 5),(lstV x.a6 x.a7 x.a8 1),(.int .i64 x.a9),(.int .i64 x.a10)]⟩),(.int .i64 x.a11)]⟩ h:=by
  intro t x h e
  unfold dec94 at e
  split at e
  case h_2=>cases e
  split at e
  case h_2=>cases e
  rename_i hg
  simp only [Option.some.injEq,Prod.mk.injEq]at e
  obtain ⟨rfl,rfl⟩:=e
  rw [Nat.eq_of_beq_eq_true hg]
theorem known94:Known Try.prog p94:=by
  exact Known.fn noNG mixed (Known.nothing Try.prog) (n:=60) (zs:=[0]) 94 (fun x:A94=>[(.agg ⟨[(lstV x.a0 x.a1 x.a2 7),(lstV x.a3 x.a4 x.a5 5),(lstV x.a6 x.a7 x.a8 1),(.int .i64 x.a9),(.int .i64 x.a10)]⟩),(.int .i64 x.a11)]) (fun x=>rt94 x.a0 x.a1 x.a2 x.a3 x.a4 x.a5 x.a6 x.a7 x.a8 x.a9 x.a10 x.a11) en94 (fun x=>T94  x.a0 x.a1 x.a2 x.a3 x.a4 x.a5 x.a6 x.a7 x.a8 x.a9 x.a10 x.a11) (fun x=>rfl) dec94 alt94 hd94 ha94
structure R80 where
  (r0 r1:Int)
  (r2 r3 r4:Int)
structure A80 where
  (a0:Array Value)
  (a1 a2:Nat)
  (a3:Array Value)
  (a4 a5:Nat)
  (a6:Array Value)
  (a7 a8:Nat)
  (a9 a10:Int)
  (a11 a12 a13:Int)
def rt80 (a0:Array Value)(a1 a2:Nat)(a3:Array Value)(a4 a5:Nat)(a6:Array Value)(a7 a8:Nat)(a9 a10:Int)(a11 a12 a13:Int):RT R80 :=
  .br (decide (a11<(0:Int))) (.leaf ⟨(0:Int),(0:Int),(0:Int),(0:Int),(4:Int)⟩) (.br (decide ((Int.ofNat a8)≤a11)) (.leaf ⟨(0:Int),(0:Int),(0:Int),(0:Int),(4:Int)⟩) (.br (F94_ok a0 a1 a2 a3 a4 a5 a6 a7 a8 a9 a10 a11) (.br (F91_ok (F94_0 a0 a1 a2 a3 a4 a5 a6 a7 a8 a9 a10 a11) (F94_1 a0 a1 a2 a3 a4 a5 a6 a7 a8 a9 a10 a11) a12 a13) (.br (not (F91_0 (F94_0 a0 a1 a2 a3 a4 a5 a6 a7 a8 a9 a10 a11) (F94_1 a0 a1 a2 a3 a4 a5 a6 a7 a8 a9 a10 a11) a12 a13)) (.leaf ⟨(0:Int),(0:Int),(0:Int),(0:Int),(7:Int)⟩) (.leaf ⟨(F94_0 a0 a1 a2 a3 a4 a5 a6 a7 a8 a9 a10 a11),(F94_1 a0 a1 a2 a3 a4 a5 a6 a7 a8 a9 a10 a11),a12,a13,(0:Int)⟩)) (.no)) (.no)))
def en80 (r:R80):Value:=(.tuple ⟨[(.agg ⟨[(.int .i64 r.r0),(.int .i64 r.r1),(.int .i64 r.r2),(.int .i64 r.r3)]⟩),(.int .i64 r.r4)]⟩)
theorem T80  (a0:Array Value) (a1 a2:Nat) (a3:Array Value) (a4 a5:Nat) (a6:Array Value) (a7 a8:Nat) (a9 a10:Int) (a11 a12 a13:Int):evC Try.prog (Ans.c (p91.or p94)) 60 (.call 80 ⟨[(.agg ⟨[(lstV a0 a1 a2 7),(lstV a3 a4 a5 5),(lstV a6 a7 a8 1),(.int .i64 a9),(.int .i64 a10)]⟩),(.int .i64 a11),(.int .i64 a12),(.int .i64 a13)]⟩ ⟨[],0,[]⟩) (frzK [0,0])=(rt80 a0 a1 a2 a3 a4 a5 a6 a7 a8 a9 a10 a11 a12 a13).out (fun r=>.ret (en80 r) ⟨[],0,[]⟩):=by kernel_rfl
def F80 (a0:Array Value)(a1 a2:Nat)(a3:Array Value)(a4 a5:Nat)(a6:Array Value)(a7 a8:Nat)(a9 a10:Int)(a11 a12 a13:Int):Option R80:=(rt80 a0 a1 a2 a3 a4 a5 a6 a7 a8 a9 a10 a11 a12 a13).val
section
variable (a0:Array Value) (a1 a2:Nat) (a3:Array Value) (a4 a5:Nat) (a6:Array Value) (a7 a8:Nat) (a9 a10:Int) (a11 a12 a13:Int)
def F80_ok:Bool:=(F80 a0 a1 a2 a3 a4 a5 a6 a7 a8 a9 a10 a11 a12 a13).isSome
def F80_0:Int:=match F80 a0 a1 a2 a3 a4 a5 a6 a7 a8 a9 a10 a11 a12 a13 with | some r=>r.r0 | none=>0
def F80_1:Int:=match F80 a0 a1 a2 a3 a4 a5 a6 a7 a8 a9 a10 a11 a12 a13 with | some r=>r.r1 | none=>0
def F80_2:Int:=match F80 a0 a1 a2 a3 a4 a5 a6 a7 a8 a9 a10 a11 a12 a13 with | some r=>r.r2 | none=>0
def F80_3:Int:=match F80 a0 a1 a2 a3 a4 a5 a6 a7 a8 a9 a10 a11 a12 a13 with | some r=>r.r3 | none=>0
def F80_4:Int:=match F80 a0 a1 a2 a3 a4 a5 a6 a7 a8 a9 a10 a11 a12 a13 with | some r=>r.r4 | none=>0
end
def dec80:Task→Option (A80×Hp)
  | .call g ⟨[(.agg ⟨[(.func (.via 0 ⟨[]⟩ 0 true) a0 ⟨[.slice (some ⟨0,a1,none⟩) a2 7]⟩),(.func (.via 0 ⟨[]⟩ 0 true) a3 ⟨[.slice (some ⟨0,a4,none⟩) a5 5]⟩),(.func (.via 0 ⟨[]⟩ 0 true) a6 ⟨[.slice (some ⟨0,a7,none⟩) a8 1]⟩),(.int .i64 a9),(.int .i64 a10)]⟩),(.int .i64 a11),(.int .i64 a12),(.int .i64 a13)]⟩ h=>(match Nat.beq g 80 with | true=>some (⟨a0,a1,a2,a3,a4,a5,a6,a7,a8,a9,a10,a11,a12,a13⟩,h) | false=>none)
  | _=>none
def alt80 (x:A80)(h:Hp):AT:=.br (F80_ok x.a0 x.a1 x.a2 x.a3 x.a4 x.a5 x.a6 x.a7 x.a8 x.a9 x.a10 x.a11 x.a12 x.a13) (.leaf (.ret (.tuple ⟨[(.agg ⟨[(.int .i64 (F80_0 x.a0 x.a1 x.a2 x.a3 x.a4 x.a5 x.a6 x.a7 x.a8 x.a9 x.a10 x.a11 x.a12 x.a13)),(.int .i64 (F80_1 x.a0 x.a1 x.a2 x.a3 x.a4 x.a5 x.a6 x.a7 x.a8 x.a9 x.a10 x.a11 x.a12 x.a13)),(.int .i64 (F80_2 x.a0 x.a1 x.a2 x.a3 x.a4 x.a5 x.a6 x.a7 x.a8 x.a9 x.a10 x.a11 x.a12 x.a13)),(.int .i64 (F80_3 x.a0 x.a1 x.a2 x.a3 x.a4 x.a5 x.a6 x.a7 x.a8 x.a9 x.a10 x.a11 x.a12 x.a13))]⟩),(.int .i64 (F80_4 x.a0 x.a1 x.a2 x.a3 x.a4 x.a5 x.a6 x.a7 x.a8 x.a9 x.a10 x.a11 x.a12 x.a13))]⟩) h)) .no
def p80:Ans:=fnAns dec80 alt80
theorem ha80:∀(x:A80) (h:Hp)(o:Out),(alt80 x h).out=some o→∃r,(rt80 x.a0 x.a1 x.a2 x.a3 x.a4 x.a5 x.a6 x.a7 x.a8 x.a9 x.a10 x.a11 x.a12 x.a13).val=some r∧o=.ret (en80 r) h:=by
  intro x h o e
  unfold alt80 at e
  cases hF:F80 x.a0 x.a1 x.a2 x.a3 x.a4 x.a5 x.a6 x.a7 x.a8 x.a9 x.a10 x.a11 x.a12 x.a13 with
  | none=>simp [F80_ok,hF,AT.out]at e
  | some r =>
    refine ⟨r,hF,?_⟩
    simp only [F80_ok,F80_0,F80_1,F80_2,F80_3,F80_4,hF,AT.out,Option.isSome_some,cond_true,Option.some.injEq]at e
    rw [← e];rfl
theorem hd80:∀(t:Task) (x:A80)(h:Hp),dec80 t=some (x,h)→t=.call 80 ⟨[(.agg ⟨[(lstV x.a0 x.a1 x.a2 7),(lstV x.a3 x.a4 x.a5 5),(lstV x.a6 x.a7 x.a8 1),(.int .i64 x.a9),(.int .i64 x.a10)]⟩),(.int .i64 x.a11),(.int .i64 x.a12),(.int .i64 x.a13)]⟩ h:=by
  intro t x h e
  unfold dec80 at e
  split at e
  case h_2=>cases e
  split at e
  case h_2=>cases e
  rename_i hg
  simp only [Option.some.injEq,Prod.mk.injEq]at e
  obtain ⟨rfl,rfl⟩:=e
  rw [Nat.eq_of_beq_eq_true hg]
theorem known80:Known Try.prog p80:=by
  exact Known.fn noNG mixed (Known.or known91 known94) (n:=60) (zs:=[0,0]) 80 (fun x:A80=>[(.agg ⟨[(lstV x.a0 x.a1 x.a2 7),(lstV x.a3 x.a4 x.a5 5),(lstV x.a6 x.a7 x.a8 1),(.int .i64 x.a9),(.int .i64 x.a10)]⟩),(.int .i64 x.a11),(.int .i64 x.a12),(.int .i64 x.a13)]) (fun x=>rt80 x.a0 x.a1 x.a2 x.a3 x.a4 x.a5 x.a6 x.a7 x.a8 x.a9 x.a10 x.a11 x.a12 x.a13) en80 (fun x=>T80  x.a0 x.a1 x.a2 x.a3 x.a4 x.a5 x.a6 x.a7 x.a8 x.a9 x.a10 x.a11 x.a12 x.a13) (fun x=>rfl) dec80 alt80 hd80 ha80
end
end Go.Proofs.Ytfnogghclaijlaa
namespace Go.Proofs.Ytfnogghclaijlaa
open Go.Gi Go.RowKit Go.Proofs.Ytfnogghclaijlaa.Old
noncomputable section
set_option maxRecDepth 100000
theorem F74_eq (a:Int):F74 a=some ⟨decide (0≤a)&&decide (a≤100000)⟩:=by
  unfold F74 rt74
  by_cases h:0≤a<;>simp [RT.val,h]
theorem F74_ok_eq (a:Int):F74_ok a=true:=by simp [F74_ok,F74_eq]
theorem F74_0_eq (a:Int):F74_0 a=(decide (0≤a)&&decide (a≤100000)):=by simp [F74_0,F74_eq]
theorem F91_eq (a b c d:Int):F91 a b c d=some ⟨(decide (0≤c)&&decide (c≤100000))&&(decide (0≤d)&&decide (d≤100000))⟩:=by
  unfold F91 rt91
  by_cases h:(decide (0≤c)&&decide (c≤100000))=true<;>simp [RT.val,F74_ok_eq,F74_0_eq,h]
theorem F91_ok_eq (a b c d:Int):F91_ok a b c d=true:=by simp [F91_ok,F91_eq]
theorem F91_0_eq (a b c d:Int):F91_0 a b c d=((decide (0≤c)&&decide (c≤100000))&&(decide (0≤d)&&decide (d≤100000))):=by simp [F91_0,F91_eq]
theorem rdOk_int1 {c:Array Value}{i:Nat}(h:rdOk c L1 i=true):isInt .i64 c i=true:=by
  simpa [rdOk,rdLeaf] using h
def wLo (c:Array Value)(k:Int):Int:=if 0<k then getInt c (k-1).toNat else 0
def wHi (c:Array Value)(k:Int):Int:=IntKind.wrap .i64 (getInt c k.toNat-1)
theorem GL.int {c:Array Value}{n i:Nat}(g:GL L1 1 c n) (h:i<n):isInt .i64 c i=true:=by
  have:=g.good.2 i h
  simp only [Nat.zero_add,show L1.length=1 from rfl,Nat.mul_one]at this
  exact rdOk_int1 this
theorem F94_eq {c1 c2 c3:Array Value}{n1 n2 n3:Nat}{age shear k:Int}(g:GL L1 1 c3 n3) (h0:0≤k) (h1:k<(n3:Int)):F94 c1 0 n1 c2 0 n2 c3 0 n3 age shear k=some ⟨wLo c3 k,wHi c3 k⟩:=by
  have hm:maxLen=9223372036854775807:=rfl
  have hf:=g.few
  have hk:isInt .i64 c3 k.toNat=true:=g.int (by omega)
  unfold F94 rt94 wLo wHi
  by_cases h:0<k
  · have hw:IntKind.wrap .i64 (k-1)=k-1:=wrap64_id (by omega) (by omega)
    have h2:(1:Int)≤k:=by omega
    have h3:k-1<(n3:Int):=by omega
    have hk1:isInt .i64 c3 (k.toNat-1)=true:=g.int (by omega)
    simp [RT.val,h,hw,h2,h3,hk,hk1,h0,h1]
  · simp [RT.val,h,h0,h1,hk]
theorem F94_of {c1 c2 c3:Array Value}{n1 n2 n3:Nat}{age shear k:Int}(g:GL L1 1 c3 n3) (h0:0≤k) (h1:k<(n3:Int)) :
    F94_ok c1 0 n1 c2 0 n2 c3 0 n3 age shear k=true∧F94_0 c1 0 n1 c2 0 n2 c3 0 n3 age shear k=wLo c3 k∧F94_1 c1 0 n1 c2 0 n2 c3 0 n3 age shear k=wHi c3 k:=by
  have h:=F94_eq (c1:=c1) (c2:=c2) (n1:=n1) (n2:=n2) (age:=age) (shear:=shear) g h0 h1
  exact ⟨by simp [F94_ok,h],by simp [F94_0,h],by simp [F94_1,h]⟩
def qErr (n3:Nat)(k x y:Int):Int :=
  if k<0∨(n3:Int)≤k then 4 else if ((decide (0≤x)&&decide (x≤100000))&&(decide (0≤y)&&decide (y≤100000)))=true then 0 else 7
theorem F80_eq {c1 c2 c3:Array Value}{n1 n2 n3:Nat}{age shear k x y:Int}(g:GL L1 1 c3 n3):F80 c1 0 n1 c2 0 n2 c3 0 n3 age shear k x y =
    some (if qErr n3 k x y=0 then ⟨wLo c3 k,wHi c3 k,x,y,0⟩ else ⟨0,0,0,0,qErr n3 k x y⟩):=by
  unfold F80 rt80 qErr
  by_cases h0:k<0
  · simp [RT.val,h0]
  · by_cases h1:(n3:Int)≤k
    · simp [RT.val,h0,h1]
    · obtain ⟨k1,k2,k3⟩:=F94_of (c1:=c1) (c2:=c2) (n1:=n1) (n2:=n2) (age:=age) (shear:=shear) (k:=k) g (by omega) (by omega)
      by_cases h2:((decide (0≤x)&&decide (x≤100000))&&(decide (0≤y)&&decide (y≤100000)))=true
      · simp only [RT.val,h0,h1,k1,k2,k3,F91_ok_eq,F91_0_eq,h2,decide_false,cond_false,cond_true,or_self,if_false,if_true,Bool.not_true,Int.ofNat_eq_natCast]
      · rw [Bool.not_eq_true]at h2
        simp [RT.val,h0,h1,k1,k2,k3,F91_ok_eq,F91_0_eq,h2]
section
variable {c0 c c3:Array Value}{n n2 n3:Nat}{age shear lo hi tick now:Int}
theorem arrF0 {o1 o2:Ob}(h:0<n):arrOf (some ⟨0,0,none⟩) [obF n c0,o1,o2]=c0:=by
  have e1:obF n c0=.cells c0 true:=by unfold obF;rw [if_neg (by omega)]
  rw [e1];rfl
theorem arrF1 {o0 o2:Ob}(h:0<n2):arrOf (some ⟨1,0,none⟩) [o0,obF n2 c,o2]=c:=by
  have e1:obF n2 c=.cells c true:=by unfold obF;rw [if_neg (by omega)]
  rw [e1];rfl
theorem arrF2 {o0 o1:Ob}(h:0<n3):arrOf (some ⟨2,0,none⟩) [o0,o1,obF n3 c3]=c3:=by
  have e1:obF n3 c3=.cells c3 true:=by unfold obF;rw [if_neg (by omega)]
  rw [e1];rfl
theorem vld (g1:GL L7 7 c0 n)(g2:GL L5 5 c n2)(g3:GL L1 1 c3 n3)(h:F20_2 c0 0 n c 0 n2 c3 0 n3 age shear=0) :
    Vld c0 0 n c 0 n2 age shear∧(1≤n3∧n3≤20)∧∀k,k<n3→1≤getInt c3 k∧getInt c3 k≤100000000:=by
  have hz:=ck_zero (show ck3 (some ⟨0,0,none⟩) (some ⟨1,0,none⟩) (some ⟨2,0,none⟩) n n2 n3 age shear [obF n c0,obF n2 c,obF n3 c3]=0 from h)
  have hcut:∀k,k<n3→1≤getInt c3 k∧getInt c3 k≤100000000:=fun k hk=>by
    have:=hz.cut k hk
    rw [arrF2 (by omega)]at this
    have:=cut_of this
    rw [show offOf (some (Addr.mk 2 0 none))+k=k from Nat.zero_add k]at this
    exact this
  have hsrc:∀k,k<n→srcE c0 0 k=0:=fun k hk=>by
    have:=hz.src k hk
    rw [arrF0 (by omega)]at this
    exact this
  have hsnd:∀k,k<n2→∃a0,sdE a0 0 n c 0 k=0∧(0<n→a0=c0):=fun k hk=>by
    have:=hz.snd k hk
    rw [arrF1 (by omega)]at this
    exact ⟨_,this,fun hn=>arrF0 hn⟩
  have hsnd':∀k,k<n2→sdE c0 0 n c 0 k=0:=fun k hk=>by
    obtain ⟨a0,h1,h2⟩:=hsnd k hk
    have h3:=snd_of h1
    rw [← h2 (by omega)]
    exact h1
  have hsn:∀k,k<n2→(getInt c (0+k*5)).toNat<n:=fun k hk=>by
    have:=snd_of (hsnd' k hk)
    omega
  refine ⟨⟨g1.good,g2.good,hz.few,hz.few2,hz.age,hz.shear,fun k hk=>?_,fun k hk=>?_,fun k hk=>?_,fun k hk=>?_,fun k hk=>?_,fun i hi=>?_,fun i hi=>?_,fun i hi=>?_⟩,⟨hz.some3,hz.few3⟩,hcut⟩
  · exact ⟨(snd_of (hsnd' k hk)).1,(snd_of (hsnd' k hk)).2.1⟩
  · have:=snd_of (hsnd' k hk);exact ⟨this.2.2.1,this.2.2.2.1⟩
  · have h1:=snd_of (hsnd' k hk)
    have h2:=src_of (hsrc _ (hsn k hk))
    exact ⟨Int.le_trans h2.2.2.2.2.2.2.1 h1.2.2.2.2.1,Int.le_trans h1.2.2.2.2.2.1 h2.2.2.2.2.2.2.2.2.2⟩
  · have:=snd_of (hsnd' k hk);exact ⟨this.2.2.2.2.2.2.1,this.2.2.2.2.2.2.2.1⟩
  · have:=snd_of (hsnd' k hk);exact ⟨this.2.2.2.2.2.2.2.2.1,this.2.2.2.2.2.2.2.2.2⟩
  · have:=src_of (hsrc i hi);exact ⟨this.1,this.2.1⟩
  · have:=src_of (hsrc i hi);exact ⟨this.2.2.1,this.2.2.2.1⟩
  · have:=src_of (hsrc i hi);exact ⟨this.2.2.2.2.1,this.2.2.2.2.2.1⟩
theorem qst {k x y:Int}(hcut:∀k,k<n3→1≤getInt c3 k∧getInt c3 k≤100000000) (h:qErr n3 k x y=0):Qst (wLo c3 k) (wHi c3 k) x y:=by
  unfold qErr at h
  split at h
  · omega
  rename_i h1
  split at h
  · rename_i h2
    simp only [Bool.and_eq_true,decide_eq_true_eq]at h2
    have hk:=hcut k.toNat (by omega)
    refine ⟨?_,?_,by omega,by omega⟩
    · unfold wLo
      split
      · have:=hcut (k-1).toNat (by omega);omega
      · omega
    · unfold wHi
      rw [wrap64_id (by omega) (by omega)];omega
  · omega
end
theorem F83_two (a b x y:Int):F83 ⟨[.int .i64 a,.int .i64 b,.int .i64 x,.int .i64 y]⟩ 0 2=some ⟨decide (b<a)||decide (y<x)⟩:=by
  have w0:IntKind.wrap .i64 1=1:=by decide
  have w1:IntKind.wrap .i64 2=2:=by decide
  have hL:L83_0 ⟨⟨[.int .i64 a,.int .i64 b,.int .i64 x,.int .i64 y]⟩,0,2,2,0⟩=some (if (decide (b<a)||decide (y<x))=true then .k0 true else .k1):=by
    unfold L83_0
    by_cases h:b<a
    · rw [if_pos (by simp [h])]
      refine loopR_done ?_
      simp [rd83_0,RT.val,rdOk,rdLeaf,isInt,getInt,lget,h]
    · refine (loopR_next (y:=⟨⟨[.int .i64 a,.int .i64 b,.int .i64 x,.int .i64 y]⟩,0,2,2,1⟩) ?_).trans ?_
      · simp [rd83_0,RT.val,rdOk,rdLeaf,isInt,getInt,lget,h,w0]
      · by_cases h2:y<x
        · rw [if_pos (by simp [h2])]
          refine loopR_done ?_
          simp [rd83_0,RT.val,rdOk,rdLeaf,isInt,getInt,lget,h2]
        · rw [if_neg (by simp [h,h2])]
          refine (loopR_next (y:=⟨⟨[.int .i64 a,.int .i64 b,.int .i64 x,.int .i64 y]⟩,0,2,2,2⟩) ?_).trans ?_
          · simp [rd83_0,RT.val,rdOk,rdLeaf,isInt,getInt,lget,h2,w1]
          · refine loopR_done ?_
            simp [rd83_0,RT.val]
  unfold F83 rt83
  have e:L83_0 ⟨⟨[.int .i64 a,.int .i64 b,.int .i64 x,.int .i64 y]⟩,0,2,Int.ofNat 2,0⟩=_:=hL
  by_cases h:(decide (b<a)||decide (y<x))=true
  · rw [if_pos h]at e
    simp only [RT.val,eqCode_self,L83_0_k0,Qa0,L83_0_k1,e,cond_true,h]
  · rw [if_neg h]at e
    rw [Bool.not_eq_true]at h
    simp only [RT.val,eqCode_self,L83_0_k0,Qa0,L83_0_k1,e,cond_true,cond_false,h]
end
end Go.Proofs.Ytfnogghclaijlaa
namespace Go.Proofs.Ytfnogghclaijlaa
open Go.Gi Go.RowKit Go.Proofs.Ytfnogghclaijlaa.Old
noncomputable section
def arrI (L:List Int):Array Value:=⟨L.map (Value.int .i64)⟩
def encI (L:List Int):Option (Array Value×Nat):=match L with
  | []=>none
  | a::r=>some (arrI (a::r),(a::r).length)
theorem apB_arrI (L:List Int)(v:Int):apB (Array.extract (arrI L) 0 (0+(L.length*1))) (Array.extract ⟨[(Value.int .i64 v)]⟩ 0 1)=arrI (L++[v]):=by
  simp only [apB,arrI,Nat.zero_add,Nat.mul_one,List.extract_toArray,List.map_append,List.map_cons,List.map_nil]
  simp [List.take_of_length_le]
theorem allFz_arrI (L:List Int):allFz (arrI L)=true:=by
  simp only [allFz,arrI,List.all_map]
  exact List.all_eq_true.2 fun x _=>rfl
theorem size_arrI (L:List Int):(arrI L).size=L.length:=by simp [arrI]
theorem isInt_arrI (L:List Int) {i:Nat}(h:i<L.length):isInt .i64 (arrI L) (0+i)=true:=by
  simp [isInt,arrI,lget_eq,h]
end
end Go.Proofs.Ytfnogghclaijlaa
namespace Go.Proofs.Ytfnogghclaijlaa
open Go.Gi Go.RowKit Go.Proofs.Ytfnogghclaijlaa.Old
noncomputable section
set_option maxRecDepth 100000
theorem F83_of (a b x y:Int):F83_ok ⟨[.int .i64 a,.int .i64 b,.int .i64 x,.int .i64 y]⟩ 0 2=true∧F83_0 ⟨[.int .i64 a,.int .i64 b,.int .i64 x,.int .i64 y]⟩ 0 2=(decide (b<a)||decide (y<x)):=by
  have h:=F83_two a b x y
  exact ⟨by simp [F83_ok,h],by simp [F83_0,h]⟩
theorem F121_eq (i:Int):F121_0 i=i:=by simp [F121_0,F121,rt121,RT.val]
section
variable {c0 c c3:Array Value}{n n2 n3:Nat}{age shear lo hi tick now:Int}
def emp (h:Hd):Bool:=decide (h.xh<h.xl)||decide (h.yh<h.yl)
def cul (c0 c:Array Value)(n2:Nat)(age shear lo hi tick now:Int):Nat→Nat→List Int
  | 0,_=>[]
  | m+1,k=>if emp (all c0 c n2 age shear lo hi tick now (chB 128 (k:Int)))=true then cul c0 c n2 age shear lo hi tick now m (k+1) else (k:Int)::cul c0 c n2 age shear lo hi tick now m (k+1)
theorem loop89 (hv:Vld c0 0 n c 0 n2 age shear)(hok:F81ok c0 0 n c 0 n2 c3 0 n3 age shear lo hi tick now=true):∀(m k:Nat) (L:List Int),k+m=n→L.length≤k →
    loopR rd89_0
      ⟨encI L,(n:Int),(k:Int),c0,0,n,c,0,n2,c3,0,n3,age,shear,lo,hi,tick,now⟩ =
    some (.k0 (arrI (L++cul c0 c n2 age shear lo hi tick now m k)) 0 (L++cul c0 c n2 age shear lo hi tick now m k).length c0 0 n c 0 n2 c3 0 n3 age shear lo hi tick now)
  | 0,k,L,e,hl=>loopR_done (by
      obtain rfl:k=n:=by omega
      have h1:¬((k:Int)<(k:Int)):=by omega
      cases L with
      | nil=>simp only [rd89_0,encI,RT.val,h1,decide_false,cond_false];rfl
      | cons a r =>
        simp only [rd89_0,encI,RT.val,h1,decide_false,cond_false,cond_true,allFz_arrI,size_arrI,Nat.zero_add,Nat.mul_one,Nat.le_refl,decide_true,Bool.and_self,cul,List.append_nil])
  | m+1,k,L,e,hl=>by
    have hm:n≤6:=hv.few
    have hki:(k:Int)<(n:Int):=by omega
    have h3:IntKind.wrap .i64 ((k:Int)+1)=((k+1:Nat):Int):=by rw [wrap64_id (by omega) (by omega)];omega
    obtain ⟨f1,f2,f3,f4⟩:=F81_of (c3:=c3) (off3:=0) (n3:=n3) (lo:=lo) (hi:=hi) (tick:=tick) (now:=now) (g:=128) (q:=(k:Int)) hv
    by_cases he:emp (all c0 c n2 age shear lo hi tick now (chB 128 (k:Int)))=true
    · rw [show cul c0 c n2 age shear lo hi tick now (m+1) k=cul c0 c n2 age shear lo hi tick now m (k+1) from by rw [cul,if_pos he]]
      refine (loopR_next ?_).trans (loop89 hv hok m (k+1) L (by omega) (by omega))
      unfold emp at he
      cases L with
      | nil=>simp only [rd89_0,encI,RT.val,hki,hok,F121_eq,f1,f2,f3,f4,(F83_of _ _ _ _).1,(F83_of _ _ _ _).2,arrEq_self,decide_true,Bool.and_self,cond_true,he,Bool.not_true,cond_false,h3]
      | cons a r=>simp only [rd89_0,encI,RT.val,hki,hok,F121_eq,f1,f2,f3,f4,(F83_of _ _ _ _).1,(F83_of _ _ _ _).2,arrEq_self,decide_true,Bool.and_self,cond_true,he,Bool.not_true,cond_false,h3,allFz_arrI]
    · rw [show cul c0 c n2 age shear lo hi tick now (m+1) k=(k:Int)::cul c0 c n2 age shear lo hi tick now m (k+1) from by rw [cul,if_neg he]]
      rw [show L++(k:Int)::cul c0 c n2 age shear lo hi tick now m (k+1)=(L++[(k:Int)])++cul c0 c n2 age shear lo hi tick now m (k+1) from by simp]
      refine (loopR_next ?_).trans (loop89 hv hok m (k+1) (L++[(k:Int)]) (by omega) (by simp;omega))
      unfold emp at he
      rw [Bool.not_eq_true]at he
      cases L with
      | nil =>
        simp only [rd89_0,encI,RT.val,hki,hok,F121_eq,f1,f2,f3,f4,(F83_of _ _ _ _).1,(F83_of _ _ _ _).2,arrEq_self,decide_true,Bool.and_self,cond_true,he,Bool.not_false,cond_false,h3]
        rfl
      | cons a r =>
        have hb:=apB_arrI (a::r) (k:Int)
        have hl1:((a::r).length+1)*8≤140737488355328∧(a::r).length+1≤4611686018427387904∧0+(a::r).length*1≤(arrI (a::r)).size:=by rw [size_arrI];omega
        simp only [rd89_0,encI,RT.val,hki,hok,F121_eq,f1,f2,f3,f4,(F83_of _ _ _ _).1,(F83_of _ _ _ _).2,arrEq_self,decide_true,Bool.and_self,cond_true,he,Bool.not_false,cond_false,h3,hb,allFz_arrI,hl1.1,hl1.2.1,hl1.2.2]
        simp [encI]
end
end
end Go.Proofs.Ytfnogghclaijlaa
namespace Go.Proofs.Ytfnogghclaijlaa
open Go.Gi Go.RowKit Go.Proofs.Ytfnogghclaijlaa.Old
noncomputable section
set_option maxRecDepth 100000
set_option maxHeartbeats 4000000
structure R38 where
  (r0:Array Value)
  (r1 r2:Nat)
  (r3:Bool)
  (r4:Int)
structure A38 where
  (a0:Array Value)
  (a1 a2:Nat)
  (a3:Array Value)
  (a4 a5:Nat)
  (a6:Array Value)
  (a7 a8:Nat)
  (a9 a10:Int)
  (a11 a12 a13:Int)
def rt38 (a0:Array Value)(a1 a2:Nat)(a3:Array Value)(a4 a5:Nat)(a6:Array Value)(a7 a8:Nat)(a9 a10:Int)(a11 a12 a13:Int):RT R38 :=
  .br (F20_ok a0 a1 a2 a3 a4 a5 a6 a7 a8 a9 a10) (.br (not (decide ((F20_2 a0 a1 a2 a3 a4 a5 a6 a7 a8 a9 a10)=(0:Int)))) (.leaf ⟨⟨[]⟩,0,0,false,(F20_2 a0 a1 a2 a3 a4 a5 a6 a7 a8 a9 a10)⟩) (.br (F80_ok a0 a1 a2 a3 a4 a5 a6 a7 a8 a9 a10 a11 a12 a13) (.br (not (decide ((F80_4 a0 a1 a2 a3 a4 a5 a6 a7 a8 a9 a10 a11 a12 a13)=(0:Int)))) (.leaf ⟨⟨[]⟩,0,0,false,(F80_4 a0 a1 a2 a3 a4 a5 a6 a7 a8 a9 a10 a11 a12 a13)⟩) (.br (F81ok a0 a1 a2 a3 a4 a5 a6 a7 a8 a9 a10 (F80_0 a0 a1 a2 a3 a4 a5 a6 a7 a8 a9 a10 a11 a12 a13) (F80_1 a0 a1 a2 a3 a4 a5 a6 a7 a8 a9 a10 a11 a12 a13) (F80_2 a0 a1 a2 a3 a4 a5 a6 a7 a8 a9 a10 a11 a12 a13) (F80_3 a0 a1 a2 a3 a4 a5 a6 a7 a8 a9 a10 a11 a12 a13))
 (.br (F83_ok ⟨[(.int .i64 (F81xl 88 (0:Int) a0 a1 a2 a3 a4 a5 a6 a7 a8 a9 a10 (F80_0 a0 a1 a2 a3 a4 a5 a6 a7 a8 a9 a10 a11 a12 a13) (F80_1 a0 a1 a2 a3 a4 a5 a6 a7 a8 a9 a10 a11 a12 a13) (F80_2 a0 a1 a2 a3 a4 a5 a6 a7 a8 a9 a10 a11 a12 a13) (F80_3 a0 a1 a2 a3 a4 a5 a6 a7 a8 a9 a10 a11 a12 a13))),(.int .i64 (F81xh 88 (0:Int) a0 a1 a2 a3 a4 a5 a6 a7 a8 a9 a10 (F80_0 a0 a1 a2 a3 a4 a5 a6 a7 a8 a9 a10 a11 a12 a13) (F80_1 a0 a1 a2 a3 a4 a5 a6 a7 a8 a9 a10 a11 a12 a13) (F80_2 a0 a1 a2 a3 a4 a5 a6 a7 a8 a9 a10 a11 a12 a13) (F80_3 a0 a1 a2 a3 a4 a5 a6 a7 a8 a9 a10 a11 a12 a13))),(.int .i64 (F81yl 88 (0:Int) a0 a1 a2 a3 a4 a5 a6 a7 a8 a9 a10 (F80_0 a0 a1 a2 a3 a4 a5 a6 a7 a8 a9 a10 a11 a12 a13) (F80_1 a0 a1 a2 a3 a4 a5 a6 a7 a8 a9 a10 a11 a12 a13) (F80_2 a0 a1 a2 a3 a4 a5 a6 a7 a8 a9 a10 a11 a12 a13) (F80_3 a0 a1 a2 a3 a4 a5 a6 a7 a8 a9 a10 a11 a12 a13))),(.int .i64 (F81yh 88 (0:Int) a0 a1 a2 a3 a4 a5 a6 a7 a8 a9 a10 (F80_0 a0 a1 a2 a3 a4 a5 a6 a7 a8 a9 a10 a11 a12 a13) (F80_1 a0 a1 a2 a3 a4 a5 a6 a7 a8 a9 a10 a11 a12 a13) (F80_2 a0 a1 a2 a3 a4 a5 a6 a7 a8 a9 a10 a11 a12 a13) (F80_3 a0 a1 a2 a3 a4 a5 a6 a7 a8 a9 a10 a11 a12 a13)))]⟩ 0 2)
 (.br (not (F83_0 ⟨[(.int .i64 (F81xl 88 (0:Int) a0 a1 a2 a3 a4 a5 a6 a7 a8 a9 a10 (F80_0 a0 a1 a2 a3 a4 a5 a6 a7 a8 a9 a10 a11 a12 a13) (F80_1 a0 a1 a2 a3 a4 a5 a6 a7 a8 a9 a10 a11 a12 a13) (F80_2 a0 a1 a2 a3 a4 a5 a6 a7 a8 a9 a10 a11 a12 a13) (F80_3 a0 a1 a2 a3 a4 a5 a6 a7 a8 a9 a10 a11 a12 a13))),(.int .i64 (F81xh 88 (0:Int) a0 a1 a2 a3 a4 a5 a6 a7 a8 a9 a10 (F80_0 a0 a1 a2 a3 a4 a5 a6 a7 a8 a9 a10 a11 a12 a13) (F80_1 a0 a1 a2 a3 a4 a5 a6 a7 a8 a9 a10 a11 a12 a13) (F80_2 a0 a1 a2 a3 a4 a5 a6 a7 a8 a9 a10 a11 a12 a13) (F80_3 a0 a1 a2 a3 a4 a5 a6 a7 a8 a9 a10 a11 a12 a13))),(.int .i64 (F81yl 88 (0:Int) a0 a1 a2 a3 a4 a5 a6 a7 a8 a9 a10 (F80_0 a0 a1 a2 a3 a4 a5 a6 a7 a8 a9 a10 a11 a12 a13) (F80_1 a0 a1 a2 a3 a4 a5 a6 a7 a8 a9 a10 a11 a12 a13) (F80_2 a0 a1 a2 a3 a4 a5 a6 a7 a8 a9 a10 a11 a12 a13) (F80_3 a0 a1 a2 a3 a4 a5 a6 a7 a8 a9 a10 a11 a12 a13))),(.int .i64 (F81yh 88 (0:Int) a0 a1 a2 a3 a4 a5 a6 a7 a8 a9 a10 (F80_0 a0 a1 a2 a3 a4 a5 a6 a7 a8 a9 a10 a11 a12 a13) (F80_1 a0 a1 a2 a3 a4 a5 a6 a7 a8 a9 a10 a11 a12 a13) (F80_2 a0 a1 a2 a3 a4 a5 a6 a7 a8 a9 a10 a11 a12 a13) (F80_3 a0 a1 a2 a3 a4 a5 a6 a7 a8 a9 a10 a11 a12 a13)))]⟩ 0 2)) (.leaf ⟨⟨[]⟩,0,0,true,(0:Int)⟩)
 (.br (F89_ok a0 a1 a2 a3 a4 a5 a6 a7 a8 a9 a10 (F80_0 a0 a1 a2 a3 a4 a5 a6 a7 a8 a9 a10 a11 a12 a13) (F80_1 a0 a1 a2 a3 a4 a5 a6 a7 a8 a9 a10 a11 a12 a13) (F80_2 a0 a1 a2 a3 a4 a5 a6 a7 a8 a9 a10 a11 a12 a13) (F80_3 a0 a1 a2 a3 a4 a5 a6 a7 a8 a9 a10 a11 a12 a13)) (.leaf ⟨(F89_0 a0 a1 a2 a3 a4 a5 a6 a7 a8 a9 a10 (F80_0 a0 a1 a2 a3 a4 a5 a6 a7 a8 a9 a10 a11 a12 a13) (F80_1 a0 a1 a2 a3 a4 a5 a6 a7 a8 a9 a10 a11 a12 a13) (F80_2 a0 a1 a2 a3 a4 a5 a6 a7 a8 a9 a10 a11 a12 a13) (F80_3 a0 a1 a2 a3 a4 a5 a6 a7 a8 a9 a10 a11 a12 a13)),(F89_1 a0 a1 a2 a3 a4 a5 a6 a7 a8 a9 a10 (F80_0 a0 a1 a2 a3 a4 a5 a6 a7 a8 a9 a10 a11 a12 a13) (F80_1 a0 a1 a2 a3 a4 a5 a6 a7 a8 a9 a10 a11 a12 a13) (F80_2 a0 a1 a2 a3 a4 a5 a6 a7 a8 a9 a10 a11 a12 a13) (F80_3 a0 a1 a2 a3 a4 a5 a6 a7 a8 a9 a10 a11 a12 a13)),(F89_2 a0 a1 a2 a3 a4 a5 a6 a7 a8 a9 a10 (F80_0 a0 a1 a2 a3 a4 a5 a6 a7 a8 a9 a10 a11 a12 a13) (F80_1 a0 a1 a2 a3 a4 a5 a6 a7 a8 a9 a10 a11 a12 a13) (F80_2 a0 a1 a2 a3 a4 a5 a6 a7 a8 a9 a10 a11 a12 a13) (F80_3 a0 a1 a2 a3 a4 a5 a6 a7 a8 a9 a10 a11 a12 a13)),false,(0:Int)⟩) (.no))) (.no)) (.no))) (.no))) (.no)
def en38 (r:R38):Value:=(.tuple ⟨[(lstV r.r0 r.r1 r.r2 1),(.bool r.r3),(.int .i64 r.r4)]⟩)
theorem T38  (a0:Array Value) (a1 a2:Nat) (a3:Array Value) (a4 a5:Nat) (a6:Array Value) (a7 a8:Nat) (a9 a10:Int) (a11 a12 a13:Int):evC Try.prog (Ans.c ((p20V 20).or (p80.or (p81V.or (p83.or (p88.or p89)))))) 60 (.call 38 ⟨[(.agg ⟨[(lstV a0 a1 a2 7),(lstV a3 a4 a5 5),(lstV a6 a7 a8 1),(.int .i64 a9),(.int .i64 a10)]⟩),(.int .i64 a11),(.int .i64 a12),(.int .i64 a13)]⟩ ⟨[],0,[]⟩) (frzK [1,0,0])=(rt38 a0 a1 a2 a3 a4 a5 a6 a7 a8 a9 a10 a11 a12 a13).out (fun r=>.ret (en38 r) ⟨[],0,[]⟩):=by kernel_rfl
def F38 (a0:Array Value)(a1 a2:Nat)(a3:Array Value)(a4 a5:Nat)(a6:Array Value)(a7 a8:Nat)(a9 a10:Int)(a11 a12 a13:Int):Option R38:=(rt38 a0 a1 a2 a3 a4 a5 a6 a7 a8 a9 a10 a11 a12 a13).val
section
variable (a0:Array Value) (a1 a2:Nat) (a3:Array Value) (a4 a5:Nat) (a6:Array Value) (a7 a8:Nat) (a9 a10:Int) (a11 a12 a13:Int)
def F38_ok:Bool:=(F38 a0 a1 a2 a3 a4 a5 a6 a7 a8 a9 a10 a11 a12 a13).isSome
def F38_0:Array Value:=match F38 a0 a1 a2 a3 a4 a5 a6 a7 a8 a9 a10 a11 a12 a13 with | some r=>r.r0 | none=>#[]
def F38_1:Nat:=match F38 a0 a1 a2 a3 a4 a5 a6 a7 a8 a9 a10 a11 a12 a13 with | some r=>r.r1 | none=>0
def F38_2:Nat:=match F38 a0 a1 a2 a3 a4 a5 a6 a7 a8 a9 a10 a11 a12 a13 with | some r=>r.r2 | none=>0
def F38_3:Bool:=match F38 a0 a1 a2 a3 a4 a5 a6 a7 a8 a9 a10 a11 a12 a13 with | some r=>r.r3 | none=>false
def F38_4:Int:=match F38 a0 a1 a2 a3 a4 a5 a6 a7 a8 a9 a10 a11 a12 a13 with | some r=>r.r4 | none=>0
end
def dec38:Task→Option (A38×Hp)
  | .call g ⟨[(.agg ⟨[(.func (.via 0 ⟨[]⟩ 0 true) a0 ⟨[.slice (some ⟨0,a1,none⟩) a2 7]⟩),(.func (.via 0 ⟨[]⟩ 0 true) a3 ⟨[.slice (some ⟨0,a4,none⟩) a5 5]⟩),(.func (.via 0 ⟨[]⟩ 0 true) a6 ⟨[.slice (some ⟨0,a7,none⟩) a8 1]⟩),(.int .i64 a9),(.int .i64 a10)]⟩),(.int .i64 a11),(.int .i64 a12),(.int .i64 a13)]⟩ h=>(match Nat.beq g 38 with | true=>some (⟨a0,a1,a2,a3,a4,a5,a6,a7,a8,a9,a10,a11,a12,a13⟩,h) | false=>none)
  | _=>none
def alt38 (x:A38)(h:Hp):AT:=.br (F38_ok x.a0 x.a1 x.a2 x.a3 x.a4 x.a5 x.a6 x.a7 x.a8 x.a9 x.a10 x.a11 x.a12 x.a13) (.leaf (.ret (.tuple ⟨[(lstV (F38_0 x.a0 x.a1 x.a2 x.a3 x.a4 x.a5 x.a6 x.a7 x.a8 x.a9 x.a10 x.a11 x.a12 x.a13) (F38_1 x.a0 x.a1 x.a2 x.a3 x.a4 x.a5 x.a6 x.a7 x.a8 x.a9 x.a10 x.a11 x.a12 x.a13) (F38_2 x.a0 x.a1 x.a2 x.a3 x.a4 x.a5 x.a6 x.a7 x.a8 x.a9 x.a10 x.a11 x.a12 x.a13) 1),(.bool (F38_3 x.a0 x.a1 x.a2 x.a3 x.a4 x.a5 x.a6 x.a7 x.a8 x.a9 x.a10 x.a11 x.a12 x.a13)),(.int .i64 (F38_4 x.a0 x.a1 x.a2 x.a3 x.a4 x.a5 x.a6 x.a7 x.a8 x.a9 x.a10 x.a11 x.a12 x.a13))]⟩) h)) .no
def p38:Ans:=fnAns dec38 alt38
theorem ha38:∀(x:A38) (h:Hp)(o:Out),(alt38 x h).out=some o→∃r,(rt38 x.a0 x.a1 x.a2 x.a3 x.a4 x.a5 x.a6 x.a7 x.a8 x.a9 x.a10 x.a11 x.a12 x.a13).val=some r∧o=.ret (en38 r) h:=by
  intro x h o e
  unfold alt38 at e
  cases hF:F38 x.a0 x.a1 x.a2 x.a3 x.a4 x.a5 x.a6 x.a7 x.a8 x.a9 x.a10 x.a11 x.a12 x.a13 with
  | none=>simp [F38_ok,hF,AT.out]at e
  | some r =>
    refine ⟨r,hF,?_⟩
    simp only [F38_ok,F38_0,F38_1,F38_2,F38_3,F38_4,hF,AT.out,Option.isSome_some,cond_true,Option.some.injEq]at e
    rw [← e];rfl
theorem hd38:∀(t:Task) (x:A38)(h:Hp),dec38 t=some (x,h)→t=.call 38 ⟨[(.agg ⟨[(lstV x.a0 x.a1 x.a2 7),(lstV x.a3 x.a4 x.a5 5),(lstV x.a6 x.a7 x.a8 1),(.int .i64 x.a9),(.int .i64 x.a10)]⟩),(.int .i64 x.a11),(.int .i64 x.a12),(.int .i64 x.a13)]⟩ h:=by
  intro t x h e
  unfold dec38 at e
  split at e
  case h_2=>cases e
  split at e
  case h_2=>cases e
  rename_i hg
  simp only [Option.some.injEq,Prod.mk.injEq]at e
  obtain ⟨rfl,rfl⟩:=e
  rw [Nat.eq_of_beq_eq_true hg]
theorem known38:Known Try.prog p38:=by
  exact Known.fn noNG mixed (Known.or (known20V (known20v known20)) (Known.or known80 (Known.or known81V (Known.or known83 (Known.or known88 known89))))) (n:=60) (zs:=[1,0,0]) 38 (fun x:A38=>[(.agg ⟨[(lstV x.a0 x.a1 x.a2 7),(lstV x.a3 x.a4 x.a5 5),(lstV x.a6 x.a7 x.a8 1),(.int .i64 x.a9),(.int .i64 x.a10)]⟩),(.int .i64 x.a11),(.int .i64 x.a12),(.int .i64 x.a13)]) (fun x=>rt38 x.a0 x.a1 x.a2 x.a3 x.a4 x.a5 x.a6 x.a7 x.a8 x.a9 x.a10 x.a11 x.a12 x.a13) en38 (fun x=>T38  x.a0 x.a1 x.a2 x.a3 x.a4 x.a5 x.a6 x.a7 x.a8 x.a9 x.a10 x.a11 x.a12 x.a13) (fun x=>rfl) dec38 alt38 hd38 ha38
end
end Go.Proofs.Ytfnogghclaijlaa
namespace Go.Gi
open Go.RowKit
noncomputable section
def bodyOp (P:Program)(self:Self)(rd:Option Nat)(o:Oper)(s:St)(K:St→Option Out):Option Out :=
  match aop P (evalT s.t) s.h o with
  | some (.val v h)=>putK s.t o.dst v fun t=>forceH o.op h fun h=>K { s with t:=t,h:=h }
  | some (.enter f args) =>
    match self (.call f args s.h) with
    | some (.ret v h)=>putK s.t o.dst v fun t=>forceH o.op h fun h=>K { s with t:=t,h:=h }
    | some (.pan v h)=>some (.ex (.panic v) { s with h:=h })
    | _=>none
  | some (.yield l args) =>
    match self (.round l args s.h) with
    | some (.ret v h)=>putK s.t o.dst v fun t=>forceH o.op h fun h=>K { s with t:=t,h:=h }
    | _=>none
  | some (.defer d)=>if rd.isNone then putK s.t o.dst undef fun t=>K { t:=t,d:=d::s.d,h:=s.h } else none
  | some (.panic v)=>some (.ex (.panic v) s)
  | _=>none
theorem runOps_cons {P:Program}{self:Self}{rd:Option Nat}{os:Array Oper}{i:Nat}{r:List Nat}{s:St}:runOps P self rd os (i::r) s =
    match os[i]? with
    | none=>runOps P self rd os r s
    | some o=>if wantedT os s.t o then bodyOp P self rd o s (runOps P self rd os r) else putK s.t o.dst undef fun t=>runOps P self rd os r { s with t:=t }:=rfl
structure OC (x:Operand) where
  f:List Value→Value
  ok:∀T,f T=evalT T x
def cO (x:Operand):OC x :=
  match x with
  | .tmp n=>⟨fun T=>lget T n,fun _=>rfl⟩
  | .const v=>⟨fun _=>v,fun _=>rfl⟩
  | .global g=>⟨fun _=>.pointer (some ⟨g,0,none⟩),fun _=>rfl⟩
  | .func f=>⟨fun _=>.func (.func f) #[] #[],fun _=>rfl⟩
def forceW {β:Type}(v:Value) (k:Value→β):β :=
  match v with
  | .bool b=>k (.bool b)
  | .int q n=>k (.int q n)
  | .string s=>k (.string s)
  | .pointer a=>k (.pointer a)
  | .slice a l c=>k (.slice a l c)
  | .map a=>k (.map a)
  | .agg cs=>k (.agg cs)
  | .tuple cs=>k (.tuple cs)
  | .func f a b=>k (.func f a b)
  | .nilFunc=>k .nilFunc
  | .nilIface=>k .nilIface
  | v=>k v
theorem forceW_eq {β:Type}(v:Value) (k:Value→β):forceW v k=k v:=by cases v<;>rfl
def asI {β:Type}(v:Value) (k:IntKind→Int→β) (e:β):β:=match v with | .int q n=>k q n | _=>e
def asB {β:Type}(v:Value) (kt kf e:β):β:=match v with | .bool b=>Bool.rec (motive:=fun _=>β) kf kt b | _=>e
abbrev R:=Option Out
structure QC (P:Program) (o:Oper) where
  f:List Value→List Ob→(Value→R)→R→R
  ok:∀T H k e,(∃v,aread P (evalT T) H o=some v∧f T H k e=k v)∨f T H k e=e
def qNone (P:Program)(o:Oper):QC P o:=⟨fun _ _ _ e=>e,fun _ _ _ _=>.inr rfl⟩
def qRead (P:Program)(o:Oper):QC P o :=
  ⟨fun T H k e=>match aread P (evalT T) H o with | some v=>forceV v k | none=>e,fun T H k e=>by
    cases h:aread P (evalT T) H o with
    | none=>exact .inr rfl
    | some v=>exact .inl ⟨v,rfl,forceV_eq v k⟩⟩
def qMove (P:Program)(o:Oper)(x:Operand)(h:∀T H,aread P (evalT T) H o=some (evalT T x)):QC P o :=
  ⟨fun T _ k _=>forceW ((cO x).f T) k,fun T H k e=>.inl ⟨_,h T H,by rw [forceW_eq,(cO x).ok]⟩⟩
def qPick (P:Program)(o:Oper)(c a b:Operand)(ho:o.op=.pick c a b)(hok:(okO c&&okO a&&okO b)=true):QC P o :=
  ⟨fun T _ k e=>asB ((cO c).f T) (forceW ((cO a).f T) k) (forceW ((cO b).f T) k) e,fun T H k e=>by
    rw [(cO c).ok,(cO a).ok,(cO b).ok,forceW_eq,forceW_eq]
    unfold asB
    split
    · rename_i t ht
      left
      refine ⟨if t then evalT T a else evalT T b,?_,?_⟩
      · unfold aread;rw [ho];simp only;rw [if_pos hok,ht]
      · cases t<;>rfl
    · exact .inr rfl⟩
def iLt (a b:Int):Bool:=match a,b with | .ofNat m,.ofNat n=>Nat.blt m n | a,b=>decide (a<b)
theorem iLt_eq (a b:Int):iLt a b=decide (a<b):=by
  unfold iLt
  split
  · rename_i m n
    rw [Bool.eq_iff_iff]
    simp [Nat.blt_eq]
  · rfl
def iEq (a b:Int):Bool:=match a,b with | .ofNat m,.ofNat n=>Nat.beq m n | a,b=>decide (a=b)
theorem iEq_eq (a b:Int):iEq a b=decide (a=b):=by
  unfold iEq
  split
  · rename_i m n
    rw [Bool.eq_iff_iff]
    simp [Int.ofNat_inj]
  · rfl
def retB (k:Value→R)(b:Bool):R:=Bool.rec (motive:=fun _=>R) (k (.bool false)) (k (.bool true)) b
theorem retB_eq (k:Value→R)(b:Bool):retB k b=k (.bool b):=by cases b<;>rfl
def retI (k:Value→R)(q:IntKind)(n:Int):R:=forceI (q.wrap n) fun n=>k (.int q n)
def cmpI (op:BinOp):Option (Int→Int→Bool) :=
  match op with
  | .eql=>some fun a b=>iEq a b
  | .neq=>some fun a b=>!iEq a b
  | .lss=>some fun a b=>iLt a b
  | .leq=>some fun a b=>!iLt b a
  | .gtr=>some fun a b=>iLt b a
  | .geq=>some fun a b=>!iLt a b
  | _=>none
theorem cmpI_eq {op:BinOp}{g:Int→Int→Bool}(h:cmpI op=some g) (q:IntKind) (a b:Int):fastBin op (.int q a) (.int q b)=some (.bool (g a b)):=by
  cases op<;>simp only [cmpI,Option.some.injEq]at h<;>first | (cases h;done) | skip
  all_goals
    subst h
    simp only [fastBin,if_true,iLt_eq,iEq_eq]
    try (congr 2<;>(rw [Bool.eq_iff_iff];simp<;>omega))
def numI (op:BinOp):Option (Int→Int→Int) :=
  match op with
  | .add=>some fun a b=>a+b
  | .sub=>some fun a b=>a-b
  | .mul=>some fun a b=>a*b
  | _=>none
theorem numI_eq {op:BinOp}{g:Int→Int→Int}(h:numI op=some g) (q:IntKind) (a b:Int):fastBin op (.int q a) (.int q b)=some (.int q (q.wrap (g a b))):=by
  cases op<;>simp only [numI,Option.some.injEq]at h<;>first | (cases h;done) | skip
  all_goals
    subst h
    simp only [fastBin,if_true]
theorem aread_bin {P:Program}{T:List Value}{H:List Ob}{o:Oper}{op:BinOp}{t:TypeId}{x y:Operand} {t':TypeId}{q:IntKind}{a b:Int}{v:Value}
    (ho:o.op=.binOp op t x y t') (hok:(okO x&&okO y)=true) (hx:evalT T x=.int q a) (hy:evalT T y=.int q b) (hf:fastBin op (.int q a) (.int q b)=some v):aread P (evalT T) H o=some v:=by
  unfold aread
  rw [ho]
  simp only
  rw [hx,hy,hf]
  simp only [gr,gA,g0,Bool.and_true]
  rw [if_pos hok]
def qCmp (P:Program)(o:Oper)(op:BinOp)(t:TypeId)(x y:Operand) (t':TypeId)(g:Int→Int→Bool)(ho:o.op=.binOp op t x y t')(hok:(okO x&&okO y)=true)(hg:cmpI op=some g):QC P o :=
  ⟨fun T _ k e=>asI ((cO x).f T) (fun q a=>asI ((cO y).f T) (fun q' b=>if q=q' then retB k (g a b) else e) e) e,fun T H k e=>by
    rw [(cO x).ok,(cO y).ok]
    unfold asI
    split
    · rename_i q a hx
      split
      · rename_i q' b hy
        show (∃v,aread P (evalT T) H o=some v∧(if q=q' then _ else e)=k v)∨(if q=q' then _ else e)=e
        by_cases hq:q=q'
        · subst hq
          rw [if_pos rfl]
          exact .inl ⟨_,aread_bin ho hok hx hy (cmpI_eq hg q a b),retB_eq _ _⟩
        · rw [if_neg hq];exact .inr rfl
      · exact .inr rfl
    · exact .inr rfl⟩
def qNum (P:Program)(o:Oper)(op:BinOp)(t:TypeId)(x y:Operand) (t':TypeId)(g:Int→Int→Int)(ho:o.op=.binOp op t x y t')(hok:(okO x&&okO y)=true)(hg:numI op=some g):QC P o :=
  ⟨fun T _ k e=>asI ((cO x).f T) (fun q a=>asI ((cO y).f T) (fun q' b=>if q=q' then retI k q (g a b) else e) e) e,fun T H k e=>by
    rw [(cO x).ok,(cO y).ok]
    unfold asI
    split
    · rename_i q a hx
      split
      · rename_i q' b hy
        show (∃v,aread P (evalT T) H o=some v∧(if q=q' then _ else e)=k v)∨(if q=q' then _ else e)=e
        by_cases hq:q=q'
        · subst hq
          rw [if_pos rfl]
          exact .inl ⟨_,aread_bin ho hok hx hy (numI_eq hg q a b),by unfold retI;rw [forceI_eq]⟩
        · rw [if_neg hq];exact .inr rfl
      · exact .inr rfl
    · exact .inr rfl⟩
def qOne (P:Program)(o:Oper)(x:Operand)(g:List Ob→Value→Option Value)(h:∀T H v,g H (evalT T x)=some v→aread P (evalT T) H o=some v):QC P o :=
  ⟨fun T H k e=>match g H ((cO x).f T) with | some v=>forceV v k | none=>e,fun T H k e=>by
    rw [(cO x).ok]
    split
    · rename_i v hv;exact .inl ⟨v,h T H v hv,forceV_eq v k⟩
    · exact .inr rfl⟩
def mapC:List Operand→List Value→(List Value→R)→R
  | [],_,k=>k []
  | x::r,T,k=>forceW ((cO x).f T) fun v=>mapC r T fun l=>k (v::l)
theorem mapC_eq (T:List Value):∀(l:List Operand) (k:List Value→R),mapC l T k=k (l.map (evalT T))
  | [],_=>rfl
  | x::r,k=>by simp only [mapC,forceW_eq,mapC_eq T r,(cO x).ok,List.map_cons]
theorem if_some {c:Prop} [Decidable c] {a:Option Value}{v:Value}(h:(if c then a else none)=some v):c∧a=some v:=by
  by_cases hc:c
  · rw [if_pos hc]at h;exact ⟨hc,h⟩
  · rw [if_neg hc]at h;cases h
theorem okO_const (v:Value):okO (.const v)=gr v:=rfl
theorem ev_const (T:List Value)(v:Value):evalT T (.const v)=v:=rfl
def memo (P:Program)(o:Oper)(k:Value→R)(e:R):R:=match aread P (evalT []) [] o with | some v=>forceV v k | none=>e
theorem memo_ok {P:Program}{o:Oper}{k:Value→R}{e:R}:(∃v,aread P (evalT []) [] o=some v∧memo P o k e=k v)∨memo P o k e=e:=by
  unfold memo
  cases h:aread P (evalT []) [] o with
  | none=>exact .inr rfl
  | some v=>exact .inl ⟨v,rfl,forceV_eq v k⟩
def qUn (P:Program)(o:Oper)(u:UnOp)(t:TypeId)(x:Operand)(ho:o.op=.unOp u t x)(hx:okO x=true):QC P o :=
  ⟨fun T _ k e=>forceW ((cO x).f T) fun v=>memo P { o with op:=.unOp u t (.const v) } k e,fun T H k e=>by
    rw [forceW_eq,(cO x).ok]
    rcases memo_ok (P:=P) (o:={ o with op:=.unOp u t (.const (evalT T x)) }) (k:=k) (e:=e) with ⟨v,h1,h2⟩ | h
    · refine .inl ⟨v,?_,h2⟩
      obtain ⟨dst,op,type,pos,after,guard⟩:=o
      simp only at ho;subst ho
      simp only [aread,okO_const,ev_const]at h1
      simp only [aread,hx,Bool.true_and]
      obtain ⟨hg,h1⟩:=if_some h1
      simp only [Bool.and_eq_true]at hg
      rw [if_pos hg.2];exact h1
    · exact .inr h⟩
def qIdx (P:Program)(o:Oper)(t:TypeId)(x y:Operand)(ho:o.op=.index t x y)(hx:(okO x&&okO y)=true):QC P o :=
  ⟨fun T _ k e=>forceW ((cO x).f T) fun v=>forceW ((cO y).f T) fun u=>memo P { o with op:=.index t (.const v) (.const u) } k e,fun T H k e=>by
    rw [forceW_eq,forceW_eq,(cO x).ok,(cO y).ok]
    rcases memo_ok (P:=P) (o:={ o with op:=.index t (.const (evalT T x)) (.const (evalT T y)) }) (k:=k) (e:=e) with ⟨v,h1,h2⟩ | h
    · refine .inl ⟨v,?_,h2⟩
      obtain ⟨dst,op,type,pos,after,guard⟩:=o
      simp only at ho;subst ho
      simp only [aread,okO_const,ev_const]at h1
      simp only [aread,hx,Bool.true_and]
      obtain ⟨hg,h1⟩:=if_some h1
      simp only [Bool.and_eq_true]at hg
      rw [if_pos (by simp [hg.1.2,hg.2])];exact h1
    · exact .inr h⟩
def divOp (b:BinOp):Bool:=match b with | .quo | .rem=>true | _=>false
def qDiv (P:Program)(o:Oper)(b:BinOp)(t:TypeId)(x y:Operand) (t':TypeId)(ho:o.op=.binOp b t x y t')(hx:(okO x&&okO y)=true)(hb:divOp b=true):QC P o :=
  ⟨fun T _ k e=>forceW ((cO x).f T) fun v=>forceW ((cO y).f T) fun u=>memo P { o with op:=.binOp b t (.const v) (.const u) t' } k e,fun T H k e=>by
    rw [forceW_eq,forceW_eq,(cO x).ok,(cO y).ok]
    rcases memo_ok (P:=P) (o:={ o with op:=.binOp b t (.const (evalT T x)) (.const (evalT T y)) t' }) (k:=k) (e:=e) with ⟨v,h1,h2⟩ | h
    · refine .inl ⟨v,?_,h2⟩
      obtain ⟨dst,op,type,pos,after,guard⟩:=o
      simp only at ho;subst ho
      simp only [aread,okO_const,ev_const]at h1
      simp only [aread,hx,Bool.true_and]
      obtain ⟨hg,h1⟩:=if_some h1
      simp only [Bool.and_eq_true]at hg
      rw [if_pos (by simp [hg.1.2,hg.2])]
      cases b<;>first | (cases hb;done) | exact h1
    · exact .inr h⟩
def mmOp (b:Builtin):Bool:=match b with | .max | .min | .len=>true | _=>false
def qMm (P:Program)(o:Oper)(b:Builtin)(args:Array Operand)(ts:Array TypeId)(ho:o.op=.call { callee:=.builtin b,args:=args,argTypes:=ts })(hx:args.toList.all okO=true)(hb:mmOp b=true):QC P o :=
  ⟨fun T _ k e=>mapC args.toList T fun l=>memo P { o with op:=.call { callee:=.builtin b,args:=⟨l.map .const⟩,argTypes:=ts } } k e,fun T H k e=>by
    rw [mapC_eq]
    rcases memo_ok (P:=P) (o:={ o with op:=.call { callee:=.builtin b,args:=⟨(args.toList.map (evalT T)).map .const⟩,argTypes:=ts } }) (k:=k) (e:=e) with ⟨v,h1,h2⟩ | h
    · refine .inl ⟨v,?_,h2⟩
      obtain ⟨dst,op,type,pos,after,guard⟩:=o
      simp only at ho;subst ho
      simp only [aread]at h1
      simp only [aread,hx,if_true]
      have e1:(List.map Operand.const (List.map (evalT T) args.toList)).all okO=args.toList.all fun x=>gr (evalT T x):=by
        rw [List.all_map,List.all_map];rfl
      have e2:((List.map Operand.const (List.map (evalT T) args.toList)).all fun x=>gr (evalT [] x))=args.toList.all fun x=>gr (evalT T x):=by
        rw [List.all_map,List.all_map];rfl
      rw [e1,e2]at h1
      split at h1
      · rename_i hg
        rw [hg]at h1 ⊢
        have e3:(⟨(args.toList.map (evalT T)).map .const⟩:Array Operand).map (evalT [])=args.map (evalT T):=by
          apply Array.ext'
          simp [evalT]
        cases b<;>first | (cases hb;done) | skip
        all_goals
          simp only [numB,Bool.and_self,if_true]at h1 ⊢
          simp only [execOp,resolve,e3]at h1 ⊢
          exact h1
      · cases h1
    · exact .inr h⟩
def qLoad (P:Program)(o:Oper)(t:TypeId)(x:Operand)(ho:o.op=.load t x)(hx:okO x=true):QC P o :=
  ⟨fun T H k e=>loadK P H t ((cO x).f T) k (fun v=>forceW v k) e,fun T H k e=>by
    rw [show (fun v=>forceW v k)=k from funext fun v=>forceW_eq v k,(cO x).ok]
    rcases loadK_ok (P:=P) (H:=H) (t:=t) (v:=evalT T x) (k:=k) (e:=e) with ⟨u,h1,h2⟩ | h
    · exact .inl ⟨u,by unfold aread;rw [ho];simp only;rw [if_pos hx];exact h1,h2⟩
    · exact .inr h⟩
def cQ (P:Program)(o:Oper):QC P o :=
  match ho:o.op with
  | .move x=>if hx:okO x=true then qMove P o x (fun T H=>by unfold aread;rw [ho];simp only;rw [if_pos hx]) else qNone P o
  | .assign x=>if hx:okO x=true then qMove P o x (fun T H=>by unfold aread;rw [ho];simp only;rw [if_pos hx]) else qNone P o
  | .pick c a b=>if h:(okO c&&okO a&&okO b)=true then qPick P o c a b ho h else qNone P o
  | .binOp op t x y t' =>
    if h:(okO x&&okO y)=true then
      match hg:cmpI op with
      | some g=>qCmp P o op t x y t' g ho h hg
      | none=>match hg:numI op with
        | some g=>qNum P o op t x y t' g ho h hg
        | none=>if hb:divOp op=true then qDiv P o op t x y t' ho h hb else qRead P o
    else qNone P o
  | .load t x=>if hx:okO x=true then qLoad P o t x ho hx else qNone P o
  | .fieldAddr s x f=>if hx:okO x=true then qOne P o x (fun _ v=>rFieldAddr P s f v) (fun T H v hv=>by unfold aread;rw [ho];simp only;rw [if_pos hx];exact hv) else qNone P o
  | .field t x f=>if hx:okO x=true then qOne P o x (fun _ v=>rField P t f v) (fun T H v hv=>by unfold aread;rw [ho];simp only;rw [if_pos hx];exact hv) else qNone P o
  | .extract x i=>if hx:okO x=true then qOne P o x (fun _ v=>rExtract i v) (fun T H v hv=>by unfold aread;rw [ho];simp only;rw [if_pos hx];exact hv) else qNone P o
  | .alloc _ | .box _ _ | .buildSlice _ _ _ | .store _ _ _ | .makeMap _ _ | .mapUpdate _ _ _ _ | .defer _ | .panic _=>qNone P o
  | .call { callee:=.value _,.. }=>qNone P o
  | .call { callee:=.builtin b,args:=args,argTypes:=ts } =>
    if hb:mmOp b=true then if hx:args.toList.all okO=true then qMm P o b args ts ho hx hb else qRead P o else qRead P o
  | .unOp u t x=>if hx:okO x=true then qUn P o u t x ho hx else qNone P o
  | .index t x y=>if hx:(okO x&&okO y)=true then qIdx P o t x y ho hx else qNone P o
  | _=>qRead P o
structure BC (P:Program) (o:Oper) where
  run:Self→Option Nat→St→(St→R)→R
  ok:∀self rd s K,run self rd s K=bodyOp P self rd o s K
def bQuiet (P:Program)(o:Oper)(q:QC P o):BC P o :=
  match hd:o.dst with
  | none=>⟨fun self rd s K=>q.f s.t s.h.bl (fun _=>K s) (bodyOp P self rd o s K),fun self rd s K=>by
      rcases q.ok s.t s.h.bl (fun _=>K s) (bodyOp P self rd o s K) with ⟨v,h1,h2⟩ | h
      · rw [h2];unfold bodyOp aop;rw [h1];simp only [putK_eq,forceH_eq,hd,put]
      · exact h⟩
  | some d=>⟨fun self rd s K=>q.f s.t s.h.bl (fun v=>lsetK s.t d v fun t=>K ⟨t,s.d,s.h⟩) (bodyOp P self rd o s K),fun self rd s K=>by
      rcases q.ok s.t s.h.bl (fun v=>lsetK s.t d v fun t=>K ⟨t,s.d,s.h⟩) (bodyOp P self rd o s K) with ⟨v,h1,h2⟩ | h
      · rw [h2];unfold bodyOp aop;rw [h1];simp only [putK_eq,forceH_eq,lsetK_eq,hd,put]
      · exact h⟩
def afterCall (dst:Option Tmp)(s:St)(K:St→R)(y:Option Out):R :=
  match y with
  | some (.ret v h)=>putK s.t dst v fun t=>forceS h.bl fun bl=>forceN h.base fun base=>K ⟨t,s.d,⟨bl,base,h.wr⟩⟩
  | some (.pan v h)=>some (.ex (.panic v) { s with h:=h })
  | _=>none
def bCall (P:Program)(o:Oper)(g:FuncId)(args:Array Operand)(ts:Array TypeId)(ho:o.op=.call { callee:=.value (.func g),args:=args,argTypes:=ts })(hok:args.toList.all okO=true)(hb:bodied P g=true):BC P o :=
  ⟨fun self _ s K=>mapC args.toList s.t fun l=>afterCall o.dst s K (self (.call g ⟨l⟩ s.h)),fun self rd s K=>by
    rw [mapC_eq]
    have ha:aop P (evalT s.t) s.h o=some (.enter g ⟨args.toList.map (evalT s.t)⟩):=by
      unfold aop aread aloud
      rw [ho]
      simp only [okO,evalT,hok,hb,Bool.and_self,if_true]
      congr 2
      apply Array.ext'
      simp [Array.toList_map]
    unfold bodyOp afterCall
    rw [ha]
    simp only
    split<;>simp only [putK_eq,forceH_eq,forceS_eq,forceN_eq]⟩
def bStore (P:Program)(o:Oper)(t:TypeId)(a x:Operand)(ho:o.op=.store t a x)(hok:(okO a&&okO x)=true)(hd:o.dst=none):BC P o :=
  ⟨fun self rd s K=>storeK P s.h t ((cO a).f s.t) ((cO x).f s.t) (fun h=>K ⟨s.t,s.d,h⟩) (bodyOp P self rd o s K),fun self rd s K=>by
    rw [(cO a).ok,(cO x).ok]
    rcases storeK_ok (P:=P) (h:=s.h) (t:=t) (x:=evalT s.t a) (v:=evalT s.t x) (k:=fun h=>K ⟨s.t,s.d,h⟩) (e:=bodyOp P self rd o s K) with ⟨h',h1,h2⟩ | h
    · rw [h2]
      have ha:aop P (evalT s.t) s.h o=some (.val undef h'):=by
        unfold aop aread aloud
        rw [ho]
        simp only [hok,if_true,h1,Option.map_some]
      unfold bodyOp
      rw [ha]
      simp only [putK_eq,forceH_eq,hd,put]
    · exact h⟩
def cB (P:Program)(o:Oper):BC P o :=
  match ho:o.op with
  | .call { callee:=.value (.func g),args:=args,argTypes:=ts } =>
    if h:(args.toList.all okO&&bodied P g)=true then bCall P o g args ts ho (Bool.and_eq_true _ _ ▸ h).1 (Bool.and_eq_true _ _ ▸ h).2 else ⟨fun self rd s K=>bodyOp P self rd o s K,fun _ _ _ _=>rfl⟩
  | .store t a x =>
    if h:(okO a&&okO x)=true then (match hd:o.dst with | none=>bStore P o t a x ho h hd | some _=>⟨fun self rd s K=>bodyOp P self rd o s K,fun _ _ _ _=>rfl⟩)
    else ⟨fun self rd s K=>bodyOp P self rd o s K,fun _ _ _ _=>rfl⟩
  | _=>bQuiet P o (cQ P o)
structure SC (P:Program) (os:Array Oper) (o:Oper) where
  run:Self→Option Nat→St→(St→R)→R
  ok:∀self rd s K,run self rd s K=if wantedT os s.t o then bodyOp P self rd o s K else putK s.t o.dst undef fun t=>K { s with t:=t }
def isB (want:Bool)(v:Value):Bool:=match v with | .bool b=>b == want | _=>false
theorem wanted_some {os:Array Oper}{T:List Value}{o:Oper}{j:Nat}{want:Bool}{d:Tmp}(hg:o.guard=some (j,want)) (hd:(os[j]?).bind (·.dst)=some d):wantedT os T o=isB want (lget T d):=by
  unfold wantedT
  rw [hg]
  simp only
  split
  · rename_i d' hd';rw [hd]at hd';cases hd';rfl
  · rename_i hd';rw [hd]at hd';cases hd'
theorem wanted_none {os:Array Oper}{T:List Value}{o:Oper}{j:Nat}{want:Bool}(hg:o.guard=some (j,want)) (hd:(os[j]?).bind (·.dst)=none):wantedT os T o=false:=by
  unfold wantedT
  rw [hg]
  simp only
  split
  · rename_i d' hd';rw [hd]at hd';cases hd'
  · rfl
def cS (P:Program)(os:Array Oper)(o:Oper):SC P os o :=
  match hg:o.guard with
  | none=>⟨(cB P o).run,fun self rd s K=>by rw [(cB P o).ok];unfold wantedT;rw [hg];rfl⟩
  | some (j,want) =>
    match hd:(os[j]?).bind (·.dst) with
    | some d=>⟨fun self rd s K=>Bool.rec (motive:=fun _=>R) (putK s.t o.dst undef fun t=>K { s with t:=t }) ((cB P o).run self rd s K) (isB want (lget s.t d)),fun self rd s K=>by
        rw [(cB P o).ok,wanted_some hg hd]
        cases isB want (lget s.t d)<;>rfl⟩
    | none=>⟨fun _ _ s K=>putK s.t o.dst undef fun t=>K { s with t:=t },fun self rd s K=>by rw [wanted_none hg hd];rfl⟩
structure LC (P:Program) (os:Array Oper) (l:List Nat) where
  run:Self→Option Nat→St→R
  ok:∀self rd s,run self rd s=runOps P self rd os l s
def cL (P:Program)(os:Array Oper)(l:List Nat):LC P os l :=
  List.rec (motive:=fun l=>LC P os l) ⟨fun _ _ s=>some (.ex .normal s),fun _ _ _=>rfl⟩
    (fun i r ih=>match hi:os[i]? with
      | none=>⟨ih.run,fun self rd s=>by rw [ih.ok,runOps_cons,hi]⟩
      | some o=>⟨fun self rd s=>(cS P os o).run self rd s (fun s=>ih.run self rd s),fun self rd s=>by
          rw [(cS P os o).ok,runOps_cons,hi,show (fun s=>ih.run self rd s)=runOps P self rd os r from funext fun s=>ih.ok self rd s]
          simp only [ih.ok]⟩) l
def zSeq (self:Self)(rd:Option Nat)(b:Code):Option Out→R
  | some (.ex .normal s')=>(match self (.code rd b s') with | some (.ex e s2)=>some (.ex e s2) | _=>none)
  | some (.ex e s')=>some (.ex e s')
  | _=>none
def zEx:Option Out→R
  | some (.ex e s')=>some (.ex e s')
  | _=>none
def zBlock (id:Nat):Option Out→R
  | some (.ex (.exit id') s')=>if id'=id then some (.ex .normal s') else some (.ex (.exit id') s')
  | some (.ex e s')=>some (.ex e s')
  | _=>none
def zLoop (self:Self)(rd:Option Nat)(c:Code):Option Out→R
  | some (.ex .normal s')=>zEx (self (.code rd (.loop c) s'))
  | some (.ex e s')=>some (.ex e s')
  | _=>none
def zCond (self:Self)(rd:Option Nat)(x y:Code)(s:St)(v:Value):R :=
  match v with
  | .bool b=>Bool.rec (motive:=fun _=>R) (zEx (self (.code rd y s))) (zEx (self (.code rd x s))) b
  | _=>none
def zCode (drawn:Program→Self→Option Nat→Nat→Array Oper→St→Option Out)(P:Program)(self:Self)(rd:Option Nat)(c:Code)(s:St):R :=
  match c with
  | .seq a b=>zSeq self rd b (self (.code rd a s))
  | .cond c x y=>Bool.rec (motive:=fun _=>R) none (zCond self rd x y s ((cO c).f s.t)) (okO c)
  | .block id c=>zBlock id (self (.code rd c s))
  | .loop c=>zLoop self rd c (self (.code rd c s))
  | .region id os dr=>Bool.rec (motive:=fun _=>R) ((cL P os (List.range os.size)).run self rd s) (drawn P self rd id os s) dr
  | .ret=>some (.ex .ret s)
  | .skip=>some (.ex .normal s)
  | .exit id=>some (.ex (.exit id) s)
  | c=>stepF drawn P self (.code rd c s)
def framed (n:Nat)(l:List Value):List Value :=
  List.rec (motive:=fun _=>Nat→List Value) (fun n=>List.replicate n undef) (fun v _ ih n=>v::ih (n-1)) l n
theorem framed_eq:∀(l:List Value) (n:Nat),framed n l=l++List.replicate (n-l.length) undef
  | [],n=>rfl
  | v::r,n=>by
    show v::framed (n-1) r=_
    rw [framed_eq r (n-1)]
    simp only [List.length_cons,List.cons_append]
    congr 3
    omega
def frameK (n:Nat)(l:List Value):(List Value→R)→R :=
  List.rec (motive:=fun _=>Nat→(List Value→R)→R) (fun n k=>forceN n fun n=>k (List.replicate n undef)) (fun v _ ih n k=>ih (Nat.sub n 1) fun r=>k (v::r)) l n
theorem frameK_eq:∀(l:List Value) (n:Nat) (k:List Value→R),frameK n l k=k (l++List.replicate (n-l.length) undef)
  | [],n,k=>rfl
  | v::r,n,k=>by
    show frameK (n-1) r _=_
    rw [frameK_eq r (n-1)]
    simp only [List.length_cons,List.cons_append]
    congr 4
    omega
def zLeave (P:Program)(self:Self)(fn:Func)(h:Hp):Option Out→R
  | some (.ex .normal s)=>leave P self fn s.t h s.d .returning s.h
  | some (.ex .ret s)=>leave P self fn s.t h s.d .returning s.h
  | some (.ex (.panic v) s)=>leave P self fn s.t h s.d (.panicking v false) s.h
  | _=>none
def zCall (P:Program)(self:Self)(args:Array Value)(h:Hp)(fn:Func)(c:Code):R :=
  frameK fn.ntmps args.toList fun t=>forceN h.bl.length fun n=>zLeave P self fn h (self (.code none c { t:=t,d:=[],h:=⟨h.bl,n,[]⟩ }))
def bodyOf (P:Program)(f:FuncId):Option (Func×Code) :=
  match P.funcs[f]? with
  | some fn=>match fn.body with
    | some c=>some (fn,c)
    | none=>none
  | none=>none
def stepQ (drawn:Program→Self→Option Nat→Nat→Array Oper→St→Option Out)(P:Program)(self:Self)(task:Task):R :=
  match task with
  | .code rd c s=>zCode drawn P self rd c s
  | .call f args h=>(match bodyOf P f with | some (fn,c)=>zCall P self args h fn c | none=>none)
  | .dcall f args m h=>stepF drawn P self (.dcall f args m h)
  | .round l args h=>stepF drawn P self (.round l args h)
theorem stepQ_eq (drawn:Program→Self→Option Nat→Nat→Array Oper→St→Option Out)(P:Program)(self:Self)(task:Task):stepQ drawn P self task=stepF drawn P self task:=by
  cases task with
  | dcall f args m h=>rfl
  | round l args h=>rfl
  | call f args h =>
    simp only [stepQ,stepF,bodyOf]
    cases P.funcs[f]? with
    | none=>rfl
    | some fn =>
      simp only
      cases fn.body with
      | none=>rfl
      | some c =>
        simp only [zCall,frameK_eq,forceN_eq,forceL1_eq,frame,enterH,Array.length_toList]
        generalize self (.code none c _)=y
        unfold zLeave
        rcases y with _ | y
        · rfl
        · cases y with
          | ex e s=>cases e<;>rfl
          | _=>rfl
  | code rd c s =>
    cases c with
    | seq a b =>
      simp only [stepQ,zCode,stepF]
      generalize self (.code rd a s)=y
      rcases y with _ | y
      · rfl
      · cases y with
        | ex e s=>cases e<;>rfl
        | _=>rfl
    | cond c x y =>
      simp only [stepQ,zCode,stepF]
      cases okO c with
      | false=>rfl
      | true =>
        simp only [(cO c).ok,zCond,if_true]
        generalize evalT s.t c=v
        cases v with
        | bool b =>
          cases b with
          | true =>
            simp only
            generalize self (.code rd x s)=y
            rcases y with _ | y
            · rfl
            · cases y<;>rfl
          | false =>
            simp only
            generalize self (.code rd y s)=y
            rcases y with _ | y
            · rfl
            · cases y<;>rfl
        | _=>rfl
    | block id c =>
      simp only [stepQ,zCode,stepF]
      generalize self (.code rd c s)=y
      rcases y with _ | y
      · rfl
      · cases y with
        | ex e s=>cases e<;>rfl
        | _=>rfl
    | loop c =>
      simp only [stepQ,zCode,stepF]
      generalize self (.code rd c s)=y
      rcases y with _ | y
      · rfl
      · cases y with
        | ex e s=>cases e<;>(first | rfl | (simp only [zLoop,zEx];split<;>simp_all))
        | _=>rfl
    | region id os dr =>
      simp only [stepQ,zCode,stepF]
      cases dr with
      | false=>exact (cL P os (List.range os.size)).ok self rd s
      | true=>rfl
    | _=>rfl
def iterQ (drawn:Program→Self→Option Nat→Nat→Array Oper→St→Option Out)(P:Program)(n:Nat):Self :=
  Nat.rec (motive:=fun _=>Self) (fun _=>none) (fun _ ih=>stepQ drawn P ih) n
theorem iterQ_eq (drawn:Program→Self→Option Nat→Nat→Array Oper→St→Option Out)(P:Program):∀n,iterQ drawn P n=iter drawn P n
  | 0=>rfl
  | n+1=>by
    show stepQ drawn P (iterQ drawn P n)=stepF drawn P (iter drawn P n)
    rw [iterQ_eq drawn P n]
    exact funext fun t=>stepQ_eq drawn P _ t
def loudS (o:Oper):Bool :=
  match o.op with
  | .alloc _ | .box _ _ | .buildSlice _ _ _ | .store _ _ _ | .convert _ _ _ | .makeMap _ _ | .mapUpdate _ _ _ _ | .insert _ _ _ _=>true
  | .call { callee:=.builtin b,.. }=>(match b with | .len | .cap | .max | .min=>false | _=>true)
  | .call _=>true
  | _=>false
def dstOk1 (os:Array Oper)(clo:List Nat)(i j:Nat):Bool :=
  i == j||match os[i]?,os[j]? with
    | some a,some b=>(match a.dst with
      | some t=>(b.dst != some t)&&(!(looks os b).contains t||cl clo j i||cl clo i j)
      | none=>true)
    | _,_=>true
def dstOk (os:Array Oper)(clo:List Nat):Bool:=(List.range os.size).all fun i=>(List.range os.size).all fun j=>dstOk1 os clo i j
def need1 (os:Array Oper)(clo:List Nat)(i j:Nat):Bool :=
  match os[i]?,os[j]? with
  | some a,some b=>loudS a&&(loudS b||memOp b.op)&&unord clo i j
  | _,_=>false
def need (os:Array Oper)(clo:List Nat):List (Nat×Nat) :=
  (List.range os.size).flatMap fun i=>((List.range os.size).filter fun j=>need1 os clo i j).map fun j=>(i,j)
def dchkQ (P:Program)(os:Array Oper)(clo:List Nat)(recs:List Rec):Bool :=
  dstOk os clo&&recs.all (fun r=>!r.loud||loudS r.o)&&(need os clo).all fun x=>recs.all fun r=>!(r.i == x.1)||recs.all fun q=>!(q.i == x.2)||pairOk P os clo r q
theorem dchkQ_ok {P:Program}{os:Array Oper}{clo:List Nat}{recs:List Rec}(ho:∀r∈recs,os[r.i]?=some r.o) (h:dchkQ P os clo recs=true):dchk P os clo recs=true:=by
  simp only [dchkQ,Bool.and_eq_true,List.all_eq_true]at h
  obtain ⟨⟨h1,h2⟩,h3⟩:=h
  simp only [dchk,List.all_eq_true]
  intro r hr q hq
  have hri:=ho r hr
  have hqi:=ho q hq
  have hrl:r.i<os.size:=(Array.getElem?_eq_some_iff.1 hri).1
  have hql:q.i<os.size:=(Array.getElem?_eq_some_iff.1 hqi).1
  by_cases hn:need1 os clo r.i q.i=true
  · have hm:(r.i,q.i)∈need os clo:=by
      simp only [need,List.mem_flatMap,List.mem_map,List.mem_filter,List.mem_range]
      exact ⟨r.i,hrl,q.i,⟨hql,hn⟩,rfl⟩
    have:=h3 _ hm r hr
    simp only [beq_self_eq_true,Bool.not_true,Bool.false_or,List.all_eq_true]at this
    have:=this q hq
    simpa using this
  · have hd:dstOk1 os clo r.i q.i=true:=by
      simp only [dstOk,List.all_eq_true,List.mem_range]at h1
      exact h1 r.i hrl q.i hql
    simp only [dstOk1,hri,hqi]at hd
    simp only [need1,hri,hqi]at hn
    unfold pairOk
    cases he:r.i == q.i with
    | true=>rfl
    | false =>
      rw [he,Bool.false_or]at hd
      rw [Bool.false_or,Bool.and_eq_true]
      refine ⟨hd,?_⟩
      have hl1:=h2 r hr
      have hl2:=h2 q hq
      cases hrL:r.loud with
      | false=>rfl
      | true =>
        simp only [hrL,Bool.not_true,Bool.false_or]at hl1
        simp only [hl1,Bool.true_and]at hn
        cases hu:unord clo r.i q.i with
        | false=>simp
        | true =>
          simp only [hu,Bool.and_true,Bool.or_eq_true,not_or,Bool.not_eq_true]at hn
          cases hqL:q.loud with
          | true=>simp only [hqL,hn.1,Bool.not_true,Bool.or_false]at hl2;cases hl2
          | false=>simp [hn.2]
def drawnQ (P:Program)(self:Self)(_:Option Nat)(_:Nat)(os:Array Oper)(s:St):Option Out :=
  if planOk os (Region.linearise .any os 0) (mkClo os (Region.linearise .any os 0) (List.replicate os.size 0)) then
    match drun P self os (Region.linearise .any os 0) s.t s.h with
    | some (recs,T,h)=>if dchkQ P os (mkClo os (Region.linearise .any os 0) (List.replicate os.size 0)) recs then some (.ex .normal { s with t:=T,h:=h }) else none
    | none=>none
  else none
theorem drawnQ_le {P:Program}{self:Self}{rd:Option Nat}{id:Nat}{os:Array Oper}{s:St}{o:Out}(h:drawnQ P self rd id os s=some o):drawn P self rd id os s=some o:=by
  unfold drawnQ at h
  unfold drawn
  split at h
  case isFalse=>cases h
  rename_i hp
  rw [if_pos hp]
  split at h
  case h_2=>cases h
  rename_i recs T h1 hr
  split at h
  case isFalse=>cases h
  rename_i hc
  rw [hr]
  simp only
  rw [if_pos (dchkQ_ok (fun r hm=>((drun_tr _ _ _ _ _ _ hr).1.recs r hm).1) hc)]
  exact h
theorem drawnQ_ok {P:Program}(hN:NoNG P) (hm:P.follows .mixedOrders=true):DrawnOk P drawnQ :=
  fun self hs rd id os s o h=>drawn_ok hN hm self hs rd id os s o (drawnQ_le h)
end
end Go.Gi
namespace Go.Proofs.Ytfnogghclaijlaa.Old
open Go.Gi Go.RowKit
noncomputable section
def saysTrue (o:Option Out):Bool:=match o with | some (.ret (.bool true) ⟨[],0,[]⟩)=>true | _=>false
theorem saysTrue_iff {o:Option Out}(h:saysTrue o=true):o=some (.ret (.bool true) ⟨[],0,[]⟩):=by
  unfold saysTrue at h
  split at h
  · rfl
  · cases h
theorem awake_run:saysTrue (iterQ drawnQ Try.prog 600 (.call 24 #[] { bl:=[],base:=0,wr:=[] }))=true:=by kernel_rfl
theorem awakeFact:Fact Try.prog (.call 24 #[] ⟨[],0,[]⟩) (.ret (.bool true) ⟨[],0,[]⟩):=by
  have h:=saysTrue_iff awake_run
  rw [iterQ_eq]at h
  exact ⟨(iter_ok noNG (drawnQ_ok noNG mixed) 600).1 _ _ h,trivial⟩
end
end Go.Proofs.Ytfnogghclaijlaa.Old
namespace Go.Proofs.Ytfnogghclaijlaa
open Go.Gi Go.RowKit Go.Proofs.Ytfnogghclaijlaa.Old
noncomputable section
def p24V:Ans
  | .call g ⟨[]⟩ h=>(match Nat.beq g 24 with
    | true=>some (.leaf (.ret (.bool true) h))
    | false=>none)
  | _=>none
theorem known24V:Known Try.prog p24V:=by
  intro t xx o hh ho
  unfold p24V at hh
  split at hh
  case h_2=>cases hh
  rename_i g h
  split at hh
  case h_2=>cases hh
  rename_i hg
  simp only [Option.some.injEq]at hh
  subst hh
  simp only [AT.out,Option.some.injEq]at ho
  subst ho
  rw [Nat.eq_of_beq_eq_true hg]
  exact Fact.lift (zs:=[]) awakeFact rfl rfl h
end
end Go.Proofs.Ytfnogghclaijlaa
namespace Go.Proofs.Ytfnogghclaijlaa
open Go.Gi Go.RowKit Go.Proofs.Ytfnogghclaijlaa.Old
noncomputable section
set_option maxRecDepth 100000
section
variable {c0 c c3:Array Value}{n n2 n3:Nat}{age shear lo hi tick now:Int}
theorem F89_eq (hv:Vld c0 0 n c 0 n2 age shear)(hok:F81ok c0 0 n c 0 n2 c3 0 n3 age shear lo hi tick now=true) :
    F89_ok c0 0 n c 0 n2 c3 0 n3 age shear lo hi tick now=true∧F89_0 c0 0 n c 0 n2 c3 0 n3 age shear lo hi tick now=arrI (cul c0 c n2 age shear lo hi tick now n 0) ∧
    F89_1 c0 0 n c 0 n2 c3 0 n3 age shear lo hi tick now=0∧F89_2 c0 0 n c 0 n2 c3 0 n3 age shear lo hi tick now=(cul c0 c n2 age shear lo hi tick now n 0).length:=by
  have hL:=loop89 hv hok n 0 [] (by omega) (by simp)
  have hL':L89_0 ⟨none,Int.ofNat n,0,c0,0,n,c,0,n2,c3,0,n3,age,shear,lo,hi,tick,now⟩=_:=hL
  have h:F89 c0 0 n c 0 n2 c3 0 n3 age shear lo hi tick now=some ⟨arrI (cul c0 c n2 age shear lo hi tick now n 0),0,(cul c0 c n2 age shear lo hi tick now n 0).length⟩:=by
    unfold F89 rt89
    simp only [RT.val,eqCode_self,cond_true,L89_0_k0,Qb0,Qb1,Qb2,hL',List.nil_append]
  exact ⟨by simp [F89_ok,h],by simp [F89_0,h],by simp [F89_1,h],by simp [F89_2,h]⟩
end
end
end Go.Proofs.Ytfnogghclaijlaa
