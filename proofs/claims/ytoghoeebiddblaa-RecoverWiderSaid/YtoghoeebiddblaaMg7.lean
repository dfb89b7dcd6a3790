/- Part 7 of the texts below the claim. Conditions: none. -/
import Derived.Test.YtoghoeebiddblaaMg6
import Derived.WalkKit
import Derived.ProofKit
import Derived.OpenShut
import Derived.ChangeOld
import Derived.Below
import Derived.Deep.Strs
import Derived.ChangeMaps5
import Derived.Test.YtoghoeebiddblaaProg
import Derived.Test.YtoghoeebiddblaaRows
set_option linter.unusedVariables false
set_option linter.unusedSimpArgs false
namespace Go.Gi
open Go.RowKit
noncomputable section
def Ty (P:Program):Nat→TypeId→List Value→Prop
  | 0,_,_=>False
  | d+1,t,cs=>match P.underlying t with
    | some .bool=>∃b,cs=[.bool b]
    | some (.int q)=>∃n,cs=[.int q n]∧(Lit.int q n).wf=true
    | some .string=>∃s,cs=[.string s]∧s.size≤maxLen
    | some (.struct fs)=>∃ps:List (List Value),cs=ps.flatten∧All2 (fun (f:Field) p=>Ty P d f.type p) fs.toList ps
    | some (.array n e)=>∃ps:List (List Value),cs=ps.flatten∧ps.length=n∧∀p∈ps,Ty P d e p
    | some (.slice e)=>∃(c:Array Value) (n:Nat),cs=[lstV c 0 n (P.cellsOf e)]∧c.size=n*P.cellsOf e∧n≤maxLen∧∀k,k<n→Ty P d e ((c.toList.drop (k*P.cellsOf e)).take (P.cellsOf e))
    | _=>False
def tyB (P:Program):Nat→TypeId→Bool
  | 0,_=>false
  | d+1,t=>match P.underlying t with
    | some .bool | some (.int _) | some .string=>true
    | some (.struct fs)=>offsB P 0 fs.toList&&(P.cellsOf t == (fs.toList.map fun f=>P.cellsOf f.type).sum)&&fs.toList.all fun f=>tyB P d f.type
    | some (.array n e)=>(P.cellsOf t == n*P.cellsOf e)&&tyB P d e
    | some (.slice e)=>Nat.blt 0 (P.cellsOf e)&&tyB P d e
    | _=>false
where offsB (P:Program):Nat→List Field→Bool
  | _,[]=>true
  | o,f::r=>(f.offset == o)&&offsB P (o+P.cellsOf f.type) r
section
variable {H:Type}{enc:TypeId×Value→H}{P:Program}{w:World}{base:Nat}{held:Bool}
theorem rows_of {z:Nat}{Q:Nat→List Value→Prop}:∀{n:Nat},(∀i,i<n→∃r:List Value,r.length=z∧Q i r)→∃c:List Value,c.length=n*z∧∀i,i<n→Q i ((c.drop (i*z)).take z)
  | 0,_=>⟨[],by simp,fun i hi=>absurd hi (Nat.not_lt_zero _)⟩
  | n+1,h=>by
    obtain ⟨c,h1,h2⟩:=rows_of (n:=n) fun i hi=>h i (by omega)
    obtain ⟨r,h3,h4⟩:=h n (by omega)
    refine ⟨c++r,by rw [List.length_append,h1,h3,Nat.add_mul,Nat.one_mul],fun i hi=>?_⟩
    rcases Nat.lt_or_ge i n with hlt | hge
    · have hle:i*z+z≤c.length:=by
        rw [h1]
        have:=Nat.mul_le_mul_right z hlt
        rw [Nat.succ_mul]at this
        exact this
      rw [List.drop_append_of_le_length (by omega),List.take_append_of_le_length (by rw [List.length_drop];omega)]
      exact h2 i hlt
    · obtain rfl:i=n:=by omega
      rw [← h1,List.drop_left,← h3,List.take_length]
      exact h4
theorem fr_fields {z:Nat→Option Obj}{d:Nat}{cs:List Value}(ih:∀(f:TypeId) (q:List Value),tyB P d f=true→(∃fuel x,DataW.trod enc P w base (fun _=>true) held fuel f q=some x)→∃abs,All2 (FR z) abs q∧Ty P d f abs) :
    ∀{fs:List Field} {o:Nat},tyB.offsB P o fs=true→(∀f∈fs,tyB P d f.type=true∧∃fuel x,DataW.trod enc P w base (fun _=>true) held fuel f.type ((cs.drop f.offset).take (P.cellsOf f.type))=some x) →
    ∃ps:List (List Value),All2 (FR z) ps.flatten ((cs.drop o).take (fs.map fun f=>P.cellsOf f.type).sum)∧All2 (fun (f:Field) p=>Ty P d f.type p) fs ps
  | [],o,_,_=>⟨[],by simp;exact .nil,.nil⟩
  | f::r,o,h,hf=>by
    simp only [tyB.offsB,Bool.and_eq_true,beq_iff_eq]at h
    obtain ⟨h1,h2⟩:=h
    obtain ⟨k1,k2⟩:=hf f (List.mem_cons_self ..)
    obtain ⟨abs,a1,a2⟩:=ih f.type _ k1 k2
    obtain ⟨ps,b1,b2⟩:=fr_fields ih h2 fun g hg=>hf g (List.mem_cons_of_mem _ hg)
    refine ⟨abs::ps,?_,.cons a2 b2⟩
    rw [List.flatten_cons,List.map_cons,List.sum_cons,List.take_add,List.drop_drop]
    rw [h1]at a1
    exact a1.append b1
theorem fr_rows {z:Nat→Option Obj}{k:Nat}{cs:List Value}{Q:List Value→Prop}:∀{n:Nat},(∀i,i<n→∃abs,All2 (FR z) abs ((cs.drop (i*k)).take k)∧Q abs) →
    ∃ps:List (List Value),ps.length=n∧All2 (FR z) ps.flatten (cs.take (n*k))∧∀p∈ps,Q p
  | 0,_=>⟨[],rfl,by simp;exact .nil,fun p hp=>by simp at hp⟩
  | n+1,h=>by
    obtain ⟨ps,h1,h2,h3⟩:=fr_rows (n:=n) fun i hi=>h i (by omega)
    obtain ⟨r,h4,h5⟩:=h n (by omega)
    refine ⟨ps++[r],by simp [h1],?_,fun p hp=>?_⟩
    · rw [List.flatten_append,Nat.add_mul,Nat.one_mul,List.take_add]
      simp only [List.flatten_cons,List.flatten_nil,List.append_nil]
      exact h2.append h4
    · rw [List.mem_append,List.mem_singleton]at hp
      rcases hp with hp | rfl
      · exact h3 p hp
      · exact h5
theorem fr_trod:∀{d:Nat}{t:TypeId}{fuel:Nat}{cs:List Value}{x:DataW H×List MemPlace},tyB P d t=true→DataW.trod enc P w base (fun _=>true) held fuel t cs=some x →
    ∃abs,All2 (FR fun B=>w.heap[B]?) abs cs∧Ty P d t abs
  | 0,_,_,_,_,h,_=>by cases h
  | d+1,t,0,cs,x,_,h=>by simp [DataW.trod]at h
  | d+1,t,fuel+1,cs,x,hf,h=>by
    have h0:=h
    unfold tyB at hf
    split at hf
    · rename_i hu
      unfold DataW.trod at h
      rw [hu]at h
      simp only at h
      split at h<;>first | (cases h;done) | skip
      all_goals first | (rename_i he;cases he;done) | skip
      exact ⟨_,.cons (.gnd rfl) .nil,by unfold Ty;rw [hu];exact ⟨_,rfl⟩⟩
    · rename_i q hu
      unfold DataW.trod at h
      rw [hu]at h
      simp only at h
      split at h<;>first | (cases h;done) | skip
      all_goals first | (rename_i he;cases he;done) | skip
      rename_i k k' n he
      cases he
      split at h
      · rename_i hc
        obtain ⟨rfl,hw⟩:=hc
        exact ⟨_,.cons (.gnd rfl) .nil,by unfold Ty;rw [hu];exact ⟨_,rfl,hw⟩⟩
      · cases h
    · rename_i hu
      unfold DataW.trod at h
      rw [hu]at h
      simp only at h
      split at h<;>first | (cases h;done) | skip
      all_goals first | (rename_i he;cases he;done) | skip
      split at h
      · rename_i hc;exact ⟨_,.cons (.gnd rfl) .nil,by unfold Ty;rw [hu];exact ⟨_,rfl,hc⟩⟩
      · cases h
    · rename_i fs hu
      simp only [Bool.and_eq_true,beq_iff_eq,List.all_eq_true]at hf
      obtain ⟨⟨h1,h2⟩,h3⟩:=hf
      unfold DataW.trod at h
      rw [hu]at h
      simp only at h
      split at h
      · rename_i hl
        rw [Option.map_eq_some_iff]at h
        obtain ⟨ys,hy,_⟩:=h
        have h4:=mapM_all hy
        obtain ⟨ps,a1,a2⟩:=fr_fields (z:=fun B=>w.heap[B]?) (d:=d) (cs:=cs) (P:=P) (w:=w) (enc:=enc) (base:=base) (held:=held) (fun f q hq ⟨fu,x,hx⟩=>fr_trod hq hx) h1 fun f hm=>by
          obtain ⟨y,h5⟩:=h4 f hm
          exact ⟨h3 f hm,_,_,h5⟩
        rw [List.drop_zero,← h2,← hl,List.take_length]at a1
        exact ⟨_,a1,by unfold Ty;rw [hu];exact ⟨ps,rfl,a2⟩⟩
      · cases h
    · rename_i n e hu
      simp only [Bool.and_eq_true,beq_iff_eq]at hf
      obtain ⟨h1,h2⟩:=hf
      unfold DataW.trod at h
      rw [hu]at h
      simp only at h
      split at h
      · rename_i hl
        rw [Option.map_eq_some_iff]at h
        obtain ⟨ys,hy,_⟩:=h
        have h4:=mapM_all hy
        obtain ⟨ps,a1,a2,a3⟩:=fr_rows (z:=fun B=>w.heap[B]?) (n:=n) (k:=P.cellsOf e) (cs:=cs) (Q:=Ty P d e) fun i hi=>by
          obtain ⟨y,h5⟩:=h4 i (List.mem_range.2 hi)
          exact fr_trod h2 h5
        rw [← h1,← hl,List.take_length]at a2
        exact ⟨_,a2,by unfold Ty;rw [hu];exact ⟨ps,rfl,a1,a3⟩⟩
      · cases h
    · rename_i e hu
      rw [Bool.and_eq_true,Nat.blt_eq]at hf
      obtain ⟨hpos,he⟩:=hf
      rcases Go.Deep.open_slice hu h0 with ⟨hcs,_⟩ | ⟨a,len,cap,m,k,D,Pl,hcs,hb,hl,hm,hmm,_,hx⟩
      · subst hcs
        exact ⟨_,.cons (.lstZ #[] 0 (P.cellsOf e) none) .nil,by unfold Ty;rw [hu];exact ⟨#[],0,rfl,by simp,Nat.zero_le _,fun k hk=>absurd hk (Nat.not_lt_zero _)⟩⟩
      · subst hcs
        simp only [if_true]at hmm
        subst hmm
        by_cases hc0:m=0
        · subst hc0
          obtain rfl:len=0:=by omega
          exact ⟨_,.cons (.lstZ #[] 0 (P.cellsOf e) (some a)) .nil,by unfold Ty;rw [hu];exact ⟨#[],0,rfl,by simp,Nat.zero_le _,fun k hk=>absurd hk (Nat.not_lt_zero _)⟩⟩
        · have hrow:∀i,i<m→∃r:List Value,r.length=P.cellsOf e∧(Ty P d e r∧∀j,j<P.cellsOf e→∃u,w.cell? ((a.add (i*P.cellsOf e)).add j)=some u∧FR (fun B=>w.heap[B]?) (r.getD j undef) u):=by
            intro i hi
            obtain ⟨cs',h1,h2⟩:=hx i hi
            obtain ⟨h5,h3,h4⟩:=World.cells?_some h1
            obtain ⟨abs,a1,a2⟩:=fr_trod he h2
            have hlen:=a1.len
            have hcl:cs'.length=P.cellsOf e:=h3
            refine ⟨abs,by omega,a2,fun j hj=>?_⟩
            obtain ⟨u,hu1,hu2⟩:=a1.get (List.getElem?_eq_getElem (show j<abs.length by omega))
            refine ⟨u,?_,?_⟩
            · rw [h4 j (by omega)];exact hu1
            · rw [List.getD_eq_getElem?_getD,List.getElem?_eq_getElem (show j<abs.length by omega)];exact hu2
          obtain ⟨c,hc1,hc2⟩:=rows_of (n:=len) fun i hi=>hrow i (by omega)
          have hcz:c.length=len*P.cellsOf e:=hc1
          obtain ⟨r0,hr0,_,hq0⟩:=hrow 0 (by omega)
          obtain ⟨u0,hu0,_⟩:=hq0 0 hpos
          obtain ⟨hs,C,el,fr,hh,_⟩:=cell_some hu0
          obtain ⟨B,off,spot⟩:=a
          simp only [Nat.zero_mul,Addr.add,if_true]at hs hh
          subst hs
          have hcell:∀i,i<len→∀j,j<P.cellsOf e→∃u,C[off+(i*P.cellsOf e+j)]?=some u∧FR (fun B=>w.heap[B]?) (c.getD (i*P.cellsOf e+j) undef) u:=by
            intro i hi j hj
            obtain ⟨_,hq⟩:=hc2 i hi
            obtain ⟨u,k1,k2⟩:=hq j hj
            obtain ⟨_,C',el',fr',hh',k3⟩:=cell_some k1
            simp only [add_at]at hh' k3
            rw [hh]at hh'
            cases hh'
            refine ⟨u,by rw [← Nat.add_assoc];exact k3,?_⟩
            have hle:i*P.cellsOf e+j<c.length:=by
              rw [hcz]
              have:=Nat.mul_le_mul_right (P.cellsOf e) hi
              rw [Nat.succ_mul]at this
              omega
            rw [List.getD_eq_getElem?_getD,List.getElem?_take,if_pos hj,List.getElem?_drop]at k2
            rw [List.getD_eq_getElem?_getD]
            exact k2
          have hall:∀i,i<c.length→∃u,C[off+i]?=some u∧FR (fun B=>w.heap[B]?) (c.getD i undef) u:=by
            intro i hi
            rw [hcz]at hi
            have hd:i / P.cellsOf e<len:=Nat.div_lt_of_lt_mul (by rw [Nat.mul_comm];exact hi)
            obtain ⟨u,k1,k2⟩:=hcell _ hd _ (Nat.mod_lt i hpos)
            have e1:i / P.cellsOf e*P.cellsOf e+i % P.cellsOf e=i:=by
              have:=Nat.div_add_mod i (P.cellsOf e)
              rw [Nat.mul_comm]at this;exact this
            rw [e1]at k1 k2
            exact ⟨u,k1,k2⟩
          rcases Nat.eq_zero_or_pos len with rfl | hlen
          · refine ⟨_,.cons (.lst (c:=#[]) (C:=C) (el:=el) (fr:=fr) (off:=0) (len:=0) (sz:=P.cellsOf e) (cap':=m) (B:=B) (base:=off) hh (by
              obtain ⟨_,C',el',fr',hh',k3⟩:=cell_some hu0
              simp only [add_at]at hh' k3
              rw [hh]at hh';cases hh'
              have:=(Array.getElem?_eq_some_iff.1 k3).1
              simp;omega) (fun i hi=>absurd hi (Nat.not_lt_zero _)) (Nat.zero_le _) (by simp)) .nil,?_⟩
            unfold Ty;rw [hu];exact ⟨#[],0,rfl,by simp,Nat.zero_le _,fun k hk=>absurd hk (Nat.not_lt_zero _)⟩
          · refine ⟨_,.cons (.lst (c:=⟨c⟩) (C:=C) (el:=el) (fr:=fr) (off:=0) (len:=len) (sz:=P.cellsOf e) (cap':=m) (B:=B) (base:=off) hh ?_ (fun i hi=>?_) hl (by simp;omega)) .nil,?_⟩
            · have hlc:0<c.length:=by rw [hcz];exact Nat.mul_pos hlen hpos
              obtain ⟨u,k1,_⟩:=hall (c.length-1) (by omega)
              have:=(Array.getElem?_eq_some_iff.1 k1).1
              simp;omega
            · obtain ⟨u,k1,k2⟩:=hall i (by simpa using hi)
              rw [Array.getD_eq_getD_getElem?,Array.getD_eq_getD_getElem?,k1]
              rw [List.getD_eq_getElem?_getD]at k2
              simpa using k2
            · unfold Ty;rw [hu]
              exact ⟨⟨c⟩,len,rfl,by simpa using hcz,by omega,fun k hk=>(hc2 k hk).1⟩
    · cases hf
theorem fr_one {t:TypeId}{v:Value}{fuel:Nat}{x:DataW H×List MemPlace}(ht:tyB P 20 t=true) (h:DataW.trod enc P w base (fun _=>true) held fuel t [v]=some x):∃a,VR (zAll w) a v∧Ty P 20 t [a]:=by
  obtain ⟨abs,h1,h2⟩:=fr_trod ht h
  cases h1 with
  | cons h3 h4 =>
    cases h4
    exact ⟨_,FR.vr (φ:=zAll w) h3,h2⟩
theorem fr_agg {t:TypeId}{cs:Array Value}{fuel:Nat}{x:DataW H×List MemPlace}(ht:tyB P 20 t=true) (h:DataW.trod enc P w base (fun _=>true) held fuel t cs.toList=some x):∃abs:List Value,VR (zAll w) (.agg ⟨abs⟩) (.agg cs)∧Ty P 20 t abs:=by
  obtain ⟨abs,h1,h2⟩:=fr_trod ht h
  refine ⟨abs,VR.agg (by simpa using h1.len.symm) fun i hi=>?_,h2⟩
  have hi':i<abs.length:=by simpa using hi
  obtain ⟨b,h3,h4⟩:=h1.get (List.getElem?_eq_getElem hi')
  have h5:cs[i]?=some b:=by rw [← Array.getElem?_toList];exact h3
  rw [Array.getD_eq_getD_getElem?,Array.getD_eq_getD_getElem?,h5]
  simp only [List.getElem?_toArray,List.getElem?_eq_getElem hi',Option.getD_some]
  exact FR.vr (φ:=zAll w) h4
theorem flat_fields {d:Nat}(ih:∀(t:TypeId) (cs:List Value),flatT P d t=true→Ty P d t cs→All2 okLeaf (leaves P false d t) cs):∀{fs:List Field}{ps:List (List Value)},
    All2 (fun (f:Field) p=>Ty P d f.type p) fs ps→(∀f∈fs,flatT P d f.type=true)→All2 okLeaf (fs.flatMap fun f=>leaves P false d f.type) ps.flatten
  | [],_,.nil,_=>.nil
  | f::fs,_,.cons h r,hf=>by
    rw [List.flatMap_cons,List.flatten_cons]
    exact (ih _ _ (hf f (List.mem_cons_self ..)) h).append (flat_fields ih r fun g hg=>hf g (List.mem_cons_of_mem _ hg))
theorem ty_flat:∀{d:Nat}{t:TypeId}{cs:List Value},flatT P d t=true→Ty P d t cs→All2 okLeaf (leaves P false d t) cs
  | 0,_,_,h,_=>by cases h
  | d+1,t,cs,hf,h=>by
    unfold flatT at hf
    unfold Ty at h
    split at hf
    · rename_i hu
      rw [hu]at h
      rw [leaves,hu,show leafOf P false t=.bool by unfold leafOf;rw [hu]]
      obtain ⟨b,rfl⟩:=h
      exact .cons ⟨_,rfl⟩ .nil
    · rename_i q hu
      rw [hu]at h
      rw [leaves,hu,show leafOf P false t=.int q by unfold leafOf;rw [hu]]
      obtain ⟨n,rfl,hw⟩:=h
      exact .cons ⟨_,rfl,hw⟩ .nil
    · rename_i hu
      rw [hu]at h
      rw [leaves,hu,show leafOf P false t=.str by unfold leafOf;rw [hu]]
      obtain ⟨n,rfl,hw⟩:=h
      exact .cons ⟨_,rfl,hw⟩ .nil
    · rename_i fs hu
      rw [hu]at h
      simp only [Bool.and_eq_true,List.all_eq_true]at hf
      obtain ⟨ps,rfl,h2⟩:=h
      have hlv:leaves P false (d+1) t=fs.toList.flatMap fun f=>leaves P false d f.type:=by rw [leaves,hu]
      rw [hlv]
      exact flat_fields (fun t cs h1 h2=>ty_flat h1 h2) h2 hf.2
    · cases hf
theorem ty_good {d:Nat}{e:TypeId}{c:Array Value}{n:Nat}(hf:flatT P d e=true) (hz:P.cellsOf e=(leaves P false d e).length) (hs:c.size=n*P.cellsOf e) (hpos:0<P.cellsOf e)
    (h:∀k,k<n→Ty P d e ((c.toList.drop (k*P.cellsOf e)).take (P.cellsOf e))):GoodL (leaves P false d e) c 0 n:=by
  have hrow:∀k,k<n→∀j l,(leaves P false d e)[j]?=some l→∃v,c[k*P.cellsOf e+j]?=some v∧okLeaf l v:=by
    intro k hk j l hj
    obtain ⟨v,h1,h2⟩:=(ty_flat hf (h k hk)).get hj
    refine ⟨v,?_,h2⟩
    rw [List.getElem?_take]at h1
    split at h1
    · rw [List.getElem?_drop,Array.getElem?_toList]at h1;exact h1
    · cases h1
  refine ⟨?_,fun k hk=>rdOk_of fun j l hj=>?_⟩
  · rw [List.all_eq_true]
    intro u hu
    rw [Array.mem_toList_iff,Array.mem_iff_getElem?]at hu
    obtain ⟨i,hu⟩:=hu
    have hi:=(Array.getElem?_eq_some_iff.1 hu).1
    rw [hs]at hi
    have hd:i / P.cellsOf e<n:=Nat.div_lt_of_lt_mul (by rw [Nat.mul_comm];exact hi)
    have hm:=Nat.mod_lt i hpos
    obtain ⟨l,hl⟩:∃l,(leaves P false d e)[i % P.cellsOf e]?=some l:=⟨_,List.getElem?_eq_getElem (by omega)⟩
    obtain ⟨v,h1,h2⟩:=hrow _ hd _ l hl
    have e1:i / P.cellsOf e*P.cellsOf e+i % P.cellsOf e=i:=by
      have:=Nat.div_add_mod i (P.cellsOf e)
      rw [Nat.mul_comm]at this;exact this
    rw [e1,hu]at h1
    cases h1
    exact okLeaf_g0 h2
  · obtain ⟨v,h1,h2⟩:=hrow k hk j l hj
    exact ⟨v,by rw [Nat.zero_add,← hz];exact h1,h2⟩
end
end
end Go.Gi
namespace Go.Gi
open Go.ChangeShapes Go.WideShapes Go.ChangeAt Go.RowKit
section
variable {P:Program}
theorem tyI {d:Nat}{t:TypeId}{cs:List Value}(hu:P.underlying t=some (.int .i64)) (h:Ty P (d+1) t cs):∃n,cs=[.int .i64 n]∧(Lit.int .i64 n).wf=true:=by
  unfold Ty at h
  rw [hu]at h
  exact h
theorem tyL {d:Nat}{t e:TypeId}{cs:List Value}(hu:P.underlying t=some (.slice e)) (h:Ty P (d+1) t cs) :
    ∃(c:Array Value) (n:Nat),cs=[lstV c 0 n (P.cellsOf e)]∧c.size=n*P.cellsOf e∧n≤maxLen∧∀k,k<n→Ty P d e ((c.toList.drop (k*P.cellsOf e)).take (P.cellsOf e)):=by
  unfold Ty at h
  rw [hu]at h
  exact h
theorem tyS {d:Nat}{t:TypeId}{fs:Array Field}{cs:List Value}(hu:P.underlying t=some (.struct fs)) (h:Ty P (d+1) t cs):∃ps:List (List Value),cs=ps.flatten∧All2 (fun (f:Field) p=>Ty P d f.type p) fs.toList ps:=by
  unfold Ty at h
  rw [hu]at h
  exact h
theorem tyS2 {d:Nat}{t:TypeId}{f0 f1:Field}{cs:List Value}(hu:P.underlying t=some (.struct #[f0,f1])) (h:Ty P (d+1) t cs) :
    ∃p0 p1,cs=p0++p1∧Ty P d f0.type p0∧Ty P d f1.type p1:=by
  obtain ⟨ps,rfl,g⟩:=tyS hu h
  clear h
  cases g with
  | cons h1 g =>
  cases g with
  | cons h2 g =>
  cases g
  exact ⟨_,_,by simp,h1,h2⟩
theorem tyS3 {d:Nat}{t:TypeId}{f0 f1 f2:Field}{cs:List Value}(hu:P.underlying t=some (.struct #[f0,f1,f2])) (h:Ty P (d+1) t cs) :
    ∃p0 p1 p2,cs=p0++(p1++p2)∧Ty P d f0.type p0∧Ty P d f1.type p1∧Ty P d f2.type p2:=by
  obtain ⟨ps,rfl,g⟩:=tyS hu h
  clear h
  cases g with
  | cons h1 g =>
  cases g with
  | cons h2 g =>
  cases g with
  | cons h3 g =>
  cases g
  exact ⟨_,_,_,by simp,h1,h2,h3⟩
structure GL (L:List Leaf) (z:Nat) (c:Array Value) (n:Nat):Prop where
  good:GoodL L c 0 n
  size:c.size=n*z
  few:n≤maxLen
theorem tyG {d z:Nat}{t e:TypeId}{L:List Leaf}{cs:List Value}(hu:P.underlying t=some (.slice e)) (hf:flatT P d e=true) (hz:P.cellsOf e=z) (hL:leaves P false d e=L) (hl:L.length=z) (hp:0<z)
    (h:Ty P (d+1) t cs):∃c n,cs=[lstV c 0 n z]∧GL L z c n:=by
  obtain ⟨c,n,h1,h2,h3,h4⟩:=tyL hu h
  subst hz
  subst hL
  exact ⟨c,n,h1,ty_good hf hl.symm h2 hp h4,h2,h3⟩
end
theorem GL.or {L:List Leaf}{z n:Nat}{c:Array Value}(h:GL L z c n):n=0∨GoodL L c 0 n:=.inr h.good
section
variable {P:Program}{H:Type}{enc:TypeId×Value→H}{w:World}{r:Reach}{b0:Nat}{v:Value}{dd:DataW H}{p:List MemPlace}{t e:TypeId}
theorem argS {fs:Array Field}(hu:P.underlying t=some (.struct fs)) (ht:tyB P 20 t=true) (hval:Value.okWide P w r b0 t v) (h:DataW.Trod enc P w 0 (fun _=>true) true t v dd p):∃abs,VR (zAll w) (.agg ⟨abs⟩) v∧Ty P 20 t abs:=by
  obtain ⟨cs,rfl,hcs⟩:=okWide_struct hu hval
  obtain ⟨fu,hf⟩:=h
  exact fr_agg ht hf
end
end Go.Gi
namespace Go.Gi
open Go.RowKit
section
variable {P:Program}{H:Type}{enc:TypeId×Value→H}{w:World}{r:Reach}{b0:Nat}{v:Value}{dd:DataW H}{p:List MemPlace}{t e:TypeId}
open Go.WideShapes in
theorem argSl (hu:P.underlying t=some (.slice e))(ht:tyB P 20 t=true)(hval:Value.okWide P w r b0 t v)(h:DataW.Trod enc P w 0 (fun _=>true) true t v dd p):∃a,VR (zAll w) a v∧Ty P 20 t [a]:=by
  obtain ⟨a0,len,cap,rfl⟩:=okWide_slice hu hval
  obtain ⟨fu,hf⟩:=h
  exact fr_one ht hf
theorem argRows {z:Nat}{L:List Leaf}(hu:P.underlying t=some (.slice e)) (hf:flatT P 19 e=true) (hz:P.cellsOf e=z) (hL:leaves P false 19 e=L) (hl:L.length=z) (hp:0<z) (ht:tyB P 20 t=true) (hval:Value.okWide P w r b0 t v) (h:DataW.Trod enc P w 0 (fun _=>true) true t v dd p) :
    ∃c n,VR (zAll w) (lstV c 0 n z) v∧GL L z c n:=by
  obtain ⟨a,h1,h2⟩:=argSl hu ht hval h
  obtain ⟨c,n,e1,e2⟩:=tyG hu hf hz hL hl hp h2
  obtain rfl:a=lstV c 0 n z:=by simpa using e1
  exact ⟨c,n,h1,e2⟩
end
end Go.Gi
namespace Go.Proofs.Ytoghoeebiddblaa
open Go.Gi Go.RowKit
theorem noNG_of {P : Program} (h : (P.funcs.toList.all fun fn=>!(fn.name == "runtime.NumGoroutine")) = true) : NoNG P:=by
  intro f fn hf _
  rw [List.all_eq_true]at h
  have:=h fn (by rw [Array.mem_toList_iff];exact Array.mem_of_getElem? hf)
  simpa using this
theorem noNG:NoNG Try.prog:=noNG_of (by decide +kernel)
theorem mixed:Try.prog.follows .mixedOrders=true:=by decide +kernel
end Go.Proofs.Ytoghoeebiddblaa
namespace Go.Proofs.Ytoghoeebiddblaa.Old
end Go.Proofs.Ytoghoeebiddblaa.Old
namespace Go.Gi
noncomputable section
def fst1 (E:Nat→Int):Nat→Nat→Option (Nat×Int)
  | 0,_=>none
  | m+1,k=>if E k=0 then fst1 E m (k+1) else some (k,E k)
theorem fst1_congr {E E':Nat→Int}{n:Nat}(h:∀k,k<n→E k=E' k):∀m k,k+m=n→fst1 E m k=fst1 E' m k
  | 0,_,_=>rfl
  | m+1,k,e=>by
    unfold fst1
    rw [h k (by omega),fst1_congr h m (k+1) (by omega)]
theorem loop_fst {X D:Type}{rd:X→RT (Sum X D)}{S:Nat→X}{E:Nat→Int}{n:Nat}{err:Nat→Int→D}{fin:D}
    (hs:∀k,k<n→(rd (S k)).val=some (if E k=0 then .inl (S (k+1)) else .inr (err k (E k)))) (hf:(rd (S n)).val=some (.inr fin)) :
    ∀m k,k+m=n→loopR rd (S k)=some (match fst1 E m k with | some (i,r)=>err i r | none=>fin)
  | 0,k,e=>by
    obtain rfl:k=n:=by omega
    exact loopR_done hf
  | m+1,k,e=>by
    have h:=hs k (by omega)
    unfold fst1
    by_cases he:E k=0
    · rw [if_pos he]at h ⊢
      exact (loopR_next h).trans (loop_fst hs hf m (k+1) (by omega))
    · rw [if_neg he]at h ⊢
      exact loopR_done h
end
end Go.Gi
namespace Go.Proofs.Ytoghoeebiddblaa
open Go.Gi Go.RowKit Go.Proofs.Ytoghoeebiddblaa.Old
noncomputable section
set_option maxRecDepth 100000
set_option maxHeartbeats 4000000
structure R123 where
  (r0:Bool)
structure A123 where
  (a0:Int)
def rt123 (a0:Int):RT R123 :=
  .br (decide ((-20000:Int)≤a0)) (.leaf ⟨(decide (a0≤(20000:Int)))⟩) (.leaf ⟨false⟩)
def en123 (r:R123):Value:=(.bool r.r0)
theorem T123  (a0:Int):evC Try.prog (Ans.c (fun _=>none:Ans)) 60 (.call 123 ⟨[(.int .i64 a0)]⟩ ⟨[],0,[]⟩) (frzK [0])=(rt123 a0).out (fun r=>.ret (en123 r) ⟨[],0,[]⟩):=by kernel_rfl
def F123 (a0:Int):Option R123:=(rt123 a0).val
section
variable (a0:Int)
def F123_ok:Bool:=(F123 a0).isSome
def F123_0:Bool:=match F123 a0 with | some r=>r.r0 | none=>false
end
def dec123:Task→Option (A123×Hp)
  | .call g ⟨[(.int .i64 a0)]⟩ h=>(match Nat.beq g 123 with | true=>some (⟨a0⟩,h) | false=>none)
  | _=>none
def alt123 (x:A123)(h:Hp):AT:=.br (F123_ok x.a0) (.leaf (.ret (.bool (F123_0 x.a0)) h)) .no
def p123:Ans:=fnAns dec123 alt123
theorem ha123:∀(x:A123) (h:Hp)(o:Out),(alt123 x h).out=some o→∃r,(rt123 x.a0).val=some r∧o=.ret (en123 r) h:=by
  intro x h o e
  unfold alt123 at e
  simp only [AT.out]at e
  obtain ⟨g,e⟩:=cond_some e
  unfold F123_ok at g
  obtain ⟨r,hF⟩:=Option.isSome_iff_exists.1 g
  have hv:F123 x.a0=(rt123 x.a0).val:=by delta F123;exact rfl
  refine ⟨r,hv.symm.trans hF,?_⟩
  simp only [Option.some.injEq]at e
  rw [← e]
  have k0:F123_0 x.a0=r.r0:=by
    show (match F123 x.a0 with | some r=>r.r0 | none=>false)=r.r0
    rw [hF]
  rw [k0]<;>rfl
theorem hd123:∀(t:Task) (x:A123)(h:Hp),dec123 t=some (x,h)→t=.call 123 ⟨[(.int .i64 x.a0)]⟩ h:=by
  intro t x h e
  unfold dec123 at e
  split at e
  case h_2=>cases e
  split at e
  case h_2=>cases e
  rename_i hg
  simp only [Option.some.injEq,Prod.mk.injEq]at e
  obtain ⟨rfl,rfl⟩:=e
  rw [Nat.eq_of_beq_eq_true hg]
theorem known123:Known Try.prog p123:=by
  exact Known.fn noNG mixed (Known.nothing Try.prog) (n:=60) (zs:=[0]) 123 (fun x:A123=>[(.int .i64 x.a0)]) (fun x=>rt123 x.a0) en123 (fun x=>T123  x.a0) (fun x=>rfl) dec123 alt123 hd123 ha123
structure R102 where
  (r0:Bool)
structure A102 where
  (a0 a1:Int)
def rt102 (a0 a1:Int):RT R102 :=
  .br (decide (a0≤a1)) (.br (F123_ok a0) (.br (F123_0 a0) (.br (F123_ok a1) (.leaf ⟨(F123_0 a1)⟩) (.no)) (.leaf ⟨false⟩)) (.no)) (.leaf ⟨false⟩)
def en102 (r:R102):Value:=(.bool r.r0)
theorem T102  (a0 a1:Int):evC Try.prog (Ans.c p123) 60 (.call 102 ⟨[(.agg ⟨[(.int .i64 a0),(.int .i64 a1)]⟩)]⟩ ⟨[],0,[]⟩) (frzK [0])=(rt102 a0 a1).out (fun r=>.ret (en102 r) ⟨[],0,[]⟩):=by kernel_rfl
def F102 (a0 a1:Int):Option R102:=(rt102 a0 a1).val
section
variable (a0 a1:Int)
def F102_ok:Bool:=(F102 a0 a1).isSome
def F102_0:Bool:=match F102 a0 a1 with | some r=>r.r0 | none=>false
end
def dec102:Task→Option (A102×Hp)
  | .call g ⟨[(.agg ⟨[(.int .i64 a0),(.int .i64 a1)]⟩)]⟩ h=>(match Nat.beq g 102 with | true=>some (⟨a0,a1⟩,h) | false=>none)
  | _=>none
def alt102 (x:A102)(h:Hp):AT:=.br (F102_ok x.a0 x.a1) (.leaf (.ret (.bool (F102_0 x.a0 x.a1)) h)) .no
def p102:Ans:=fnAns dec102 alt102
theorem ha102:∀(x:A102) (h:Hp)(o:Out),(alt102 x h).out=some o→∃r,(rt102 x.a0 x.a1).val=some r∧o=.ret (en102 r) h:=by
  intro x h o e
  unfold alt102 at e
  simp only [AT.out]at e
  obtain ⟨g,e⟩:=cond_some e
  unfold F102_ok at g
  obtain ⟨r,hF⟩:=Option.isSome_iff_exists.1 g
  have hv:F102 x.a0 x.a1=(rt102 x.a0 x.a1).val:=by delta F102;exact rfl
  refine ⟨r,hv.symm.trans hF,?_⟩
  simp only [Option.some.injEq]at e
  rw [← e]
  have k0:F102_0 x.a0 x.a1=r.r0:=by
    show (match F102 x.a0 x.a1 with | some r=>r.r0 | none=>false)=r.r0
    rw [hF]
  rw [k0]<;>rfl
theorem hd102:∀(t:Task) (x:A102)(h:Hp),dec102 t=some (x,h)→t=.call 102 ⟨[(.agg ⟨[(.int .i64 x.a0),(.int .i64 x.a1)]⟩)]⟩ h:=by
  intro t x h e
  unfold dec102 at e
  split at e
  case h_2=>cases e
  split at e
  case h_2=>cases e
  rename_i hg
  simp only [Option.some.injEq,Prod.mk.injEq]at e
  obtain ⟨rfl,rfl⟩:=e
  rw [Nat.eq_of_beq_eq_true hg]
theorem known102:Known Try.prog p102:=by
  exact Known.fn noNG mixed known123 (n:=60) (zs:=[0]) 102 (fun x:A102=>[(.agg ⟨[(.int .i64 x.a0),(.int .i64 x.a1)]⟩)]) (fun x=>rt102 x.a0 x.a1) en102 (fun x=>T102  x.a0 x.a1) (fun x=>rfl) dec102 alt102 hd102 ha102
structure R75 where
  (r0:Int)
structure A75 where
  (a0 a1:Int)
  (a2 a3:Int)
  (a4 a5 a6:Int)
def rt75 (a0 a1:Int)(a2 a3:Int)(a4 a5 a6:Int):RT R75 :=
  .br (not (decide (a0=a6))) (.leaf ⟨(2:Int)⟩) (.br (decide (a1≤a0)) (.leaf ⟨(7:Int)⟩) (.br (decide ((100000000:Int)<a1)) (.leaf ⟨(7:Int)⟩) (.br (F102_ok a2 a3) (.br (not (F102_0 a2 a3)) (.leaf ⟨(7:Int)⟩) (.br (F102_ok a4 a5) (.br (not (F102_0 a4 a5)) (.leaf ⟨(7:Int)⟩) (.leaf ⟨(0:Int)⟩)) (.no))) (.no))))
def en75 (r:R75):Value:=(.int .i64 r.r0)
theorem T75  (a0 a1:Int) (a2 a3:Int) (a4 a5 a6:Int):evC Try.prog (Ans.c p102) 60 (.call 75 ⟨[(.agg ⟨[(.int .i64 a0),(.int .i64 a1),(.int .i64 a2),(.int .i64 a3),(.int .i64 a4),(.int .i64 a5)]⟩),(.int .i64 a6)]⟩ ⟨[],0,[]⟩) (frzK [0])=(rt75 a0 a1 a2 a3 a4 a5 a6).out (fun r=>.ret (en75 r) ⟨[],0,[]⟩):=by kernel_rfl
def F75 (a0 a1:Int)(a2 a3:Int)(a4 a5 a6:Int):Option R75:=(rt75 a0 a1 a2 a3 a4 a5 a6).val
section
variable (a0 a1:Int) (a2 a3:Int) (a4 a5 a6:Int)
def F75_ok:Bool:=(F75 a0 a1 a2 a3 a4 a5 a6).isSome
def F75_0:Int:=match F75 a0 a1 a2 a3 a4 a5 a6 with | some r=>r.r0 | none=>0
end
def dec75:Task→Option (A75×Hp)
  | .call g ⟨[(.agg ⟨[(.int .i64 a0),(.int .i64 a1),(.int .i64 a2),(.int .i64 a3),(.int .i64 a4),(.int .i64 a5)]⟩),(.int .i64 a6)]⟩ h=>(match Nat.beq g 75 with | true=>some (⟨a0,a1,a2,a3,a4,a5,a6⟩,h) | false=>none)
  | _=>none
def alt75 (x:A75)(h:Hp):AT:=.br (F75_ok x.a0 x.a1 x.a2 x.a3 x.a4 x.a5 x.a6) (.leaf (.ret (.int .i64 (F75_0 x.a0 x.a1 x.a2 x.a3 x.a4 x.a5 x.a6)) h)) .no
def p75:Ans:=fnAns dec75 alt75
theorem ha75:∀(x:A75) (h:Hp)(o:Out),(alt75 x h).out=some o→∃r,(rt75 x.a0 x.a1 x.a2 x.a3 x.a4 x.a5 x.a6).val=some r∧o=.ret (en75 r) h:=by
  intro x h o e
  unfold alt75 at e
  simp only [AT.out]at e
  obtain ⟨g,e⟩:=cond_some e
  unfold F75_ok at g
  obtain ⟨r,hF⟩:=Option.isSome_iff_exists.1 g
  have hv:F75 x.a0 x.a1 x.a2 x.a3 x.a4 x.a5 x.a6=(rt75 x.a0 x.a1 x.a2 x.a3 x.a4 x.a5 x.a6).val:=by delta F75;exact rfl
  refine ⟨r,hv.symm.trans hF,?_⟩
  simp only [Option.some.injEq]at e
  rw [← e]
  have k0:F75_0 x.a0 x.a1 x.a2 x.a3 x.a4 x.a5 x.a6=r.r0:=by
    show (match F75 x.a0 x.a1 x.a2 x.a3 x.a4 x.a5 x.a6 with | some r=>r.r0 | none=>0)=r.r0
    rw [hF]
  rw [k0]<;>rfl
theorem hd75:∀(t:Task) (x:A75)(h:Hp),dec75 t=some (x,h)→t=.call 75 ⟨[(.agg ⟨[(.int .i64 x.a0),(.int .i64 x.a1),(.int .i64 x.a2),(.int .i64 x.a3),(.int .i64 x.a4),(.int .i64 x.a5)]⟩),(.int .i64 x.a6)]⟩ h:=by
  intro t x h e
  unfold dec75 at e
  split at e
  case h_2=>cases e
  split at e
  case h_2=>cases e
  rename_i hg
  simp only [Option.some.injEq,Prod.mk.injEq]at e
  obtain ⟨rfl,rfl⟩:=e
  rw [Nat.eq_of_beq_eq_true hg]
theorem known75:Known Try.prog p75:=by
  exact Known.fn noNG mixed known102 (n:=60) (zs:=[0]) 75 (fun x:A75=>[(.agg ⟨[(.int .i64 x.a0),(.int .i64 x.a1),(.int .i64 x.a2),(.int .i64 x.a3),(.int .i64 x.a4),(.int .i64 x.a5)]⟩),(.int .i64 x.a6)]) (fun x=>rt75 x.a0 x.a1 x.a2 x.a3 x.a4 x.a5 x.a6) en75 (fun x=>T75  x.a0 x.a1 x.a2 x.a3 x.a4 x.a5 x.a6) (fun x=>rfl) dec75 alt75 hd75 ha75
structure X43_0 where
  (v0:Int)
  (v1:Array Value)
  (v2 v3:Nat)
  (v4 v5:Int)
inductive D43_0 where
  | k0 (d0 d1:Int)
  | k1
def Lp43_0:LoopOf X43_0 D43_0 where
  c:=(theLoop Try.prog 43 0)
  N:=33
  M:=0
  S:=[4,16,17,18]
  sl:=fun x=>[(.int .i64 x.v0),(lstV x.v1 x.v2 x.v3 6),(.int .i64 x.v4),(.int .i64 x.v5)]
  hp:=fun x=>[]
  ex:=fun d=>match d with | .k0 ..=>.ret | .k1 ..=>.exit 0
  pick:=fun e=>match e with | .ret=>[2,3] | .exit 0=>[] | _=>[]
  dv:=fun d=>match d with | .k0 d0 d1=>[(.int .i64 d0),(.int .i64 d1)] | .k1 =>[]
  dh:=fun d=>match d with | .k0 d0 d1=>[] | .k1 =>[]
theorem ok43_0:Lp43_0.Ok:=⟨fun x=>rfl,fun x=>rfl,fun x=>rfl,fun x=>rfl,fun d=>by cases d<;>rfl,fun d=>by cases d<;>rfl,fun d=>by cases d<;>rfl,fun d=>by cases d<;>(intro h;cases h),fun d=>by cases d<;>rfl,fun d=>by cases d<;>rfl⟩
def rd43_0 (x:X43_0):RT (Sum X43_0 D43_0):=match x with
  | ⟨v0,v1,v2,v3,v4,v5⟩ =>
     .br (decide (v5<v4)) (.br (and (decide ((0:Int)≤v5)) (decide (v5<(Int.ofNat v3)))) (.br (rdOk v1 [(Leaf.int .i64),(Leaf.int .i64),(Leaf.int .i64),(Leaf.int .i64),(Leaf.int .i64),(Leaf.int .i64)] (v2+((Int.toNat v5)*6))) (.br (F75_ok (getInt v1 (v2+((Int.toNat v5)*6))) (getInt v1 ((v2+((Int.toNat v5)*6))+1)) (getInt v1 (((v2+((Int.toNat v5)*6))+1)+1)) (getInt v1 ((((v2+((Int.toNat v5)*6))+1)+1)+1)) (getInt v1 (((((v2+((Int.toNat v5)*6))+1)+1)+1)+1)) (getInt v1 ((((((v2+((Int.toNat v5)*6))+1)+1)+1)+1)+1)) v0)
     (.br (not (decide ((F75_0 (getInt v1 (v2+((Int.toNat v5)*6))) (getInt v1 ((v2+((Int.toNat v5)*6))+1)) (getInt v1 (((v2+((Int.toNat v5)*6))+1)+1)) (getInt v1 ((((v2+((Int.toNat v5)*6))+1)+1)+1)) (getInt v1 (((((v2+((Int.toNat v5)*6))+1)+1)+1)+1)) (getInt v1 ((((((v2+((Int.toNat v5)*6))+1)+1)+1)+1)+1)) v0)=(0:Int)))) (.leaf (.inr (.k0 v5 ((F75_0 (getInt v1 (v2+((Int.toNat v5)*6))) (getInt v1 ((v2+((Int.toNat v5)*6))+1)) (getInt v1 (((v2+((Int.toNat v5)*6))+1)+1)) (getInt v1 ((((v2+((Int.toNat v5)*6))+1)+1)+1)) (getInt v1 (((((v2+((Int.toNat v5)*6))+1)+1)+1)+1)) (getInt v1 ((((((v2+((Int.toNat v5)*6))+1)+1)+1)+1)+1)) v0))))) (.leaf (.inl ⟨(getInt v1 ((v2+((Int.toNat v5)*6))+1)),v1,v2,v3,v4,(IntKind.wrap .i64 (v5+(1:Int)))⟩))) (.no)) (.no)) (.no)) (.leaf (.inr (.k1)))
theorem T43_0  (y:List Value) (v0:Int) (v1:Array Value) (v2 v3:Nat) (v4 v5:Int):evC Try.prog (Ans.c p75) 60 (.code none (theLoop Try.prog 43 0) ⟨sets (junkF 33 y) [(4,(.int .i64 v0)),(16,(lstV v1 v2 v3 6)),(17,(.int .i64 v4)),(18,(.int .i64 v5))],[],⟨[],0,[]⟩⟩) (sumK 0 33 Lp43_0.pk)=(rd43_0 ⟨v0,v1,v2,v3,v4,v5⟩).out Lp43_0.enc:=by kernel_rfl
def L43_0 (x:X43_0):Option D43_0:=loopR rd43_0 x
section
variable (x:X43_0)
def L43_0_k0:Bool:=match L43_0 x with | some (.k0 ..)=>true | _=>false
def Qa0:Int:=match L43_0 x with | some (.k0 d _)=>d | _=>0
def Qa1:Int:=match L43_0 x with | some (.k0 _ d)=>d | _=>0
def L43_0_k1:Bool:=match L43_0 x with | some (.k1 ..)=>true | _=>false
end
def dec43_0:Task→Option (Code×X43_0)
  | .code none (.loop code) ⟨t,[],⟨[],0,[]⟩⟩ =>
    (match Nat.beq (firstReg code) 5,lenIs t 33,lget t 4,lget t 16,lget t 17,lget t 18 with
    | true,true,(.int .i64 v0),(.func (.via 0 ⟨[]⟩ 0 true) v1 ⟨[.slice (some ⟨0,v2,none⟩) v3 6]⟩),(.int .i64 v4),(.int .i64 v5)=>some (code,⟨v0,v1,v2,v3,v4,v5⟩)
    | _,_,_,_,_,_=>none)
  | _=>none
def alt43_0 (x:X43_0)(j:List Value):AT:=.br (L43_0_k0 x) (loopEnd 33 (.ret) [(2,(.int .i64 (Qa0 x))),(3,(.int .i64 (Qa1 x)))] ⟨[],0,[]⟩ j) (.br (L43_0_k1 x) (loopEnd 33 (.exit 0) [] ⟨[],0,[]⟩ j) (.no))
def la43_0 (J:Task→List Value):Ans:=loopAns Lp43_0.c dec43_0 alt43_0 J
theorem ha43_0:∀(x:X43_0) (j:List Value)(o:Out),(alt43_0 x j).out=some o→∃d,loopR rd43_0 x=some d∧o=Lp43_0.tail d j:=by
  intro x j o h
  unfold alt43_0 at h
  cases hL:L43_0 x with
  | none=>simp [L43_0_k0,Qa0,Qa1,L43_0_k1,hL,AT.out]at h
  | some d =>
    refine ⟨d,hL,?_⟩
    cases d<;>(simp only [L43_0_k0,Qa0,Qa1,L43_0_k1,hL,AT.out,loopEnd,cond_true,cond_false,Option.some.injEq]at h;rw [← h];rfl)
theorem hd43_0:∀(t:Task) (c:Code)(x:X43_0),dec43_0 t=some (c,x)→c=Lp43_0.c→∃T,t=.code none (.loop Lp43_0.c) ⟨T,[],⟨Lp43_0.hp x,0,[]⟩⟩∧T.length=Lp43_0.N∧∀kv∈Lp43_0.S.zip (Lp43_0.sl x),lget T kv.1=kv.2:=by
  intro t c x h hc
  unfold dec43_0 at h
  split at h
  case h_2=>cases h
  split at h
  case h_2=>cases h
  simp only [Option.some.injEq,Prod.mk.injEq]at h
  obtain ⟨rfl,rfl⟩:=h
  subst hc
  refine ⟨_,rfl,lenIs_eq _ _ (by assumption),?_⟩
  intro kv hk
  simp only [Lp43_0,List.zip_cons_cons,List.zip_nil_right,List.mem_cons,List.not_mem_nil,or_false]at hk
  rcases hk with rfl | rfl | rfl | rfl<;>assumption
theorem kl43_0:∃J,Known Try.prog (la43_0 J):=by
  exact LoopOf.known noNG mixed ok43_0 (by decide) (by decide) known75 (n:=60) (rd:=rd43_0) (fun x j=>T43_0  j x.v0 x.v1 x.v2 x.v3 x.v4 x.v5) dec43_0 alt43_0 hd43_0 ha43_0
structure R43 where
  (r0 r1:Int)
structure A43 where
  (a0:Array Value)
  (a1 a2:Nat)
def rt43 (a0:Array Value)(a1 a2:Nat):RT R43 :=
  .br (decide ((Int.ofNat a2)<(1:Int))) (.leaf ⟨(0:Int),(3:Int)⟩) (.br (decide ((20:Int)<(Int.ofNat a2))) (.leaf ⟨(0:Int),(3:Int)⟩)
   (.sw (eqCode (Lp43_0.c) (Lp43_0.c)) true (by simp only [eqCode_self,arrEq_self]) (.br (L43_0_k0 (X43_0.mk (0:Int) a0 a1 a2 (Int.ofNat a2) (0:Int))) (.leaf ⟨(Qa0 (X43_0.mk (0:Int) a0 a1 a2 (Int.ofNat a2) (0:Int))),(Qa1 (X43_0.mk (0:Int) a0 a1 a2 (Int.ofNat a2) (0:Int)))⟩) (.br (L43_0_k1 (X43_0.mk (0:Int) a0 a1 a2 (Int.ofNat a2) (0:Int))) (.leaf ⟨(0:Int),(0:Int)⟩) (.no))) (.no)))
def en43 (r:R43):Value:=(.tuple ⟨[(.int .i64 r.r0),(.int .i64 r.r1)]⟩)
theorem T43 (J0:Task→List Value)(a0:Array Value)(a1 a2:Nat):evC Try.prog (Ans.c (p75.or (la43_0 J0))) 60 (.call 43 ⟨[(lstV a0 a1 a2 6)]⟩ ⟨[],0,[]⟩) (frzK [0,0])=(rt43 a0 a1 a2).out (fun r=>.ret (en43 r) ⟨[],0,[]⟩):=by kernel_rfl
def F43 (a0:Array Value)(a1 a2:Nat):Option R43:=(rt43 a0 a1 a2).val
section
variable (a0:Array Value) (a1 a2:Nat)
def F43_ok:Bool:=(F43 a0 a1 a2).isSome
def F43_0:Int:=match F43 a0 a1 a2 with | some r=>r.r0 | none=>0
def F43_1:Int:=match F43 a0 a1 a2 with | some r=>r.r1 | none=>0
end
def dec43:Task→Option (A43×Hp)
  | .call g ⟨[(.func (.via 0 ⟨[]⟩ 0 true) a0 ⟨[.slice (some ⟨0,a1,none⟩) a2 6]⟩)]⟩ h=>(match Nat.beq g 43 with | true=>some (⟨a0,a1,a2⟩,h) | false=>none)
  | _=>none
def alt43 (x:A43)(h:Hp):AT:=.br (F43_ok x.a0 x.a1 x.a2) (.leaf (.ret (.tuple ⟨[(.int .i64 (F43_0 x.a0 x.a1 x.a2)),(.int .i64 (F43_1 x.a0 x.a1 x.a2))]⟩) h)) .no
def p43:Ans:=fnAns dec43 alt43
theorem ha43:∀(x:A43) (h:Hp)(o:Out),(alt43 x h).out=some o→∃r,(rt43 x.a0 x.a1 x.a2).val=some r∧o=.ret (en43 r) h:=by
  intro x h o e
  unfold alt43 at e
  simp only [AT.out]at e
  obtain ⟨g,e⟩:=cond_some e
  unfold F43_ok at g
  obtain ⟨r,hF⟩:=Option.isSome_iff_exists.1 g
  have hv:F43 x.a0 x.a1 x.a2=(rt43 x.a0 x.a1 x.a2).val:=by delta F43;exact rfl
  refine ⟨r,hv.symm.trans hF,?_⟩
  simp only [Option.some.injEq]at e
  rw [← e]
  have k0:F43_0 x.a0 x.a1 x.a2=r.r0:=by
    show (match F43 x.a0 x.a1 x.a2 with | some r=>r.r0 | none=>0)=r.r0
    rw [hF]
  have k1:F43_1 x.a0 x.a1 x.a2=r.r1:=by
    show (match F43 x.a0 x.a1 x.a2 with | some r=>r.r1 | none=>0)=r.r1
    rw [hF]
  rw [k0,k1]<;>rfl
theorem hd43:∀(t:Task) (x:A43)(h:Hp),dec43 t=some (x,h)→t=.call 43 ⟨[(lstV x.a0 x.a1 x.a2 6)]⟩ h:=by
  intro t x h e
  unfold dec43 at e
  split at e
  case h_2=>cases e
  split at e
  case h_2=>cases e
  rename_i hg
  simp only [Option.some.injEq,Prod.mk.injEq]at e
  obtain ⟨rfl,rfl⟩:=e
  rw [Nat.eq_of_beq_eq_true hg]
theorem known43:Known Try.prog p43:=by
  obtain ⟨J0,hJ0⟩:=kl43_0
  exact Known.fn noNG mixed (Known.or known75 hJ0) (n:=60) (zs:=[0,0]) 43 (fun x:A43=>[(lstV x.a0 x.a1 x.a2 6)]) (fun x=>rt43 x.a0 x.a1 x.a2) en43 (fun x=>T43 J0 x.a0 x.a1 x.a2) (fun x=>rfl) dec43 alt43 hd43 ha43
end
end Go.Proofs.Ytoghoeebiddblaa
namespace Go.Proofs.Ytoghoeebiddblaa
open Go.Gi Go.RowKit
noncomputable section
set_option maxRecDepth 100000
set_option maxHeartbeats 1000000
def I6:List Leaf:=[(Leaf.int .i64),(Leaf.int .i64),(Leaf.int .i64),(Leaf.int .i64),(Leaf.int .i64),(Leaf.int .i64)]
def inB (n lo hi:Int):Bool:=decide (lo≤n)&&decide (n≤hi)
def spW (a b:Int):Bool:=decide (a≤b)&&(inB a (-20000) 20000&&inB b (-20000) 20000)
def bd (f t xl xh yl yh p:Int):Int:=if f=p then (if t≤f then 7 else if 100000000<t then 7 else if spW xl xh=true then (if spW yl yh=true then 0 else 7) else 7) else 2
def prv (c:Array Value):Nat→Int
  | 0=>0
  | k+1=>getInt c (k*6+1)
def bdE (c:Array Value)(k:Nat):Int:=bd (getInt c (k*6)) (getInt c (k*6+1)) (getInt c (k*6+2)) (getInt c (k*6+3)) (getInt c (k*6+4)) (getInt c (k*6+5)) (prv c k)
def bnF (c:Array Value)(n:Nat):Int×Int:=if n<1 then (0,3) else if 20<n then (0,3) else (match fst1 (bdE c) n 0 with | some (i,r)=>((i:Int),r) | none=>(0,0))
theorem F123_of (a:Int):F123_ok a=true∧F123_0 a=inB a (-20000) 20000:=by
  have q:F123 a=some ⟨inB a (-20000) 20000⟩:=by
    unfold F123 rt123 inB
    by_cases h:(-20000:Int)≤a<;>simp [RT.val,h]
  exact ⟨by simp only [F123_ok,q];rfl,by simp only [F123_0,q]⟩
theorem F102_of (a b:Int):F102_ok a b=true∧F102_0 a b=spW a b:=by
  have q:F102 a b=some ⟨spW a b⟩:=by
    unfold F102 rt102 spW
    simp only [RT.val,(F123_of _).1,(F123_of _).2,cond_true]
    by_cases h:a≤b
    · cases inB a (-20000) 20000<;>simp [h]
    · simp [h]
  exact ⟨by simp only [F102_ok,q];rfl,by simp only [F102_0,q]⟩
theorem F75_of (f t xl xh yl yh p:Int):F75_ok f t xl xh yl yh p=true∧F75_0 f t xl xh yl yh p=bd f t xl xh yl yh p:=by
  have q:F75 f t xl xh yl yh p=some ⟨bd f t xl xh yl yh p⟩:=by
    unfold F75 rt75 bd
    simp only [RT.val,(F102_of _ _).1,(F102_of _ _).2,cond_true]
    by_cases h:f=p
    · subst h
      by_cases h1:t≤f
      · simp [h1]
      · by_cases h2:(100000000:Int)<t
        · simp [h1,h2]
        · simp only [h1,h2,decide_true,decide_false,Bool.not_true,cond_false,if_true,if_false]
          cases spW xl xh<;>cases spW yl yh<;>rfl
    · simp [h]
  exact ⟨by simp only [F75_ok,q];rfl,by simp only [F75_0,q]⟩
theorem rows6 {c:Array Value}{n k:Nat}(g:GL I6 6 c n) (hk:k<n):isInt .i64 c (k*6)=true∧isInt .i64 c (k*6+1)=true∧rdOk c [(Leaf.int .i64),(Leaf.int .i64)] (k*6+2)=true∧rdOk c [(Leaf.int .i64),(Leaf.int .i64)] (k*6+4)=true:=by
  have hr:rdOk c I6 (0+k*6)=true:=g.good.2 k hk
  rw [Nat.zero_add]at hr
  have hr':(isInt .i64 c (k*6)&&(isInt .i64 c (k*6+1)&&(isInt .i64 c (k*6+2)&&(isInt .i64 c (k*6+3)&&(isInt .i64 c (k*6+4)&&(isInt .i64 c (k*6+5)&&true))))))=true:=hr
  simp only [Bool.and_eq_true]at hr'
  obtain ⟨h0,h1,h2,h3,h4,h5,_⟩:=hr'
  refine ⟨h0,h1,?_,?_⟩
  · show (isInt .i64 c (k*6+2)&&(isInt .i64 c (k*6+3)&&true))=true
    rw [h2,h3];rfl
  · show (isInt .i64 c (k*6+4)&&(isInt .i64 c (k*6+5)&&true))=true
    rw [h4,h5];rfl
section
variable {c:Array Value}{n:Nat}
theorem step43 (g:GL I6 6 c n)(few:n≤1000)(k:Nat)(hk:k<n):(rd43_0 ⟨prv c k,c,0,n,(n:Int),(k:Int)⟩).val =
    some (if bdE c k=0 then .inl ⟨prv c (k+1),c,0,n,(n:Int),((k+1:Nat):Int)⟩ else .inr (.k0 (k:Int) (bdE c k))):=by
  have hki:(k:Int)<(n:Int):=by omega
  have h0:(0:Int)≤(k:Int):=by omega
  have h3:IntKind.wrap .i64 ((k:Int)+1)=((k+1:Nat):Int):=by rw [wrap64_id (by omega) (by omega)];omega
  have hr:rdOk c I6 (0+k*6)=true:=g.good.2 k hk
  unfold I6 at hr
  unfold bdE
  simp only [rd43_0,RT.val,hki,h0,h3,hr,(F75_of _ _ _ _ _ _ _).1,(F75_of _ _ _ _ _ _ _).2,Int.toNat_natCast,Int.ofNat_eq_natCast,decide_true,Bool.and_self,cond_true]
  simp only [Nat.zero_add,Nat.add_assoc,Nat.reduceAdd]
  cases hb:decide (bd (getInt c (k*6)) (getInt c (k*6+1)) (getInt c (k*6+2)) (getInt c (k*6+3)) (getInt c (k*6+4)) (getInt c (k*6+5)) (prv c k)=0) with
  | true=>rw [if_pos (of_decide_eq_true hb)];rfl
  | false=>rw [if_neg (of_decide_eq_false hb)];rfl
theorem F43_eq (g:GL I6 6 c n):F43 c 0 n=some ⟨(bnF c n).1,(bnF c n).2⟩:=by
  unfold F43 rt43 bnF
  by_cases h1:n<1
  · have i1:(n:Int)<1:=by omega
    rw [if_pos h1]
    simp only [RT.val,i1,Int.ofNat_eq_natCast,decide_true,cond_true]
  have i1:¬(n:Int)<1:=by omega
  rw [if_neg h1]
  by_cases h2:20<n
  · have i2:(20:Int)<(n:Int):=by omega
    rw [if_pos h2]
    simp only [RT.val,i1,i2,Int.ofNat_eq_natCast,decide_true,decide_false,cond_true,cond_false]
  have i2:¬(20:Int)<(n:Int):=by omega
  rw [if_neg h2]
  have z1:¬(n:Int)<(n:Int):=by omega
  have l:L43_0 (X43_0.mk 0 c 0 n (n:Int) 0)=some (match fst1 (bdE c) n 0 with | some (i,r)=>.k0 (i:Int) r | none=>.k1) :=
    loop_fst (rd:=rd43_0) (S:=fun k=>X43_0.mk (prv c k) c 0 n (n:Int) (k:Int)) (E:=bdE c) (n:=n) (err:=fun i r=>.k0 (i:Int) r) (fin:=.k1)
      (fun k hk=>step43 g (by omega) k hk) (by simp only [rd43_0,RT.val,z1,decide_false,cond_false]) n 0 (by omega)
  simp only [RT.val,i1,i2,Int.ofNat_eq_natCast,eqCode_self,decide_false,cond_true,cond_false]
  cases hf:fst1 (bdE c) n 0 with
  | some ir =>
    obtain ⟨i,r⟩:=ir
    rw [hf]at l
    simp only [L43_0_k0,Qa0,Qa1,l,cond_true]
  | none =>
    rw [hf]at l
    simp only [L43_0_k0,L43_0_k1,l,cond_true,cond_false]
end
end
end Go.Proofs.Ytoghoeebiddblaa
namespace Go.Proofs.Ytoghoeebiddblaa
open Go.Gi Go.RowKit Go.Proofs.Ytoghoeebiddblaa.Old
noncomputable section
set_option maxRecDepth 100000
set_option maxHeartbeats 4000000
structure R40 where
  (r0:Bool)
structure A40 where
  (a0 a1 a2:Int)
def rt40 (a0 a1 a2:Int):RT R40 :=
  .br (decide (a1≤a0)) (.leaf ⟨(decide (a0≤a2))⟩) (.leaf ⟨false⟩)
def en40 (r:R40):Value:=(.bool r.r0)
theorem T40  (a0 a1 a2:Int):evC Try.prog (Ans.c (fun _=>none:Ans)) 60 (.call 40 ⟨[(.int .i64 a0),(.int .i64 a1),(.int .i64 a2)]⟩ ⟨[],0,[]⟩) (frzK [0])=(rt40 a0 a1 a2).out (fun r=>.ret (en40 r) ⟨[],0,[]⟩):=by kernel_rfl
def F40 (a0 a1 a2:Int):Option R40:=(rt40 a0 a1 a2).val
section
variable (a0 a1 a2:Int)
def F40_ok:Bool:=(F40 a0 a1 a2).isSome
def F40_0:Bool:=match F40 a0 a1 a2 with | some r=>r.r0 | none=>false
end
def dec40:Task→Option (A40×Hp)
  | .call g ⟨[(.int .i64 a0),(.int .i64 a1),(.int .i64 a2)]⟩ h=>(match Nat.beq g 40 with | true=>some (⟨a0,a1,a2⟩,h) | false=>none)
  | _=>none
def alt40 (x:A40)(h:Hp):AT:=.br (F40_ok x.a0 x.a1 x.a2) (.leaf (.ret (.bool (F40_0 x.a0 x.a1 x.a2)) h)) .no
def p40:Ans:=fnAns dec40 alt40
theorem ha40:∀(x:A40) (h:Hp)(o:Out),(alt40 x h).out=some o→∃r,(rt40 x.a0 x.a1 x.a2).val=some r∧o=.ret (en40 r) h:=by
  intro x h o e
  unfold alt40 at e
  simp only [AT.out]at e
  obtain ⟨g,e⟩:=cond_some e
  unfold F40_ok at g
  obtain ⟨r,hF⟩:=Option.isSome_iff_exists.1 g
  have hv:F40 x.a0 x.a1 x.a2=(rt40 x.a0 x.a1 x.a2).val:=by delta F40;exact rfl
  refine ⟨r,hv.symm.trans hF,?_⟩
  simp only [Option.some.injEq]at e
  rw [← e]
  have k0:F40_0 x.a0 x.a1 x.a2=r.r0:=by
    show (match F40 x.a0 x.a1 x.a2 with | some r=>r.r0 | none=>false)=r.r0
    rw [hF]
  rw [k0]<;>rfl
theorem hd40:∀(t:Task) (x:A40)(h:Hp),dec40 t=some (x,h)→t=.call 40 ⟨[(.int .i64 x.a0),(.int .i64 x.a1),(.int .i64 x.a2)]⟩ h:=by
  intro t x h e
  unfold dec40 at e
  split at e
  case h_2=>cases e
  split at e
  case h_2=>cases e
  rename_i hg
  simp only [Option.some.injEq,Prod.mk.injEq]at e
  obtain ⟨rfl,rfl⟩:=e
  rw [Nat.eq_of_beq_eq_true hg]
theorem known40:Known Try.prog p40:=by
  exact Known.fn noNG mixed (Known.nothing Try.prog) (n:=60) (zs:=[0]) 40 (fun x:A40=>[(.int .i64 x.a0),(.int .i64 x.a1),(.int .i64 x.a2)]) (fun x=>rt40 x.a0 x.a1 x.a2) en40 (fun x=>T40  x.a0 x.a1 x.a2) (fun x=>rfl) dec40 alt40 hd40 ha40
structure R41 where
  (r0:Bool)
structure A41 where
  (a0 a1:Int)
  (a2 a3:Int)
def rt41 (a0 a1:Int)(a2 a3:Int):RT R41 :=
  .br (decide (a0≤a1)) (.br (decide (a2≤a0)) (.leaf ⟨(decide (a1≤a3))⟩) (.leaf ⟨false⟩)) (.leaf ⟨false⟩)
def en41 (r:R41):Value:=(.bool r.r0)
theorem T41  (a0 a1:Int) (a2 a3:Int):evC Try.prog (Ans.c (fun _=>none:Ans)) 60 (.call 41 ⟨[(.agg ⟨[(.int .i64 a0),(.int .i64 a1)]⟩),(.int .i64 a2),(.int .i64 a3)]⟩ ⟨[],0,[]⟩) (frzK [0])=(rt41 a0 a1 a2 a3).out (fun r=>.ret (en41 r) ⟨[],0,[]⟩):=by kernel_rfl
def F41 (a0 a1:Int)(a2 a3:Int):Option R41:=(rt41 a0 a1 a2 a3).val
section
variable (a0 a1:Int) (a2 a3:Int)
def F41_ok:Bool:=(F41 a0 a1 a2 a3).isSome
def F41_0:Bool:=match F41 a0 a1 a2 a3 with | some r=>r.r0 | none=>false
end
def dec41:Task→Option (A41×Hp)
  | .call g ⟨[(.agg ⟨[(.int .i64 a0),(.int .i64 a1)]⟩),(.int .i64 a2),(.int .i64 a3)]⟩ h=>(match Nat.beq g 41 with | true=>some (⟨a0,a1,a2,a3⟩,h) | false=>none)
  | _=>none
def alt41 (x:A41)(h:Hp):AT:=.br (F41_ok x.a0 x.a1 x.a2 x.a3) (.leaf (.ret (.bool (F41_0 x.a0 x.a1 x.a2 x.a3)) h)) .no
def p41:Ans:=fnAns dec41 alt41
theorem ha41:∀(x:A41) (h:Hp)(o:Out),(alt41 x h).out=some o→∃r,(rt41 x.a0 x.a1 x.a2 x.a3).val=some r∧o=.ret (en41 r) h:=by
  intro x h o e
  unfold alt41 at e
  simp only [AT.out]at e
  obtain ⟨g,e⟩:=cond_some e
  unfold F41_ok at g
  obtain ⟨r,hF⟩:=Option.isSome_iff_exists.1 g
  have hv:F41 x.a0 x.a1 x.a2 x.a3=(rt41 x.a0 x.a1 x.a2 x.a3).val:=by delta F41;exact rfl
  refine ⟨r,hv.symm.trans hF,?_⟩
  simp only [Option.some.injEq]at e
  rw [← e]
  have k0:F41_0 x.a0 x.a1 x.a2 x.a3=r.r0:=by
    show (match F41 x.a0 x.a1 x.a2 x.a3 with | some r=>r.r0 | none=>false)=r.r0
    rw [hF]
  rw [k0]<;>rfl
theorem hd41:∀(t:Task) (x:A41)(h:Hp),dec41 t=some (x,h)→t=.call 41 ⟨[(.agg ⟨[(.int .i64 x.a0),(.int .i64 x.a1)]⟩),(.int .i64 x.a2),(.int .i64 x.a3)]⟩ h:=by
  intro t x h e
  unfold dec41 at e
  split at e
  case h_2=>cases e
  split at e
  case h_2=>cases e
  rename_i hg
  simp only [Option.some.injEq,Prod.mk.injEq]at e
  obtain ⟨rfl,rfl⟩:=e
  rw [Nat.eq_of_beq_eq_true hg]
theorem known41:Known Try.prog p41:=by
  exact Known.fn noNG mixed (Known.nothing Try.prog) (n:=60) (zs:=[0]) 41 (fun x:A41=>[(.agg ⟨[(.int .i64 x.a0),(.int .i64 x.a1)]⟩),(.int .i64 x.a2),(.int .i64 x.a3)]) (fun x=>rt41 x.a0 x.a1 x.a2 x.a3) en41 (fun x=>T41  x.a0 x.a1 x.a2 x.a3) (fun x=>rfl) dec41 alt41 hd41 ha41
end
end Go.Proofs.Ytoghoeebiddblaa
namespace Go.Gi
open Go.RowKit
noncomputable section
def dI (q:IntKind)(v:Value):Option Int:=match v with
  | .int q' n=>(match decide (q'=q) with | true=>some n | false=>none)
  | _=>none
theorem dI_eq {q:IntKind}{v:Value}{n:Int}(h:dI q v=some n):v=.int q n:=by
  unfold dI at h
  split at h
  · split at h
    · rename_i hq
      simp only [Option.some.injEq]at h
      rw [h,of_decide_eq_true hq]
    · cases h
  · cases h
def dLs (z:Nat)(v:Value):Option (Array Value×Nat×Nat):=match v with
  | .func (.via 0 ⟨[]⟩ 0 true) c ⟨[.slice (some ⟨0,o,none⟩) n z']⟩=>(match Nat.beq z' z with | true=>some (c,o,n) | false=>none)
  | _=>none
theorem dLs_eq {z:Nat}{v:Value}{p:Array Value×Nat×Nat}(h:dLs z v=some p):v=lstV p.1 p.2.1 p.2.2 z:=by
  unfold dLs at h
  split at h
  · split at h
    · rename_i hz
      simp only [Option.some.injEq]at h
      subst h
      rw [Nat.eq_of_beq_eq_true hz]
    · cases h
  · cases h
def dAg (v:Value):Option (List Value):=match v with
  | .agg ⟨l⟩=>some l
  | _=>none
theorem dAg_eq {v:Value}{l:List Value}(h:dAg v=some l):v=.agg ⟨l⟩:=by
  unfold dAg at h
  split at h
  · simp only [Option.some.injEq]at h;rw [h]
  · cases h
end
end Go.Gi
namespace Go.Proofs.Ytoghoeebiddblaa
open Go.Gi Go.RowKit
noncomputable section
set_option maxRecDepth 100000
set_option maxHeartbeats 1000000
def lsB (a b lo hi:Int):Bool:=decide (a≤b)&&(decide (lo≤a)&&decide (b≤hi))
theorem fst1_ne {E:Nat→Int}:∀{m k i:Nat}{r:Int},fst1 E m k=some (i,r)→r≠0
  | 0,k,i,r,h=>by cases h
  | m+1,k,i,r,h=>by
    unfold fst1 at h
    by_cases he:E k=0
    · rw [if_pos he]at h;exact fst1_ne h
    · rw [if_neg he]at h;cases h;exact he
theorem F40_of (n lo hi:Int):F40_ok n lo hi=true∧F40_0 n lo hi=inB n lo hi:=by
  have q:F40 n lo hi=some ⟨inB n lo hi⟩:=by
    unfold F40 rt40 inB
    by_cases h:lo≤n<;>simp [RT.val,h]
  exact ⟨by simp only [F40_ok,q];rfl,by simp only [F40_0,q]⟩
theorem F41_of (a b lo hi:Int):F41_ok a b lo hi=true∧F41_0 a b lo hi=lsB a b lo hi:=by
  have q:F41 a b lo hi=some ⟨lsB a b lo hi⟩:=by
    unfold F41 rt41 lsB
    by_cases h:a≤b<;>by_cases h2:lo≤a<;>simp [RT.val,h,h2]
  exact ⟨by simp only [F41_ok,q];rfl,by simp only [F41_0,q]⟩
end
end Go.Proofs.Ytoghoeebiddblaa
namespace Go.Gi
open Go.RowKit
noncomputable section
def boxD (m:Nat):Ob→Bool
  | .dead=>true
  | ob=>boxB m ob
theorem boxD_live {m:Nat}{ob:Ob}(h:boxD m ob=true) (hl:ob.live=true):ob.rw=true∧obSc m ob=true:=by
  cases ob with
  | dead=>cases hl
  | _ =>
    simp only [boxD,boxB,Bool.and_eq_true]at h
    exact ⟨h.1.2,h.2⟩
section
variable {K:Nat→Prop}{w0 w:World} {φ ψ:Phi}{X H2:List Ob} {κ:Nat→Nat}
theorem Inv.view (hF:Inv K w0 φ X w)
    (hv:∀(i:Nat) (ob:Ob),H2[i]?=some ob→ob.live=true→∃ob',X[κ i]?=some ob'∧ob'.live=true∧(ob.rw=true→ob'.rw=true)∧ψ i=φ (κ i)∧∀B base tot,ObR φ w ob' B base tot→ObR ψ w ob B base tot)
    (hi:∀(i i':Nat) (ob ob':Ob),H2[i]?=some ob→H2[i']?=some ob'→ob.live=true→ob'.live=true→κ i=κ i'→i=i')
    (ht:∀i,H2.length≤i→ψ i=none) (hz:∀B o,ψ.z B=some o→w.heap[B]?=some o)
    (hs:∀(i:Nat) (ob:Ob) (x:Nat×Nat×Nat),H2[i]?=some ob→ob.rw=true→ψ i=some x→ψ.z x.1=none) (hk:∀k,K k→ψ.z k=none):Inv K w0 ψ H2 w:=by
  refine ⟨?_,?_,?_,hF.keep,hF.klt,hF.size,hF.os,hF.tape,hF.output,ht,hz,hs,hk⟩
  · intro i ob h1 h2
    obtain ⟨ob',k1,k2,_,k4,k5⟩:=hv i ob h1 h2
    obtain ⟨B,base,tot,q1,q2⟩:=hF.obs _ ob' k1 k2
    exact ⟨B,base,tot,k4.trans q1,k5 _ _ _ q2⟩
  · intro i i' ob ob' x y hne h1 h1' hrw hl hx hy
    obtain ⟨o1,k1,k2,k3,k4,_⟩:=hv i ob h1 (Ob.live_of_rw hrw)
    obtain ⟨o2,l1,l2,_,l4,_⟩:=hv i' ob' h1' hl
    exact hF.sep _ _ o1 o2 x y (fun he=>hne (hi i i' ob ob' h1 h1' (Ob.live_of_rw hrw) hl he)) k1 l1 (k3 hrw) l2 (k4 ▸ hx) (l4 ▸ hy)
  · intro i ob x h1 hrw hx
    obtain ⟨o1,k1,_,k3,k4,_⟩:=hv i ob h1 (Ob.live_of_rw hrw)
    exact hF.prot _ o1 x k1 (k3 hrw) (k4 ▸ hx)
theorem zF_frz (hF:Inv K w0 φ X w)(m:Nat):∀B o,zF φ X m w B=some o→w.heap[B]?=some o:=by
  intro B o hB
  unfold zF at hB
  split at hB
  · exact hB
  · exact hF.frz B o hB
theorem zF_sep (hF:Inv K w0 φ X w) {m b:Nat}{ob:Ob}{x:Nat×Nat×Nat}(h1:b<m) (h2:X[b]?=some ob) (hrw:ob.rw=true) (hx2:φ b=some x):zF φ X m w x.1=none:=by
  unfold zF
  rw [if_neg]
  · exact hF.zsep b ob x h2 hrw hx2
  · rintro ⟨b',ob',x',k1,k2,k3,k4,k5⟩
    exact hF.sep b b' ob ob' x x' (by omega) h2 k2 hrw (Ob.live_of_rw k3) hx2 k4 k5.symm
theorem VRs.picks {tm:Array Value}:∀(pk:List Nat) (vs:List Value) (T:List Value),VRs ψ T.toArray tm→VRl ψ vs (pk.map fun i=>tm.getD i undef)→vs.all (fun v=>notU v)=true→VRs ψ (sets T (pk.zip vs)).toArray tm:=by
  intro pk
  induction pk with
  | nil=>intro vs T h _ _;cases vs<;>exact h
  | cons i r ih =>
    intro vs T h hv hall
    cases hv with
    | cons h1' h2' =>
      rename_i v vs'
      simp only [List.all_cons,Bool.and_eq_true]at hall
      refine ih vs' _ ?_ h2' hall.2
      rcases Nat.lt_or_ge i tm.size with hi | hi
      · have e:tm=tm.setIfInBounds i (tm.getD i undef):=by
          apply Array.ext_getElem?
          intro q
          rw [Array.getElem?_setIfInBounds]
          split
          · rename_i hq
            subst hq
            first
            | (rw [Array.getElem?_eq_getElem hi];rfl)
            | (rw [if_pos hi,Array.getD_eq_getD_getElem?,Array.getElem?_eq_getElem hi];rfl)
          · rfl
        rw [lset_eq]
        have:=h.set h1' i
        rw [← e]at this
        exact this
      · have hT:T.length≤i:=by have:=h.size;simp at this;omega
        have e:lset T i v=T:=by rw [lset_set,List.set_eq_of_length_le hT]
        rw [e];exact h
theorem VRs.lo {LL:List Value}{N:Nat}{tm:Array Value}(hl:LL.length=N) (h:VRs φ LL.toArray tm):VRs ψ (junkF N (LL.map Go.Gi.lo)).toArray tm:=by
  rw [junkF_eq (by simpa using hl)]
  intro i
  have hVi:=h i
  rw [List.getElem?_toArray]at hVi ⊢
  rw [List.getElem?_map]
  generalize LL[i]?=q at hVi
  generalize tm[i]?=q' at hVi ⊢
  cases hVi with
  | none=>exact .none
  | some h=>exact .some (cl_vr h)
end
def obCells:Ob→Option (List Value)
  | .cells ⟨c⟩ false=>some c
  | .loop _ _ ⟨t⟩ _ _ _ _=>some t
  | _=>none
def obPut:Ob→List Value→Ob
  | .cells _ r,c=>.cells ⟨c⟩ r
  | .loop st pend _ ps asn bd d,c=>.loop st pend ⟨c⟩ ps asn bd d
  | ob,_=>ob
theorem obPut_cells {ob:Ob}{cq:List Value}(h:obCells ob=some cq) (c:List Value):obCells (obPut ob c)=some c:=by
  unfold obCells at h
  split at h
  · rfl
  · rfl
  · cases h
theorem obPut_live {ob:Ob}{cq:List Value}(h:obCells ob=some cq):ob.live=true∧ob.rw=true∧∀c,(obPut ob c).live=true∧(obPut ob c).rw=true:=by
  unfold obCells at h
  split at h
  · exact ⟨rfl,rfl,fun c=>⟨rfl,rfl⟩⟩
  · exact ⟨rfl,rfl,fun c=>⟨rfl,rfl⟩⟩
  · cases h
theorem obPut_same {o1 o2:Ob}{c1 c2 x1 x2:List Value}(h1:obCells o1=some c1) (h2:obCells o2=some c2) (h:obPut o1 x1=obPut o2 x2):x1=x2∧∀z,obPut o1 z=obPut o2 z:=by
  unfold obCells at h1 h2
  split at h1
  · split at h2
    · simp only [obPut,Ob.cells.injEq,Array.mk.injEq,and_true]at h
      exact ⟨h,fun z=>rfl⟩
    · simp [obPut]at h
    · cases h2
  · split at h2
    · simp [obPut]at h
    · simp only [obPut,Ob.loop.injEq,Array.mk.injEq]at h
      obtain ⟨a1,a2,a3,a4,a5,a6,a7⟩:=h
      refine ⟨a3,fun z=>?_⟩
      simp only [obPut,a1,a2,a4,a5,a6,a7]
    · cases h2
  · cases h1
section
variable {φ ψ:Phi}{w:World}{B base tot n:Nat}
theorem obR_put {ob:Ob}{cq c2:List Value}(h:obCells ob=some cq) (hl:c2.length=cq.length) (hc:∀(k:Nat) (u u2:Value),cq[k]?=some u→c2[k]?=some u2→∀v',VR φ u v'→VR ψ u2 v') (hle:le (cut φ n) ψ)
    (hs:∃z,obSc n (obPut ob z)=true) (hr:ObR φ w ob B base tot):ObR ψ w (obPut ob c2) B base tot:=by
  unfold obCells at h
  split at h
  · rename_i c
    simp only [Option.some.injEq]at h;subst h
    obtain ⟨C,el,fr,r1,r2,r3⟩:=hr
    refine ⟨C,el,fr,r1,fun k u hu=>?_,fun hh=>?_⟩
    · simp only [List.getElem?_toArray]at hu
      have hk:k<c.length:=by have:=lt_of_get hu;omega
      obtain ⟨v',r4,r5⟩:=r2 k c[k] (by rw [List.getElem?_toArray];exact List.getElem?_eq_getElem hk)
      exact ⟨v',r4,hc k _ u (List.getElem?_eq_getElem hk) hu v' r5⟩
    · have:=r3 hh
      simp only [List.size_toArray]at this ⊢
      rw [hl];exact this
  · rename_i st pend c ps asn bd d
    simp only [Option.some.injEq]at h;subst h
    obtain ⟨r0,fn,tm,D,r1,r2,td,r3⟩:=hr
    refine ⟨r0,fn,tm,D,r1,fun k=>?_,td,hle.fn _ _ ?_⟩
    · have hk:=r2 k
      rw [List.getElem?_toArray]at hk ⊢
      rcases Nat.lt_or_ge k c.length with h1 | h1
      · have e1:c[k]?=some c[k]:=List.getElem?_eq_getElem h1
        have e2:c2[k]?=some (c2[k]'(by omega)):=List.getElem?_eq_getElem (by omega)
        rw [e1]at hk
        rw [e2]
        generalize tm[k]?=y at hk
        cases hk with
        | some hv=>exact .some (hc k _ _ e1 e2 _ hv)
      · rw [List.getElem?_eq_none h1]at hk
        rw [List.getElem?_eq_none (by omega)]
        generalize tm[k]?=y at hk
        cases hk;exact .none
    · obtain ⟨z,hs⟩:=hs
      simp only [obPut,obSc,Bool.and_eq_true,decide_eq_true_eq]at hs
      exact (cut_lt hs.2).trans r3
  · cases h
end
theorem obCells_sc {ob:Ob}{cq:List Value}{n k:Nat} {u v':Value} {φ:Phi}(h:obCells ob=some cq) (hs:obSc n ob=true) (hu:cq[k]?=some u) (hv:VR φ u v'):VR (cut φ n) u v':=by
  unfold obCells at h
  split at h
  · simp only [Option.some.injEq]at h;subst h
    simp only [obSc,List.all_eq_true]at hs
    exact sc1_cut (hs u (List.mem_of_getElem? hu)) hv
  · simp only [Option.some.injEq]at h;subst h
    simp only [obSc,Bool.and_eq_true,List.all_eq_true]at hs
    exact scT_cut (hs.1 u (List.mem_of_getElem? hu)) hv
  · cases h
def gB:List Nat→List Ob→Bool
  | [],_=>true
  | b::r,H=>(match nthO H b with | some (.cells a false)=>allFz a | _=>false)&&gB r H
def gC (H:List Ob)(k:Option Out):List Nat→Option Out
  | []=>k
  | b::r=>match nthO H b with
    | some (.cells a false)=>cond (allFz a) (gC H k r) none
    | _=>none
theorem gC_ok {H:List Ob}{k:Option Out}{o:Out}:∀{Bs:List Nat},gC H k Bs=some o→gB Bs H=true∧k=some o
  | [],h=>⟨rfl,h⟩
  | b::r,h=>by
    unfold gC at h
    unfold gB
    split at h
    · rename_i a hb
      obtain ⟨h1,h2⟩:=cond_some h
      obtain ⟨h3,h4⟩:=gC_ok h2
      exact ⟨by rw [h1,h3];rfl,h4⟩
    · cases h
section
variable {X D:Type}
structure LoopS (X D:Type) where
  c:Code
  N:Nat
  M:Nat
  S:List Nat
  Bs:List Nat
  q:Option (Nat×Nat)
  sz:Nat
  z:Nat
  sl:X→List Value
  hp:X→Value→List Ob
  own:X→Option (Array Value×Nat)
  ex:D→Ex
  pick:Ex→List Nat
  dv:D→List Value
  dh:D→List Ob
def LoopS.ownB (L:LoopS X D)(x:X):List Ob:=match L.own x with
  | none=>[]
  | some (a,_)=>[.cells a false]
def LoopS.ownV (L:LoopS X D)(x:X):Value:=match L.own x with
  | none=>.slice none 0 0
  | some (_,l)=>.slice (some ⟨L.M,0,none⟩) l L.sz
def LoopS.H (L:LoopS X D)(x:X):List Ob:=L.hp x (L.ownV x)++L.ownB x
def LoopS.good (L:LoopS X D)(x:X):Prop:=gB L.Bs (L.hp x (L.ownV x))=true∧∀a l,L.own x=some (a,l)→allFz a=true
def LoopS.encS (L:LoopS X D):Sum X D→Out
  | .inl x=>.ex .normal ⟨L.sl x,[],⟨L.H x,L.N,[]⟩⟩
  | .inr d=>.ex (L.ex d) ⟨L.dv d,[],⟨L.dh d,L.N,[]⟩⟩
def kS (N M:Nat)(S:List Nat)(pick:Ex→List Nat)(Bs:List Nat)(z:Nat)(q:Option (Nat×Nat)):Kn
  | .ex e s=>match s.d,lenIs s.t N with
    | [],true=>(match e with
      | .normal=>(match q with
        | none=>gC (s.h.bl.take M) (some (.ex .normal ⟨S.map (lget s.t),[],⟨s.h.bl.take M,N,s.h.wr⟩⟩)) Bs
        | some (q,j)=>(match nthO s.h.bl q with
          | some ob=>(match obCells ob with
            | some cq=>(match lget cq j with
              | .slice none 0 0=>gC (s.h.bl.take M) (some (.ex .normal ⟨S.map (lget s.t),[],⟨s.h.bl.take M,N,s.h.wr⟩⟩)) Bs
              | .slice (some ⟨b,0,none⟩) l zz=>(match Nat.ble M b,nthO s.h.bl b with
                | true,some (.cells a false)=>cond (allFz a) (gC ((s.h.bl.take M).set q (obPut ob (lset cq j (.slice (some ⟨M,0,none⟩) l zz)))) (some (.ex .normal ⟨S.map (lget s.t),[],⟨(s.h.bl.take M).set q (obPut ob (lset cq j (.slice (some ⟨M,0,none⟩) l zz)))++[.cells a false],N,s.h.wr⟩⟩)) Bs) none
                | _,_=>none)
              | _=>none)
            | _=>none)
          | _=>none))
      | e=>(match q with
        | none=>gC (s.h.bl.take M) (some (.ex e ⟨(pick e).map (lget s.t),[],⟨s.h.bl.take M,N,s.h.wr⟩⟩)) Bs
        | some (q,j)=>(match nthO s.h.bl q with
          | some ob=>(match obCells ob with
            | some cq=>frzG M z s.h.bl [lget cq j] fun us=>frzG M z s.h.bl ((pick e).map (lget s.t)) fun vs =>
                gC ((s.h.bl.take M).set q (obPut ob (lset cq j (us.headD undef)))) (some (.ex e ⟨vs,[],⟨(s.h.bl.take M).set q (obPut ob (lset cq j (us.headD undef))),N,s.h.wr⟩⟩)) Bs
            | _=>none)
          | _=>none)))
    | _,_=>none
  | _=>none
structure LoopS.OkS (L:LoopS X D):Prop where
  s2:∀x,(L.sl x).all (fun v=>notU v&&scT L.M v)=true
  s1:∀x,(L.sl x).length=L.S.length
  h1:∀x v,(L.hp x v).length=L.M
  h2:∀x,gB L.Bs (L.hp x (.slice none 0 0))=true→(L.hp x (.slice none 0 0)).all (boxD L.M)=true
  h3:∀x v,match L.q with
    | none=>L.hp x v=L.hp x (.slice none 0 0)
    | some (q,j)=>∃(ob0:Ob) (cs:List Value),(L.hp x (.slice none 0 0))[q]?=some ob0∧obCells ob0=some cs∧j<cs.length∧L.hp x v=(L.hp x (.slice none 0 0)).set q (obPut ob0 (cs.set j v))
  h4:∀x v,gB L.Bs (L.hp x v)=gB L.Bs (L.hp x (.slice none 0 0))
  qM:∀q j,L.q=some (q,j)→q<L.M
  d1:∀d,(L.dv d).all (fun v=>notU v&&scT L.M v)=true
  d2:∀d,(L.dh d).length=L.M
  d3:∀d,gB L.Bs (L.dh d)=true→(L.dh d).all (boxD L.M)=true
  e1:∀d,L.ex d≠.normal
  e2:∀d,noPanic (L.ex d)=true
  e3:∀d,(L.pick (L.ex d)).length=(L.dv d).length
  nd:L.S.Nodup
  lt:∀k∈L.S,k<L.N
theorem all_boxD {m:Nat}{H:List Ob}(h:H.all (boxD m)=true) {i:Nat}{ob:Ob}(hi:H[i]?=some ob):boxD m ob=true:=by
  rw [List.all_eq_true]at h
  exact h ob (List.mem_of_getElem? hi)
def turnP (φ:Phi)(M b:Nat)(o:Bool):Phi:=⟨fun i=>if i<M then φ i else if i=M∧o=true then φ b else none,φ.z⟩
theorem turn_le {φ:Phi}{M b:Nat}{o:Bool}:le (cut φ M) (turnP φ M b o):=by
  refine ⟨fun i y hi=>?_,fun B o hB=>hB⟩
  rcases Nat.lt_or_ge i M with h | h
  · rw [cut_lt h]at hi
    show (if i<M then φ i else _)=some y
    rw [if_pos h];exact hi
  · rw [cut_ge h]at hi;cases hi
theorem take_get {bl H1:List Ob}{M:Nat}(h:bl.take M=H1) {b:Nat}{ob:Ob}(hb:H1[b]?=some ob):b<M∧bl[b]?=some ob:=by
  rw [← h,List.getElem?_take]at hb
  split at hb
  · exact ⟨by assumption,hb⟩
  · cases hb
theorem LoopS.same {L:LoopS X D}(ok:L.OkS) {x:X}{bl:List Ob}(ho:L.own x=none) (e:bl.take L.M=L.H x) (hg:gB L.Bs (bl.take L.M)=true) :
    L.good x∧∀(K:Nat→Prop) (w0:World) (φ:Phi) (w:World),Inv K w0 φ bl w→Inv K w0 (turnP φ L.M 0 false) (L.H x) w:=by
  have hV:L.ownV x=.slice none 0 0:=by unfold LoopS.ownV;rw [ho]
  have hB:L.ownB x=[]:=by unfold LoopS.ownB;rw [ho]
  have hH:L.H x=L.hp x (.slice none 0 0):=by unfold LoopS.H;rw [hV,hB,List.append_nil]
  have hgb:gB L.Bs (L.hp x (.slice none 0 0))=true:=by rw [← hH,← e];exact hg
  have hbox:=ok.h2 x hgb
  refine ⟨⟨by rw [hV];exact hgb,fun a l h=>by rw [ho]at h;cases h⟩,fun K w0 φ w hF=>?_⟩
  rw [hH]at e ⊢
  refine hF.view (κ:=id) (fun i ob hi hl=>?_) (fun i i' _ _ _ _ _ _ h=>h) (fun i hi=>?_) hF.frz (fun i ob y hi hrw hy=>?_) hF.zk
  · obtain ⟨k1,k2⟩:=take_get e hi
    refine ⟨ob,k2,hl,fun h=>h,if_pos k1,fun B base tot hr=>?_⟩
    exact (obSc_cut (boxD_live (all_boxD hbox hi) hl).2 hr).keep turn_le rfl
  · rw [ok.h1]at hi
    show (if i<L.M then _ else if i=L.M∧false=true then _ else none)=none
    rw [if_neg (by omega),if_neg (by simp)]
  · obtain ⟨k1,k2⟩:=take_get e hi
    have hy':(if i<L.M then φ i else if i=L.M∧false=true then φ 0 else none)=some y:=hy
    rw [if_pos k1]at hy'
    exact hF.zsep i ob y k2 hrw hy'
def leaveP (φ φ0:Phi)(bl:List Ob)(M:Nat)(w:World):Phi:=⟨fun i=>if i<M then φ i else φ0 i,zF φ bl M w⟩
theorem LoopS.leave {L:LoopS X D}(ok:L.OkS) {e:Ex}{LL:List Value}{bl:List Ob}{b1:Nat}{wr:List Nat}{d:D}
    (h:kS L.N L.M L.S L.pick L.Bs L.z L.q (.ex e ⟨LL,[],⟨bl,b1,wr⟩⟩)=some (L.encS (.inr d))) :
    e=L.ex d∧LL.length=L.N∧gB L.Bs (L.dh d)=true∧∀(K:Nat→Prop) (w0:World) (φ φ0:Phi) (w:World) (tm:Array Value) (nb:Nat),Inv K w0 φ bl w→VRs φ LL.toArray tm→(∀i y,i<L.M→φ0 i=some y→φ i=some y)→(∀B o,φ0.z B=some o→φ.z B=some o)→(∀i,L.M+nb≤i→φ0 i=none) →
      ∃ψ,le φ0 ψ∧VRs ψ (sets (junkF L.N (LL.map lo)) ((L.pick (L.ex d)).zip (L.dv d))).toArray tm∧Inv K w0 ψ (L.dh d++List.replicate nb .dead) w:=by
  unfold kS at h
  simp only at h
  split at h
  case h_2=>cases h
  rename_i hlen
  have k4:=lenIs_eq _ _ hlen
  have hle0:∀{K:Nat→Prop} {w0:World} {φ φ0:Phi} {w:World},Inv K w0 φ bl w→(∀i y,i<L.M→φ0 i=some y→φ i=some y)→(∀B o,φ0.z B=some o→φ.z B=some o)→le φ0 (leaveP φ φ0 bl L.M w):=by
    intro K w0 φ φ0 w hF h1 h2
    refine ⟨fun i y hi=>?_,fun B o hB=>(zF_made hF L.M).le B o (h2 B o hB)⟩
    show (if i<L.M then φ i else φ0 i)=some y
    split
    · rename_i h;exact h1 i y h hi
    · exact hi
  have hcut:∀{K:Nat→Prop} {w0:World} {φ φ0:Phi} {w:World},Inv K w0 φ bl w→le (cut φ L.M) (leaveP φ φ0 bl L.M w):=by
    intro K w0 φ φ0 w hF
    refine ⟨fun i y hi=>?_,fun B o hB=>(zF_made hF L.M).le B o hB⟩
    rcases Nat.lt_or_ge i L.M with h | h
    · rw [cut_lt h]at hi
      show (if i<L.M then φ i else φ0 i)=some y
      rw [if_pos h];exact hi
    · rw [cut_ge h]at hi;cases hi
  have fin:∀{K:Nat→Prop} {w0:World} {φ φ0:Phi} {w:World} {nb:Nat},Inv K w0 φ bl w→(∀i,L.M+nb≤i→φ0 i=none)→gB L.Bs (L.dh d)=true →
      (∀(i:Nat) (ob:Ob),(L.dh d)[i]?=some ob→ob.live=true→i<L.M∧∃ob',bl[i]?=some ob'∧ob'.live=true∧(ob.rw=true→ob'.rw=true)∧(bl[i]?=some ob∨∀B base tot,ObR φ w ob' B base tot→ObR (leaveP φ φ0 bl L.M w) w ob B base tot)) →
      Inv K w0 (leaveP φ φ0 bl L.M w) (L.dh d++List.replicate nb .dead) w:=by
    intro K w0 φ φ0 w nb hF htop hg hv
    have hbox:=ok.d3 d hg
    have hget:∀{i:Nat} {ob:Ob},(L.dh d++List.replicate nb Ob.dead)[i]?=some ob→ob.live=true→(L.dh d)[i]?=some ob:=by
      intro i ob hi hl
      rcases get_app hi with ⟨_,h2⟩ | ⟨_,h2⟩
      · exact h2
      · rw [List.getElem?_replicate]at h2
        split at h2
        · simp only [Option.some.injEq]at h2;subst h2;cases hl
        · cases h2
    refine hF.view (κ:=id) (fun i ob hi hl=>?_) (fun i i' _ _ _ _ _ _ h=>h) (fun i hi=>?_) (zF_frz hF L.M) (fun i ob y hi hrw hy=>?_) (fun k hk=>zF_k hF L.M hk)
    · obtain ⟨hiM,ob',g1,g2,g3,g4⟩:=hv i ob (hget hi hl) hl
      refine ⟨ob',g1,g2,g3,if_pos hiM,fun B base tot hr=>?_⟩
      rcases g4 with g4 | g4
      · rw [g1,Option.some.injEq]at g4
        subst g4
        exact (obSc_cut (boxD_live (all_boxD hbox (hget hi hl)) hl).2 hr).keep (hcut hF) rfl
      · exact g4 B base tot hr
    · rw [List.length_append,ok.d2,List.length_replicate]at hi
      show (if i<L.M then φ i else φ0 i)=none
      rw [if_neg (by omega)]
      exact htop i hi
    · have hl:=Ob.live_of_rw hrw
      obtain ⟨hiM,ob',g1,g2,g3,_⟩:=hv i ob (hget hi hl) hl
      have hy':(if i<L.M then φ i else φ0 i)=some y:=hy
      rw [if_pos hiM]at hy'
      exact zF_sep hF hiM g1 (g3 hrw) hy'
  split at h
  · exfalso
    have no:∀{T:List Value} {H:List Ob} {wr:List Nat},¬(some (Out.ex .normal ⟨T,[],⟨H,L.N,wr⟩⟩)=some (L.encS (.inr d))):=by
      intro T H wr hh
      simp only [LoopS.encS,Option.some.injEq,Out.ex.injEq]at hh
      exact ok.e1 d hh.1.symm
    split at h
    · exact no (gC_ok h).2
    · split at h
      case h_2=>cases h
      split at h
      case h_2=>cases h
      split at h
      · exact no (gC_ok h).2
      · split at h
        case h_2=>cases h
        obtain ⟨_,h⟩:=cond_some h
        exact no (gC_ok h).2
      · cases h
  · rename_i e' hne
    split at h
    · obtain ⟨g1,g2⟩:=gC_ok h
      simp only [LoopS.encS,Option.some.injEq,Out.ex.injEq,St.mk.injEq,Hp.mk.injEq,true_and]at g2
      obtain ⟨rfl,q1,q2,_⟩:=g2
      refine ⟨rfl,k4,by rw [← q2];exact g1,fun K w0 φ φ0 w tm nb hF hV ha hz ht=>⟨leaveP φ φ0 bl L.M w,hle0 hF ha hz,?_,?_⟩⟩
      · have hs:SlotRs L.M LL (sets (junkF L.N (LL.map lo)) ((L.pick (L.ex d)).zip (L.dv d))):=by
          refine slotRs_known k4 fun kv hkv=>?_
          have hm:=ok.d1 d
          rw [List.all_eq_true]at hm
          have hm1:=hm _ (List.of_mem_zip hkv).2
          rw [Bool.and_eq_true]at hm1
          rw [← q1]at hkv
          have h5:=zip_get (show (kv.1,kv.2)∈(L.pick (L.ex d)).zip ((L.pick (L.ex d)).map (lget LL)) from hkv)
          exact ⟨getElem_of_lget h5.symm hm1.1,hm1.2⟩
        exact (hs.vrs hV).mono (hcut hF)
      · refine fin hF ht (by rw [← q2];exact g1) fun i ob hi hl=>?_
        obtain ⟨k1,k2⟩:=take_get q2 hi
        exact ⟨k1,ob,k2,hl,fun h=>h,.inl k2⟩
    · rename_i q j hq
      split at h
      case h_2=>cases h
      rename_i obq hobq
      rw [nthO_eq]at hobq
      split at h
      case h_2=>cases h
      rename_i cq hcq
      obtain ⟨us,h1,u1,u2⟩:=frzG_all h
      obtain ⟨vs,h2,v1,v2⟩:=frzG_all h1
      obtain ⟨g1,g2⟩:=gC_ok h2
      simp only [LoopS.encS,Option.some.injEq,Out.ex.injEq,St.mk.injEq,Hp.mk.injEq,true_and]at g2
      obtain ⟨rfl,q1,q2,_⟩:=g2
      have hqM:=ok.qM q j hq
      have hqb:q<(bl.take L.M).length:=by rw [List.length_take];have:=lt_of_get hobq;omega
      refine ⟨rfl,k4,by rw [← q2];exact g1,fun K w0 φ φ0 w tm nb hF hV ha hz ht=>⟨leaveP φ φ0 bl L.M w,hle0 hF ha hz,?_,?_⟩⟩
      · have hpick:VRl φ ((L.pick (L.ex d)).map (lget LL)) ((L.pick (L.ex d)).map (fun i=>tm.getD i undef)):=by
          generalize L.pick (L.ex d)=pk
          induction pk with
          | nil=>exact .nil
          | cons i r ih =>
            refine .cons ?_ ih
            have:=hV.getD i
            rw [← lget_eq]at this
            exact this
        obtain ⟨u,hu,hu2⟩:=frzG_ok (ψ:=leaveP φ φ0 bl L.M w) (zF_made hF L.M) (hcut hF) h1 hpick
        obtain ⟨_,g3⟩:=gC_ok hu2
        simp only [LoopS.encS,Option.some.injEq,Out.ex.injEq,St.mk.injEq,Hp.mk.injEq,true_and]at g3
        obtain ⟨rfl,_,_⟩:=g3
        refine VRs.picks _ _ _ (VRs.lo k4 hV) hu ?_
        have hm:=ok.d1 d
        rw [List.all_eq_true]at hm ⊢
        intro v hv
        have:=hm v hv
        rw [Bool.and_eq_true]at this
        exact this.1
      · refine fin hF ht (by rw [← q2];exact g1) fun i ob hi hl=>?_
        rw [← q2]at hi
        by_cases hiq:i=q
        · subst hiq
          rw [List.getElem?_set_self hqb,Option.some.injEq]at hi
          subst hi
          refine ⟨hqM,obq,hobq,(obPut_live hcq).1,fun _=>(obPut_live hcq).2.1,.inr fun B base tot hr=>?_⟩
          have hgd:gB L.Bs (L.dh d)=true:=by rw [← q2];exact g1
          have hget:(L.dh d)[i]?=some (obPut obq (lset cq j (us.headD undef))):=by rw [← q2,List.getElem?_set_self hqb]
          have hsc:=(boxD_live (all_boxD (ok.d3 d hgd) hget) ((obPut_live hcq).2.2 _).1).2
          have hput:=obPut_cells hcq (lset cq j (us.headD undef))
          refine obR_put (n:=L.M) hcq (by rw [lset_set,List.length_set]) (fun k u u2 hu hu2 v' hv=>?_) (hcut hF) ⟨_,hsc⟩ hr
          by_cases hkj:k=j
          · subst hkj
            have hlg:lget cq k=u:=by
              rw [lget_eq,Array.getD_eq_getD_getElem?,List.getElem?_toArray,hu];rfl
            obtain ⟨w1,hw,hw2⟩:=frzG_ok (ψ:=leaveP φ φ0 bl L.M w) (zF_made hF L.M) (hcut hF) h (show VRl φ [lget cq k] [v'] by rw [hlg];exact .cons hv .nil)
            obtain ⟨vs',h2',_,_⟩:=frzG_all hw2
            obtain ⟨_,g3⟩:=gC_ok h2'
            simp only [LoopS.encS,Option.some.injEq,Out.ex.injEq,St.mk.injEq,Hp.mk.injEq,true_and]at g3
            obtain ⟨_,g4,_⟩:=g3
            have e1:=congrArg (fun z=>z[i]?) (g4.trans q2.symm)
            simp only [List.getElem?_set_self hqb,Option.some.injEq]at e1
            obtain ⟨e1,_⟩:=obPut_same hcq hcq e1
            have e2:=congrArg (fun z=>z[k]?) e1
            have hkl:k<cq.length:=lt_of_get hu
            simp only [lset_set,List.getElem?_set_self hkl,Option.some.injEq]at e2
            rw [lset_set,List.getElem?_set_self hkl,Option.some.injEq]at hu2
            subst hu2
            rw [← e2]
            cases hw with
            | cons hw3 hw4=>cases hw4;exact hw3
          · rw [lset_set,List.getElem?_set_ne (Ne.symm hkj),hu,Option.some.injEq]at hu2
            subst hu2
            exact (obCells_sc hput hsc (by rw [lset_set,List.getElem?_set_ne (Ne.symm hkj)];exact hu) hv).mono (hcut hF)
        · rw [List.getElem?_set_ne (Ne.symm hiq)]at hi
          obtain ⟨k1,k2⟩:=take_get rfl hi
          exact ⟨k1,ob,k2,hl,fun h=>h,.inl k2⟩
section
variable {P:Program}(hN:NoNG P) (hm:P.follows .mixedOrders=true)
include hN hm
end
end
end
end Go.Gi
namespace Go.Proofs.Ytoghoeebiddblaa
open Go.ChangeShapes Go.WideShapes Go.ChangeAt Go.RowKit Go.Gi
set_option maxRecDepth 100000
theorem own:ownKnob Try.prog.godebug=none:=by kernel_rfl
theorem laidOut:laidOutB Try.prog=true:=by kernel_rfl
theorem flat77:flatT Try.prog 19 77=true:=by kernel_rfl
theorem leaves77:leaves Try.prog false 19 77=I6:=by kernel_rfl
theorem cells77:Try.prog.cellsOf 77=6:=by kernel_rfl
theorem tyB31:tyB Try.prog 20 31=true:=by kernel_rfl
theorem tyB32:tyB Try.prog 20 32=true:=by kernel_rfl
theorem tySpan {d:Nat}{cs:List Value}(h:Ty Try.prog (d+1+1) 23 cs):∃a b,cs=[.int .i64 a,.int .i64 b]∧(Lit.int .i64 a).wf=true∧(Lit.int .i64 b).wf=true:=by
  obtain ⟨p0,p1,rfl,h0,h1⟩:=tyS2 Try.underlying23 h
  obtain ⟨a,rfl,e0⟩:=tyI Try.underlying3 h0
  obtain ⟨b,rfl,e1⟩:=tyI Try.underlying3 h1
  exact ⟨a,b,rfl,e0,e1⟩
theorem tyArea {d:Nat}{cs:List Value}(h:Ty Try.prog (d+1+1+1) 25 cs):∃a b c e,cs=[.int .i64 a,.int .i64 b,.int .i64 c,.int .i64 e]∧(Lit.int .i64 a).wf=true∧(Lit.int .i64 b).wf=true∧(Lit.int .i64 c).wf=true∧(Lit.int .i64 e).wf=true:=by
  obtain ⟨p0,p1,rfl,h0,h1⟩:=tyS2 Try.underlying25 h
  obtain ⟨a,b,rfl,e0,e1⟩:=tySpan h0
  obtain ⟨c,e,rfl,e2,e3⟩:=tySpan h1
  exact ⟨a,b,c,e,rfl,e0,e1,e2,e3⟩
section
variable {H:Type}{enc:TypeId×Value→H}{w:World}{r:Reach}{b0:Nat}{v:Value}{dd:DataW H}{p:List MemPlace}
theorem bandsArg (hval:Value.okWide Try.prog w r b0 32 v)(h:DataW.Trod enc Try.prog w 0 (fun _=>true) true 32 v dd p):∃c n,VR (zAll w) (lstV c 0 n 6) v∧GL I6 6 c n :=
  argRows Try.underlying32 flat77 cells77 leaves77 rfl (by decide) tyB32 hval h
theorem fallArg (hval:Value.okWide Try.prog w r b0 31 v)(h:DataW.Trod enc Try.prog w 0 (fun _=>true) true 31 v dd p) :
    ∃pc xl xh yl yh al ah hg fl fh,VR (zAll w) (.agg ⟨[.int .i64 pc,.int .i64 xl,.int .i64 xh,.int .i64 yl,.int .i64 yh,.int .i64 al,.int .i64 ah,.int .i64 hg,.int .i64 fl,.int .i64 fh]⟩) v∧(Lit.int .i64 pc).wf=true:=by
  obtain ⟨abs,h1,h2⟩:=argS Try.underlying31 tyB31 hval h
  obtain ⟨p0,p1,rfl,g0,g1⟩:=tyS2 Try.underlying31 h2
  obtain ⟨q0,q1,q2,rfl,k0,k1,k2⟩:=tyS3 Try.underlying27 g0
  obtain ⟨u0,u1,rfl,m0,m1⟩:=tyS2 Try.underlying29 g1
  obtain ⟨pc,rfl,e0⟩:=tyI Try.underlying3 k0
  obtain ⟨xl,xh,yl,yh,rfl,_,_,_,_⟩:=tyArea k1
  obtain ⟨al,ah,rfl,_,_⟩:=tySpan k2
  obtain ⟨hg,rfl,_⟩:=tyI Try.underlying3 m0
  obtain ⟨fl,fh,rfl,_,_⟩:=tySpan m1
  exact ⟨pc,xl,xh,yl,yh,al,ah,hg,fl,fh,h1,e0⟩
end
end Go.Proofs.Ytoghoeebiddblaa
namespace Go.Proofs.Ytoghoeebiddblaa
open Go.Gi Go.RowKit Go.Proofs.Ytoghoeebiddblaa.Old
noncomputable section
set_option maxRecDepth 100000
set_option maxHeartbeats 4000000
structure R13 where
  (r0:Int)
structure A13 where
  (a0 a1 a2:Int)
def rt13 (a0 a1 a2:Int):RT R13 :=
  .br (F40_ok a0 (1:Int) (100000000:Int)) (.br (not (F40_0 a0 (1:Int) (100000000:Int))) (.leaf ⟨(7:Int)⟩) (.br (F41_ok a1 a2 (1:Int) (10000:Int)) (.br (not (F41_0 a1 a2 (1:Int) (10000:Int))) (.leaf ⟨(7:Int)⟩) (.leaf ⟨(0:Int)⟩)) (.no))) (.no)
def en13 (r:R13):Value:=(.int .i64 r.r0)
theorem T13  (a0 a1 a2:Int):evC Try.prog (Ans.c (p40.or p41)) 60 (.call 13 ⟨[(.agg ⟨[(.int .i64 a0),(.int .i64 a1),(.int .i64 a2)]⟩)]⟩ ⟨[],0,[]⟩) (frzK [0])=(rt13 a0 a1 a2).out (fun r=>.ret (en13 r) ⟨[],0,[]⟩):=by kernel_rfl
def F13 (a0 a1 a2:Int):Option R13:=(rt13 a0 a1 a2).val
section
variable (a0 a1 a2:Int)
def F13_ok:Bool:=(F13 a0 a1 a2).isSome
def F13_0:Int:=match F13 a0 a1 a2 with | some r=>r.r0 | none=>0
end
def dec13:Task→Option (A13×Hp)
  | .call g ⟨[(.agg ⟨[(.int .i64 a0),(.int .i64 a1),(.int .i64 a2)]⟩)]⟩ h=>(match Nat.beq g 13 with | true=>some (⟨a0,a1,a2⟩,h) | false=>none)
  | _=>none
def alt13 (x:A13)(h:Hp):AT:=.br (F13_ok x.a0 x.a1 x.a2) (.leaf (.ret (.int .i64 (F13_0 x.a0 x.a1 x.a2)) h)) .no
def p13:Ans:=fnAns dec13 alt13
theorem ha13:∀(x:A13) (h:Hp)(o:Out),(alt13 x h).out=some o→∃r,(rt13 x.a0 x.a1 x.a2).val=some r∧o=.ret (en13 r) h:=by
  intro x h o e
  unfold alt13 at e
  simp only [AT.out]at e
  obtain ⟨g,e⟩:=cond_some e
  unfold F13_ok at g
  obtain ⟨r,hF⟩:=Option.isSome_iff_exists.1 g
  have hv:F13 x.a0 x.a1 x.a2=(rt13 x.a0 x.a1 x.a2).val:=by delta F13;exact rfl
  refine ⟨r,hv.symm.trans hF,?_⟩
  simp only [Option.some.injEq]at e
  rw [← e]
  have k0:F13_0 x.a0 x.a1 x.a2=r.r0:=by
    show (match F13 x.a0 x.a1 x.a2 with | some r=>r.r0 | none=>0)=r.r0
    rw [hF]
  rw [k0]<;>rfl
theorem hd13:∀(t:Task) (x:A13)(h:Hp),dec13 t=some (x,h)→t=.call 13 ⟨[(.agg ⟨[(.int .i64 x.a0),(.int .i64 x.a1),(.int .i64 x.a2)]⟩)]⟩ h:=by
  intro t x h e
  unfold dec13 at e
  split at e
  case h_2=>cases e
  split at e
  case h_2=>cases e
  rename_i hg
  simp only [Option.some.injEq,Prod.mk.injEq]at e
  obtain ⟨rfl,rfl⟩:=e
  rw [Nat.eq_of_beq_eq_true hg]
theorem known13:Known Try.prog p13:=by
  exact Known.fn noNG mixed (Known.or known40 known41) (n:=60) (zs:=[0]) 13 (fun x:A13=>[(.agg ⟨[(.int .i64 x.a0),(.int .i64 x.a1),(.int .i64 x.a2)]⟩)]) (fun x=>rt13 x.a0 x.a1 x.a2) en13 (fun x=>T13  x.a0 x.a1 x.a2) (fun x=>rfl) dec13 alt13 hd13 ha13
structure R44 where
  (r0:Bool)
structure A44 where
  (a0 a1:Int)
  (a2 a3:Int)
  (a4 a5 a6:Int)
def rt44 (a0 a1:Int)(a2 a3:Int)(a4 a5 a6:Int):RT R44 :=
  .br (F41_ok a1 a2 (-2000000000:Int) (2000000000:Int)) (.br (F41_0 a1 a2 (-2000000000:Int) (2000000000:Int)) (.br (F41_ok a3 a4 (-2000000000:Int) (2000000000:Int)) (.br (F41_0 a3 a4 (-2000000000:Int) (2000000000:Int)) (.br (F41_ok a5 a6 (0:Int) (100000:Int)) (.leaf ⟨(F41_0 a5 a6 (0:Int) (100000:Int))⟩) (.no)) (.leaf ⟨false⟩)) (.no)) (.leaf ⟨false⟩)) (.no)
def en44 (r:R44):Value:=(.bool r.r0)
theorem T44  (a0 a1:Int) (a2 a3:Int) (a4 a5 a6:Int):evC Try.prog (Ans.c p41) 60 (.call 44 ⟨[(.agg ⟨[(.int .i64 a0),(.int .i64 a1),(.int .i64 a2),(.int .i64 a3),(.int .i64 a4),(.int .i64 a5),(.int .i64 a6)]⟩)]⟩ ⟨[],0,[]⟩) (frzK [0])=(rt44 a0 a1 a2 a3 a4 a5 a6).out (fun r=>.ret (en44 r) ⟨[],0,[]⟩):=by kernel_rfl
def F44 (a0 a1:Int)(a2 a3:Int)(a4 a5 a6:Int):Option R44:=(rt44 a0 a1 a2 a3 a4 a5 a6).val
section
variable (a0 a1:Int) (a2 a3:Int) (a4 a5 a6:Int)
def F44_ok:Bool:=(F44 a0 a1 a2 a3 a4 a5 a6).isSome
def F44_0:Bool:=match F44 a0 a1 a2 a3 a4 a5 a6 with | some r=>r.r0 | none=>false
end
def dec44:Task→Option (A44×Hp)
  | .call g ⟨[(.agg ⟨[(.int .i64 a0),(.int .i64 a1),(.int .i64 a2),(.int .i64 a3),(.int .i64 a4),(.int .i64 a5),(.int .i64 a6)]⟩)]⟩ h=>(match Nat.beq g 44 with | true=>some (⟨a0,a1,a2,a3,a4,a5,a6⟩,h) | false=>none)
  | _=>none
def alt44 (x:A44)(h:Hp):AT:=.br (F44_ok x.a0 x.a1 x.a2 x.a3 x.a4 x.a5 x.a6) (.leaf (.ret (.bool (F44_0 x.a0 x.a1 x.a2 x.a3 x.a4 x.a5 x.a6)) h)) .no
def p44:Ans:=fnAns dec44 alt44
theorem ha44:∀(x:A44) (h:Hp)(o:Out),(alt44 x h).out=some o→∃r,(rt44 x.a0 x.a1 x.a2 x.a3 x.a4 x.a5 x.a6).val=some r∧o=.ret (en44 r) h:=by
  intro x h o e
  unfold alt44 at e
  simp only [AT.out]at e
  obtain ⟨g,e⟩:=cond_some e
  unfold F44_ok at g
  obtain ⟨r,hF⟩:=Option.isSome_iff_exists.1 g
  have hv:F44 x.a0 x.a1 x.a2 x.a3 x.a4 x.a5 x.a6=(rt44 x.a0 x.a1 x.a2 x.a3 x.a4 x.a5 x.a6).val:=by delta F44;exact rfl
  refine ⟨r,hv.symm.trans hF,?_⟩
  simp only [Option.some.injEq]at e
  rw [← e]
  have k0:F44_0 x.a0 x.a1 x.a2 x.a3 x.a4 x.a5 x.a6=r.r0:=by
    show (match F44 x.a0 x.a1 x.a2 x.a3 x.a4 x.a5 x.a6 with | some r=>r.r0 | none=>false)=r.r0
    rw [hF]
  rw [k0]<;>rfl
theorem hd44:∀(t:Task) (x:A44)(h:Hp),dec44 t=some (x,h)→t=.call 44 ⟨[(.agg ⟨[(.int .i64 x.a0),(.int .i64 x.a1),(.int .i64 x.a2),(.int .i64 x.a3),(.int .i64 x.a4),(.int .i64 x.a5),(.int .i64 x.a6)]⟩)]⟩ h:=by
  intro t x h e
  unfold dec44 at e
  split at e
  case h_2=>cases e
  split at e
  case h_2=>cases e
  rename_i hg
  simp only [Option.some.injEq,Prod.mk.injEq]at e
  obtain ⟨rfl,rfl⟩:=e
  rw [Nat.eq_of_beq_eq_true hg]
theorem known44:Known Try.prog p44:=by
  exact Known.fn noNG mixed known41 (n:=60) (zs:=[0]) 44 (fun x:A44=>[(.agg ⟨[(.int .i64 x.a0),(.int .i64 x.a1),(.int .i64 x.a2),(.int .i64 x.a3),(.int .i64 x.a4),(.int .i64 x.a5),(.int .i64 x.a6)]⟩)]) (fun x=>rt44 x.a0 x.a1 x.a2 x.a3 x.a4 x.a5 x.a6) en44 (fun x=>T44  x.a0 x.a1 x.a2 x.a3 x.a4 x.a5 x.a6) (fun x=>rfl) dec44 alt44 hd44 ha44
structure R46 where
  (r0 r1:Int)
structure A46 where
  (a0 a1:Int)
  (a2 a3:Int)
def rt46 (a0 a1:Int)(a2 a3:Int):RT R46 :=
  .leaf ⟨(IntKind.wrap .i64 (a0+a2)),(IntKind.wrap .i64 (a1+a3))⟩
def en46 (r:R46):Value:=(.agg ⟨[(.int .i64 r.r0),(.int .i64 r.r1)]⟩)
theorem T46  (a0 a1:Int) (a2 a3:Int):evC Try.prog (Ans.c (fun _=>none:Ans)) 60 (.call 46 ⟨[(.agg ⟨[(.int .i64 a0),(.int .i64 a1)]⟩),(.agg ⟨[(.int .i64 a2),(.int .i64 a3)]⟩)]⟩ ⟨[],0,[]⟩) (frzK [0])=(rt46 a0 a1 a2 a3).out (fun r=>.ret (en46 r) ⟨[],0,[]⟩):=by kernel_rfl
def F46 (a0 a1:Int)(a2 a3:Int):Option R46:=(rt46 a0 a1 a2 a3).val
section
variable (a0 a1:Int) (a2 a3:Int)
def F46_ok:Bool:=(F46 a0 a1 a2 a3).isSome
def F46_0:Int:=match F46 a0 a1 a2 a3 with | some r=>r.r0 | none=>0
def F46_1:Int:=match F46 a0 a1 a2 a3 with | some r=>r.r1 | none=>0
end
def dec46:Task→Option (A46×Hp)
  | .call g ⟨[(.agg ⟨[(.int .i64 a0),(.int .i64 a1)]⟩),(.agg ⟨[(.int .i64 a2),(.int .i64 a3)]⟩)]⟩ h=>(match Nat.beq g 46 with | true=>some (⟨a0,a1,a2,a3⟩,h) | false=>none)
  | _=>none
def alt46 (x:A46)(h:Hp):AT:=.br (F46_ok x.a0 x.a1 x.a2 x.a3) (.leaf (.ret (.agg ⟨[(.int .i64 (F46_0 x.a0 x.a1 x.a2 x.a3)),(.int .i64 (F46_1 x.a0 x.a1 x.a2 x.a3))]⟩) h)) .no
def p46:Ans:=fnAns dec46 alt46
theorem ha46:∀(x:A46) (h:Hp)(o:Out),(alt46 x h).out=some o→∃r,(rt46 x.a0 x.a1 x.a2 x.a3).val=some r∧o=.ret (en46 r) h:=by
  intro x h o e
  unfold alt46 at e
  simp only [AT.out]at e
  obtain ⟨g,e⟩:=cond_some e
  unfold F46_ok at g
  obtain ⟨r,hF⟩:=Option.isSome_iff_exists.1 g
  have hv:F46 x.a0 x.a1 x.a2 x.a3=(rt46 x.a0 x.a1 x.a2 x.a3).val:=by delta F46;exact rfl
  refine ⟨r,hv.symm.trans hF,?_⟩
  simp only [Option.some.injEq]at e
  rw [← e]
  have k0:F46_0 x.a0 x.a1 x.a2 x.a3=r.r0:=by
    show (match F46 x.a0 x.a1 x.a2 x.a3 with | some r=>r.r0 | none=>0)=r.r0
    rw [hF]
  have k1:F46_1 x.a0 x.a1 x.a2 x.a3=r.r1:=by
    show (match F46 x.a0 x.a1 x.a2 x.a3 with | some r=>r.r1 | none=>0)=r.r1
    rw [hF]
  rw [k0,k1]<;>rfl
theorem hd46:∀(t:Task) (x:A46)(h:Hp),dec46 t=some (x,h)→t=.call 46 ⟨[(.agg ⟨[(.int .i64 x.a0),(.int .i64 x.a1)]⟩),(.agg ⟨[(.int .i64 x.a2),(.int .i64 x.a3)]⟩)]⟩ h:=by
  intro t x h e
  unfold dec46 at e
  split at e
  case h_2=>cases e
  split at e
  case h_2=>cases e
  rename_i hg
  simp only [Option.some.injEq,Prod.mk.injEq]at e
  obtain ⟨rfl,rfl⟩:=e
  rw [Nat.eq_of_beq_eq_true hg]
theorem known46:Known Try.prog p46:=by
  exact Known.fn noNG mixed (Known.nothing Try.prog) (n:=60) (zs:=[0]) 46 (fun x:A46=>[(.agg ⟨[(.int .i64 x.a0),(.int .i64 x.a1)]⟩),(.agg ⟨[(.int .i64 x.a2),(.int .i64 x.a3)]⟩)]) (fun x=>rt46 x.a0 x.a1 x.a2 x.a3) en46 (fun x=>T46  x.a0 x.a1 x.a2 x.a3) (fun x=>rfl) dec46 alt46 hd46 ha46
structure R76 where
  (r0 r1:Int)
structure A76 where
  (a0 a1 a2:Int)
def rt76 (a0 a1 a2:Int):RT R76 :=
  .leaf ⟨(IntKind.wrap .i64 (a0*a2)),(IntKind.wrap .i64 (a1*a2))⟩
def en76 (r:R76):Value:=(.agg ⟨[(.int .i64 r.r0),(.int .i64 r.r1)]⟩)
theorem T76  (a0 a1 a2:Int):evC Try.prog (Ans.c (fun _=>none:Ans)) 60 (.call 76 ⟨[(.agg ⟨[(.int .i64 a0),(.int .i64 a1)]⟩),(.int .i64 a2)]⟩ ⟨[],0,[]⟩) (frzK [0])=(rt76 a0 a1 a2).out (fun r=>.ret (en76 r) ⟨[],0,[]⟩):=by kernel_rfl
def F76 (a0 a1 a2:Int):Option R76:=(rt76 a0 a1 a2).val
section
variable (a0 a1 a2:Int)
def F76_ok:Bool:=(F76 a0 a1 a2).isSome
def F76_0:Int:=match F76 a0 a1 a2 with | some r=>r.r0 | none=>0
def F76_1:Int:=match F76 a0 a1 a2 with | some r=>r.r1 | none=>0
end
def dec76:Task→Option (A76×Hp)
  | .call g ⟨[(.agg ⟨[(.int .i64 a0),(.int .i64 a1)]⟩),(.int .i64 a2)]⟩ h=>(match Nat.beq g 76 with | true=>some (⟨a0,a1,a2⟩,h) | false=>none)
  | _=>none
def alt76 (x:A76)(h:Hp):AT:=.br (F76_ok x.a0 x.a1 x.a2) (.leaf (.ret (.agg ⟨[(.int .i64 (F76_0 x.a0 x.a1 x.a2)),(.int .i64 (F76_1 x.a0 x.a1 x.a2))]⟩) h)) .no
def p76:Ans:=fnAns dec76 alt76
theorem ha76:∀(x:A76) (h:Hp)(o:Out),(alt76 x h).out=some o→∃r,(rt76 x.a0 x.a1 x.a2).val=some r∧o=.ret (en76 r) h:=by
  intro x h o e
  unfold alt76 at e
  simp only [AT.out]at e
  obtain ⟨g,e⟩:=cond_some e
  unfold F76_ok at g
  obtain ⟨r,hF⟩:=Option.isSome_iff_exists.1 g
  have hv:F76 x.a0 x.a1 x.a2=(rt76 x.a0 x.a1 x.a2).val:=by delta F76;exact rfl
  refine ⟨r,hv.symm.trans hF,?_⟩
  simp only [Option.some.injEq]at e
  rw [← e]
  have k0:F76_0 x.a0 x.a1 x.a2=r.r0:=by
    show (match F76 x.a0 x.a1 x.a2 with | some r=>r.r0 | none=>0)=r.r0
    rw [hF]
  have k1:F76_1 x.a0 x.a1 x.a2=r.r1:=by
    show (match F76 x.a0 x.a1 x.a2 with | some r=>r.r1 | none=>0)=r.r1
    rw [hF]
  rw [k0,k1]<;>rfl
theorem hd76:∀(t:Task) (x:A76)(h:Hp),dec76 t=some (x,h)→t=.call 76 ⟨[(.agg ⟨[(.int .i64 x.a0),(.int .i64 x.a1)]⟩),(.int .i64 x.a2)]⟩ h:=by
  intro t x h e
  unfold dec76 at e
  split at e
  case h_2=>cases e
  split at e
  case h_2=>cases e
  rename_i hg
  simp only [Option.some.injEq,Prod.mk.injEq]at e
  obtain ⟨rfl,rfl⟩:=e
  rw [Nat.eq_of_beq_eq_true hg]
theorem known76:Known Try.prog p76:=by
  exact Known.fn noNG mixed (Known.nothing Try.prog) (n:=60) (zs:=[0]) 76 (fun x:A76=>[(.agg ⟨[(.int .i64 x.a0),(.int .i64 x.a1)]⟩),(.int .i64 x.a2)]) (fun x=>rt76 x.a0 x.a1 x.a2) en76 (fun x=>T76  x.a0 x.a1 x.a2) (fun x=>rfl) dec76 alt76 hd76 ha76
end
end Go.Proofs.Ytoghoeebiddblaa
