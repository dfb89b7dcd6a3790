/- Part 7 of the texts below the claim. Conditions: none. -/
import Derived.Test.YtoojllndfjamgaaMg6
import Derived.WalkKit
import Derived.ProofKit
import Derived.OpenShut
import Derived.ChangeOld
import Derived.Below
import Derived.Deep.Strs
import Derived.ChangeMaps5
import Derived.Test.YtoojllndfjamgaaProg
import Derived.Test.YtoojllndfjamgaaRows
import Derived.Test.YtoojllndfjamgaaMg5
set_option linter.unusedVariables false
set_option linter.unusedSimpArgs false
namespace Go.Gi
open Go.RowKit
noncomputable section
def Ty (P:Program):Nat→TypeId→List Value→Prop
  | 0,_,_=>False
  | d+1,t,cs=>match P.underlying t with
    | some .bool=>∃b,cs=[.bool b]
    | some (.int q)=>∃n,cs=[.int q n]∧(Lit.int q n).wf=true
    | some .string=>∃s,cs=[.string s]∧s.size≤maxLen
    | some (.struct fs)=>∃ps:List (List Value),cs=ps.flatten∧All2 (fun (f:Field) p=>Ty P d f.type p) fs.toList ps
    | some (.array n e)=>∃ps:List (List Value),cs=ps.flatten∧ps.length=n∧∀p∈ps,Ty P d e p
    | some (.slice e)=>∃(c:Array Value) (n:Nat),cs=[lstV c 0 n (P.cellsOf e)]∧c.size=n*P.cellsOf e∧n≤maxLen∧∀k,k<n→Ty P d e ((c.toList.drop (k*P.cellsOf e)).take (P.cellsOf e))
    | _=>False
def tyB (P:Program):Nat→TypeId→Bool
  | 0,_=>false
  | d+1,t=>match P.underlying t with
    | some .bool | some (.int _) | some .string=>true
    | some (.struct fs)=>offsB P 0 fs.toList&&(P.cellsOf t == (fs.toList.map fun f=>P.cellsOf f.type).sum)&&fs.toList.all fun f=>tyB P d f.type
    | some (.array n e)=>(P.cellsOf t == n*P.cellsOf e)&&tyB P d e
    | some (.slice e)=>Nat.blt 0 (P.cellsOf e)&&tyB P d e
    | _=>false
where offsB (P:Program):Nat→List Field→Bool
  | _,[]=>true
  | o,f::r=>(f.offset == o)&&offsB P (o+P.cellsOf f.type) r
section
variable {H:Type}{enc:TypeId×Value→H}{P:Program}{w:World}{base:Nat}{held:Bool}
theorem rows_of {z:Nat}{Q:Nat→List Value→Prop}:∀{n:Nat},(∀i,i<n→∃r:List Value,r.length=z∧Q i r)→∃c:List Value,c.length=n*z∧∀i,i<n→Q i ((c.drop (i*z)).take z)
  | 0,_=>⟨[],by simp,fun i hi=>absurd hi (Nat.not_lt_zero _)⟩
  | n+1,h=>by
    obtain ⟨c,h1,h2⟩:=rows_of (n:=n) fun i hi=>h i (by omega)
    obtain ⟨r,h3,h4⟩:=h n (by omega)
    refine ⟨c++r,by rw [List.length_append,h1,h3,Nat.add_mul,Nat.one_mul],fun i hi=>?_⟩
    rcases Nat.lt_or_ge i n with hlt | hge
    · have hle:i*z+z≤c.length:=by
        rw [h1]
        have:=Nat.mul_le_mul_right z hlt
        rw [Nat.succ_mul]at this
        exact this
      rw [List.drop_append_of_le_length (by omega),List.take_append_of_le_length (by rw [List.length_drop];omega)]
      exact h2 i hlt
    · obtain rfl:i=n:=by omega
      rw [← h1,List.drop_left,← h3,List.take_length]
      exact h4
theorem fr_fields {z:Nat→Option Obj}{d:Nat}{cs:List Value}(ih:∀(f:TypeId) (q:List Value),tyB P d f=true→(∃fuel x,DataW.trod enc P w base (fun _=>true) held fuel f q=some x)→∃abs,All2 (FR z) abs q∧Ty P d f abs) :
    ∀{fs:List Field} {o:Nat},tyB.offsB P o fs=true→(∀f∈fs,tyB P d f.type=true∧∃fuel x,DataW.trod enc P w base (fun _=>true) held fuel f.type ((cs.drop f.offset).take (P.cellsOf f.type))=some x) →
    ∃ps:List (List Value),All2 (FR z) ps.flatten ((cs.drop o).take (fs.map fun f=>P.cellsOf f.type).sum)∧All2 (fun (f:Field) p=>Ty P d f.type p) fs ps
  | [],o,_,_=>⟨[],by simp;exact .nil,.nil⟩
  | f::r,o,h,hf=>by
    simp only [tyB.offsB,Bool.and_eq_true,beq_iff_eq]at h
    obtain ⟨h1,h2⟩:=h
    obtain ⟨k1,k2⟩:=hf f (List.mem_cons_self ..)
    obtain ⟨abs,a1,a2⟩:=ih f.type _ k1 k2
    obtain ⟨ps,b1,b2⟩:=fr_fields ih h2 fun g hg=>hf g (List.mem_cons_of_mem _ hg)
    refine ⟨abs::ps,?_,.cons a2 b2⟩
    rw [List.flatten_cons,List.map_cons,List.sum_cons,List.take_add,List.drop_drop]
    rw [h1]at a1
    exact a1.append b1
theorem fr_rows {z:Nat→Option Obj}{k:Nat}{cs:List Value}{Q:List Value→Prop}:∀{n:Nat},(∀i,i<n→∃abs,All2 (FR z) abs ((cs.drop (i*k)).take k)∧Q abs) →
    ∃ps:List (List Value),ps.length=n∧All2 (FR z) ps.flatten (cs.take (n*k))∧∀p∈ps,Q p
  | 0,_=>⟨[],rfl,by simp;exact .nil,fun p hp=>by simp at hp⟩
  | n+1,h=>by
    obtain ⟨ps,h1,h2,h3⟩:=fr_rows (n:=n) fun i hi=>h i (by omega)
    obtain ⟨r,h4,h5⟩:=h n (by omega)
    refine ⟨ps++[r],by simp [h1],?_,fun p hp=>?_⟩
    · rw [List.flatten_append,Nat.add_mul,Nat.one_mul,List.take_add]
      simp only [List.flatten_cons,List.flatten_nil,List.append_nil]
      exact h2.append h4
    · rw [List.mem_append,List.mem_singleton]at hp
      rcases hp with hp | rfl
      · exact h3 p hp
      · exact h5
theorem fr_trod:∀{d:Nat}{t:TypeId}{fuel:Nat}{cs:List Value}{x:DataW H×List MemPlace},tyB P d t=true→DataW.trod enc P w base (fun _=>true) held fuel t cs=some x →
    ∃abs,All2 (FR fun B=>w.heap[B]?) abs cs∧Ty P d t abs
  | 0,_,_,_,_,h,_=>by cases h
  | d+1,t,0,cs,x,_,h=>by simp [DataW.trod]at h
  | d+1,t,fuel+1,cs,x,hf,h=>by
    have h0:=h
    unfold tyB at hf
    split at hf
    · rename_i hu
      unfold DataW.trod at h
      rw [hu]at h
      simp only at h
      split at h<;>first | (cases h;done) | skip
      all_goals first | (rename_i he;cases he;done) | skip
      exact ⟨_,.cons (.gnd rfl) .nil,by unfold Ty;rw [hu];exact ⟨_,rfl⟩⟩
    · rename_i q hu
      unfold DataW.trod at h
      rw [hu]at h
      simp only at h
      split at h<;>first | (cases h;done) | skip
      all_goals first | (rename_i he;cases he;done) | skip
      rename_i k k' n he
      cases he
      split at h
      · rename_i hc
        obtain ⟨rfl,hw⟩:=hc
        exact ⟨_,.cons (.gnd rfl) .nil,by unfold Ty;rw [hu];exact ⟨_,rfl,hw⟩⟩
      · cases h
    · rename_i hu
      unfold DataW.trod at h
      rw [hu]at h
      simp only at h
      split at h<;>first | (cases h;done) | skip
      all_goals first | (rename_i he;cases he;done) | skip
      split at h
      · rename_i hc;exact ⟨_,.cons (.gnd rfl) .nil,by unfold Ty;rw [hu];exact ⟨_,rfl,hc⟩⟩
      · cases h
    · rename_i fs hu
      simp only [Bool.and_eq_true,beq_iff_eq,List.all_eq_true]at hf
      obtain ⟨⟨h1,h2⟩,h3⟩:=hf
      unfold DataW.trod at h
      rw [hu]at h
      simp only at h
      split at h
      · rename_i hl
        rw [Option.map_eq_some_iff]at h
        obtain ⟨ys,hy,_⟩:=h
        have h4:=mapM_all hy
        obtain ⟨ps,a1,a2⟩:=fr_fields (z:=fun B=>w.heap[B]?) (d:=d) (cs:=cs) (P:=P) (w:=w) (enc:=enc) (base:=base) (held:=held) (fun f q hq ⟨fu,x,hx⟩=>fr_trod hq hx) h1 fun f hm=>by
          obtain ⟨y,h5⟩:=h4 f hm
          exact ⟨h3 f hm,_,_,h5⟩
        rw [List.drop_zero,← h2,← hl,List.take_length]at a1
        exact ⟨_,a1,by unfold Ty;rw [hu];exact ⟨ps,rfl,a2⟩⟩
      · cases h
    · rename_i n e hu
      simp only [Bool.and_eq_true,beq_iff_eq]at hf
      obtain ⟨h1,h2⟩:=hf
      unfold DataW.trod at h
      rw [hu]at h
      simp only at h
      split at h
      · rename_i hl
        rw [Option.map_eq_some_iff]at h
        obtain ⟨ys,hy,_⟩:=h
        have h4:=mapM_all hy
        obtain ⟨ps,a1,a2,a3⟩:=fr_rows (z:=fun B=>w.heap[B]?) (n:=n) (k:=P.cellsOf e) (cs:=cs) (Q:=Ty P d e) fun i hi=>by
          obtain ⟨y,h5⟩:=h4 i (List.mem_range.2 hi)
          exact fr_trod h2 h5
        rw [← h1,← hl,List.take_length]at a2
        exact ⟨_,a2,by unfold Ty;rw [hu];exact ⟨ps,rfl,a1,a3⟩⟩
      · cases h
    · rename_i e hu
      rw [Bool.and_eq_true,Nat.blt_eq]at hf
      obtain ⟨hpos,he⟩:=hf
      rcases Go.Deep.open_slice hu h0 with ⟨hcs,_⟩ | ⟨a,len,cap,m,k,D,Pl,hcs,hb,hl,hm,hmm,_,hx⟩
      · subst hcs
        exact ⟨_,.cons (.lstZ #[] 0 (P.cellsOf e) none) .nil,by unfold Ty;rw [hu];exact ⟨#[],0,rfl,by simp,Nat.zero_le _,fun k hk=>absurd hk (Nat.not_lt_zero _)⟩⟩
      · subst hcs
        simp only [if_true]at hmm
        subst hmm
        by_cases hc0:m=0
        · subst hc0
          obtain rfl:len=0:=by omega
          exact ⟨_,.cons (.lstZ #[] 0 (P.cellsOf e) (some a)) .nil,by unfold Ty;rw [hu];exact ⟨#[],0,rfl,by simp,Nat.zero_le _,fun k hk=>absurd hk (Nat.not_lt_zero _)⟩⟩
        · have hrow:∀i,i<m→∃r:List Value,r.length=P.cellsOf e∧(Ty P d e r∧∀j,j<P.cellsOf e→∃u,w.cell? ((a.add (i*P.cellsOf e)).add j)=some u∧FR (fun B=>w.heap[B]?) (r.getD j undef) u):=by
            intro i hi
            obtain ⟨cs',h1,h2⟩:=hx i hi
            obtain ⟨h5,h3,h4⟩:=World.cells?_some h1
            obtain ⟨abs,a1,a2⟩:=fr_trod he h2
            have hlen:=a1.len
            have hcl:cs'.length=P.cellsOf e:=h3
            refine ⟨abs,by omega,a2,fun j hj=>?_⟩
            obtain ⟨u,hu1,hu2⟩:=a1.get (List.getElem?_eq_getElem (show j<abs.length by omega))
            refine ⟨u,?_,?_⟩
            · rw [h4 j (by omega)];exact hu1
            · rw [List.getD_eq_getElem?_getD,List.getElem?_eq_getElem (show j<abs.length by omega)];exact hu2
          obtain ⟨c,hc1,hc2⟩:=rows_of (n:=len) fun i hi=>hrow i (by omega)
          have hcz:c.length=len*P.cellsOf e:=hc1
          obtain ⟨r0,hr0,_,hq0⟩:=hrow 0 (by omega)
          obtain ⟨u0,hu0,_⟩:=hq0 0 hpos
          obtain ⟨hs,C,el,fr,hh,_⟩:=cell_some hu0
          obtain ⟨B,off,spot⟩:=a
          simp only [Nat.zero_mul,Addr.add,if_true]at hs hh
          subst hs
          have hcell:∀i,i<len→∀j,j<P.cellsOf e→∃u,C[off+(i*P.cellsOf e+j)]?=some u∧FR (fun B=>w.heap[B]?) (c.getD (i*P.cellsOf e+j) undef) u:=by
            intro i hi j hj
            obtain ⟨_,hq⟩:=hc2 i hi
            obtain ⟨u,k1,k2⟩:=hq j hj
            obtain ⟨_,C',el',fr',hh',k3⟩:=cell_some k1
            simp only [add_at]at hh' k3
            rw [hh]at hh'
            cases hh'
            refine ⟨u,by rw [← Nat.add_assoc];exact k3,?_⟩
            have hle:i*P.cellsOf e+j<c.length:=by
              rw [hcz]
              have:=Nat.mul_le_mul_right (P.cellsOf e) hi
              rw [Nat.succ_mul]at this
              omega
            rw [List.getD_eq_getElem?_getD,List.getElem?_take,if_pos hj,List.getElem?_drop]at k2
            rw [List.getD_eq_getElem?_getD]
            exact k2
          have hall:∀i,i<c.length→∃u,C[off+i]?=some u∧FR (fun B=>w.heap[B]?) (c.getD i undef) u:=by
            intro i hi
            rw [hcz]at hi
            have hd:i / P.cellsOf e<len:=Nat.div_lt_of_lt_mul (by rw [Nat.mul_comm];exact hi)
            obtain ⟨u,k1,k2⟩:=hcell _ hd _ (Nat.mod_lt i hpos)
            have e1:i / P.cellsOf e*P.cellsOf e+i % P.cellsOf e=i:=by
              have:=Nat.div_add_mod i (P.cellsOf e)
              rw [Nat.mul_comm]at this;exact this
            rw [e1]at k1 k2
            exact ⟨u,k1,k2⟩
          rcases Nat.eq_zero_or_pos len with rfl | hlen
          · refine ⟨_,.cons (.lst (c:=#[]) (C:=C) (el:=el) (fr:=fr) (off:=0) (len:=0) (sz:=P.cellsOf e) (cap':=m) (B:=B) (base:=off) hh (by
              obtain ⟨_,C',el',fr',hh',k3⟩:=cell_some hu0
              simp only [add_at]at hh' k3
              rw [hh]at hh';cases hh'
              have:=(Array.getElem?_eq_some_iff.1 k3).1
              simp;omega) (fun i hi=>absurd hi (Nat.not_lt_zero _)) (Nat.zero_le _) (by simp)) .nil,?_⟩
            unfold Ty;rw [hu];exact ⟨#[],0,rfl,by simp,Nat.zero_le _,fun k hk=>absurd hk (Nat.not_lt_zero _)⟩
          · refine ⟨_,.cons (.lst (c:=⟨c⟩) (C:=C) (el:=el) (fr:=fr) (off:=0) (len:=len) (sz:=P.cellsOf e) (cap':=m) (B:=B) (base:=off) hh ?_ (fun i hi=>?_) hl (by simp;omega)) .nil,?_⟩
            · have hlc:0<c.length:=by rw [hcz];exact Nat.mul_pos hlen hpos
              obtain ⟨u,k1,_⟩:=hall (c.length-1) (by omega)
              have:=(Array.getElem?_eq_some_iff.1 k1).1
              simp;omega
            · obtain ⟨u,k1,k2⟩:=hall i (by simpa using hi)
              rw [Array.getD_eq_getD_getElem?,Array.getD_eq_getD_getElem?,k1]
              rw [List.getD_eq_getElem?_getD]at k2
              simpa using k2
            · unfold Ty;rw [hu]
              exact ⟨⟨c⟩,len,rfl,by simpa using hcz,by omega,fun k hk=>(hc2 k hk).1⟩
    · cases hf
theorem fr_one {t:TypeId}{v:Value}{fuel:Nat}{x:DataW H×List MemPlace}(ht:tyB P 20 t=true) (h:DataW.trod enc P w base (fun _=>true) held fuel t [v]=some x):∃a,VR (zAll w) a v∧Ty P 20 t [a]:=by
  obtain ⟨abs,h1,h2⟩:=fr_trod ht h
  cases h1 with
  | cons h3 h4 =>
    cases h4
    exact ⟨_,FR.vr (φ:=zAll w) h3,h2⟩
end
end
end Go.Gi
namespace Go.Gi
open Go.ChangeShapes Go.WideShapes Go.ChangeAt Go.RowKit
section
variable {P:Program}
theorem tyL {d:Nat}{t e:TypeId}{cs:List Value}(hu:P.underlying t=some (.slice e)) (h:Ty P (d+1) t cs) :
    ∃(c:Array Value) (n:Nat),cs=[lstV c 0 n (P.cellsOf e)]∧c.size=n*P.cellsOf e∧n≤maxLen∧∀k,k<n→Ty P d e ((c.toList.drop (k*P.cellsOf e)).take (P.cellsOf e)):=by
  unfold Ty at h
  rw [hu]at h
  exact h
structure GL (L:List Leaf) (z:Nat) (c:Array Value) (n:Nat):Prop where
  good:GoodL L c 0 n
  size:c.size=n*z
  few:n≤maxLen
end
theorem GL.or {L:List Leaf}{z n:Nat}{c:Array Value}(h:GL L z c n):n=0∨GoodL L c 0 n:=.inr h.good
theorem tyK {P:Program}{q:IntKind}{d:Nat}{t:TypeId}{cs:List Value}(hu:P.underlying t=some (.int q)) (h:Ty P (d+1) t cs):∃n,cs=[.int q n]∧(Lit.int q n).wf=true:=by
  unfold Ty at h
  rw [hu]at h
  exact h
end Go.Gi
namespace Go.Gi
open Go.RowKit
theorem ofIntNat (w m:Nat)(h:m<2 ^ w):(BitVec.ofInt w (m:Int)).toNat=m:=by
  rw [BitVec.toNat_ofInt]
  rw [show ((m:Int) % ((2 ^ w:Nat):Int))=(m:Int) by
    rw [Int.emod_eq_of_lt (by omega) (by exact_mod_cast h)]]
  rfl
theorem wrapU16 (m:Nat)(h:m<65536):IntKind.wrap .u16 (m:Int)=(m:Int):=by
  simp only [IntKind.wrap,IntKind.bits,IntKind.signed,Bool.false_and,Bool.false_eq_true,if_false]
  omega
theorem wrapI64 (m:Nat)(h:m<2 ^ 63):IntKind.wrap .i64 (m:Int)=(m:Int):=wrap64_id (by omega) (by omega)
theorem xorU16 (m n:Nat)(hm:m<65536)(hn:n<65536):xorI .u16 (m:Int) (n:Int)=((m ^^^ n:Nat):Int):=by
  unfold xorI
  rw [BitVec.toNat_xor,ofIntNat _ m hm,ofIntNat _ n hn]
  exact wrapU16 _ (Nat.xor_lt_two_pow (n:=16) hm hn)
theorem xorI64 (m n:Nat)(hm:m<2 ^ 63)(hn:n<2 ^ 63):xorI .i64 (m:Int) (n:Int)=((m ^^^ n:Nat):Int):=by
  unfold xorI
  rw [BitVec.toNat_xor,ofIntNat _ m (Nat.lt_trans hm (by decide)),ofIntNat _ n (Nat.lt_trans hn (by decide))]
  exact wrapI64 _ (Nat.xor_lt_two_pow (n:=63) hm hn)
structure BL (c:Array Value) (n:Nat):Prop where
  size:c.size=n
  few:n≤maxLen
  isu:∀k,k<n→isInt .u8 c k=true
  lo:∀k,k<n→0≤getInt c k
  hi:∀k,k<n→getInt c k<256
theorem lget_drop_take {c:List Value}{k:Nat}{v:Value}(h:(c.drop k).take 1=[v]):lget c k=v:=by
  induction c generalizing k with
  | nil=>simp at h
  | cons x r ih =>
    cases k with
    | zero=>simp at h;exact h
    | succ k=>exact ih (by simpa using h)
theorem tyBytes {P:Program}{d:Nat}{t e:TypeId}{cs:List Value}(hu:P.underlying t=some (.slice e)) (he:P.underlying e=some (.int .u8)) (hz:P.cellsOf e=1) (h:Ty P (d+1+1) t cs) :
    ∃c n,cs=[lstV c 0 n 1]∧BL c n:=by
  obtain ⟨c,n,h1,h2,h3,h4⟩:=tyL hu h
  rw [hz]at h1 h2
  refine ⟨c,n,h1,by omega,h3,?_,?_,?_⟩<;>intro k hk
  all_goals
    have:=h4 k hk
    rw [hz,Nat.mul_one]at this
    obtain ⟨m,hm,hw⟩:=tyK he this
    have hl:=lget_drop_take hm
    have hw2:(decide ((0:Int)≤m)&&decide (m≤(255:Int)))=true:=hw
    rw [Bool.and_eq_true,decide_eq_true_eq,decide_eq_true_eq]at hw2
    replace hw:=hw2
  · unfold isInt;rw [hl];rfl
  · unfold getInt;rw [hl];exact hw.1
  · unfold getInt;rw [hl]
    have:m≤255:=hw.2
    show m<256
    omega
section
variable {P:Program}{H:Type}{enc:TypeId×Value→H}{w:World}{r:Reach}{b0:Nat}{v:Value}{dd:DataW H}{p:List MemPlace}{t e:TypeId}
open Go.WideShapes in
theorem argSl (hu:P.underlying t=some (.slice e))(ht:tyB P 20 t=true)(hval:Value.okWide P w r b0 t v)(h:DataW.Trod enc P w 0 (fun _=>true) true t v dd p):∃a,VR (zAll w) a v∧Ty P 20 t [a]:=by
  obtain ⟨a0,len,cap,rfl⟩:=okWide_slice hu hval
  obtain ⟨fu,hf⟩:=h
  exact fr_one ht hf
theorem argBytes (hu:P.underlying t=some (.slice e))(he:P.underlying e=some (.int .u8))(hz:P.cellsOf e=1)(ht:tyB P 20 t=true)(hval:Value.okWide P w r b0 t v)(h:DataW.Trod enc P w 0 (fun _=>true) true t v dd p) :
    ∃c n,VR (zAll w) (lstV c 0 n 1) v∧BL c n:=by
  obtain ⟨a,h1,h2⟩:=argSl hu ht hval h
  obtain ⟨c,n,e1,e2⟩:=tyBytes hu he hz h2
  obtain rfl:a=lstV c 0 n 1:=by simpa using e1
  exact ⟨c,n,h1,e2⟩
end
noncomputable def byt (c:Array Value)(k:Nat):Nat:=(getInt c k).toNat
theorem BL.eq {c:Array Value}{n k:Nat}(h:BL c n) (hk:k<n):getInt c k=(byt c k:Int):=by
  have:=h.lo k hk;unfold byt;omega
theorem BL.lt {c:Array Value}{n k:Nat}(h:BL c n) (hk:k<n):byt c k<256:=by
  have:=h.lo k hk;have:=h.hi k hk;unfold byt;omega
def iterN {σ:Type}(f:Nat→σ→σ):Nat→Nat→σ→σ
  | 0,_,s=>s
  | m+1,k,s=>iterN f m (k+1) (f k s)
theorem iterN_inv {σ:Type}{f:Nat→σ→σ}{I:σ→Prop}{n:Nat}(hI:∀k s,k<n→I s→I (f k s)):∀m k s,k+m=n→I s→I (iterN f m k s)
  | 0,_,_,_,h=>h
  | m+1,k,s,e,h=>iterN_inv hI m (k+1) _ (by omega) (hI k s (by omega) h)
theorem loop_iter {X D σ:Type}{rd:X→RT (Sum X D)}{S:Nat→σ→X}{f:Nat→σ→σ}{n:Nat}{fin:σ→D}{I:σ→Prop}(hI:∀k s,k<n→I s→I (f k s))
    (hs:∀k s,k<n→I s→(rd (S k s)).val=some (.inl (S (k+1) (f k s)))) (hf:∀s,I s→(rd (S n s)).val=some (.inr (fin s))) :
    ∀m k s,k+m=n→I s→loopR rd (S k s)=some (fin (iterN f m k s))
  | 0,k,s,e,h=>by
    obtain rfl:k=n:=by omega
    exact loopR_done (hf s h)
  | m+1,k,s,e,h=>by
    rw [loopR_next (hs k s (by omega) h)]
    exact loop_iter hI hs hf m (k+1) (f k s) (by omega) (hI k s (by omega) h)
end Go.Gi
namespace Go.Proofs.Ytoojllndfjamgaa
open Go.Gi Go.RowKit
theorem noNG_of {P : Program} (h : (P.funcs.toList.all fun fn=>!(fn.name == "runtime.NumGoroutine")) = true) : NoNG P:=by
  intro f fn hf _
  rw [List.all_eq_true]at h
  have:=h fn (by rw [Array.mem_toList_iff];exact Array.mem_of_getElem? hf)
  simpa using this
theorem noNG:NoNG Try.prog:=noNG_of (by decide +kernel)
theorem mixed:Try.prog.follows .mixedOrders=true:=by decide +kernel
end Go.Proofs.Ytoojllndfjamgaa
namespace Go.Proofs.Ytoojllndfjamgaa.Old
end Go.Proofs.Ytoojllndfjamgaa.Old
namespace Go.Proofs.Ytoojllndfjamgaa
open Go.ChangeShapes Go.WideShapes Go.ChangeAt Go.RowKit Go.Gi
set_option maxRecDepth 100000
theorem own:ownKnob Try.prog.godebug=none:=by kernel_rfl
theorem laidOut:laidOutB Try.prog=true:=by kernel_rfl
theorem tyB36:tyB Try.prog 20 36=true:=by kernel_rfl
section
variable {H:Type}{enc:TypeId×Value→H}{w:World}{r:Reach}{b0:Nat}{v:Value}{dd:DataW H}{p:List MemPlace}
theorem bytesArg (hval:Value.okWide Try.prog w r b0 36 v)(h:DataW.Trod enc Try.prog w 0 (fun _=>true) true 36 v dd p):∃c n,VR (zAll w) (lstV c 0 n 1) v∧BL c n :=
  argBytes Try.underlying36 Try.underlying5 rfl tyB36 hval h
end
end Go.Proofs.Ytoojllndfjamgaa
namespace Go.Gi
open Go.RowKit
noncomputable section
def AnyOk (P:Program)(os:Array Oper) (s s':St):Prop :=
  s.h.base≤s.h.bl.length→Pres s.h s'.h∧∀(K:Nat→Prop) (w0:World) (φ:Phi) (w:World) (a:Act) (F:Fence) (n:Nat) (rd:Option Nat) (Q:Exit→Act→World→Prop),
    Inv K w0 φ s.h.bl w→VRs φ s.t.toArray a.tmps→DRs φ s.d a.defers→FenceOk φ rd F→(∀x a w',CodeR K w0 φ .normal s' x a w'→Q x a w')→wpAnyIn F n P .any os Q os.size (Array.replicate os.size false) a { w with drawn:=w.drawn+1 }
theorem drawn_any {P:Program}{self:Self}(hN:NoNG P) (hs:SelfOk P self) {rd:Option Nat}{id:Nat}{os:Array Oper}{s:St}{o:Out}(h:drawn P self rd id os s=some o):∃s',o=.ex .normal s'∧AnyOk P os s s':=by
  unfold drawn at h
  split at h
  case isFalse=>cases h
  rename_i hp
  split at h
  case h_2=>cases h
  rename_i recs T h1 hr
  split at h
  case isFalse=>cases h
  rename_i hc
  simp only [Option.some.injEq]at h
  subst h
  have p:=plan_of hp hr hc
  refine ⟨_,rfl,fun hb=>⟨(p.tr.pres hs hb).1,?_⟩⟩
  intro K w0 φ w a F n rd Q hI ht hd hF hQ
  have h0:∀j,(Array.replicate os.size false).getD j false=false:=fun j=>by
    simp only [Array.getD_eq_getD_getElem?,Array.getElem?_replicate]
    split<;>rfl
  refine p.run hN hs hb os.size _ (List.range os.size) φ a _ (by simp) ?_ ?_ (by simp) ?_ ?_ hd hF hQ
  · intro j k hj;simp only [h0]at hj;cases hj
  · intro i hi _;exact List.mem_range.2 hi
  · rw [HD_none _ fun r _ _=>h0 r.i];exact hI.drew
  · rw [TD_none _ fun r _=>h0 r.i];exact ht
theorem drawnF_any {P:Program}{self:Self}(hN:NoNG P) (hs:SelfOk P self) {rd:Option Nat}{id:Nat}{os:Array Oper}{s:St}{o:Out}(h:drawnF P self rd id os s=some o):∃s',o=.ex .normal s'∧AnyOk P os s s':=by
  unfold drawnF at h
  split at h
  case isFalse=>cases h
  rename_i hp
  split at h
  case h_2=>cases h
  rename_i recs T h1 hr
  split at h
  case isFalse=>cases h
  rename_i hc
  simp only [Option.some.injEq]at h
  subst h
  simp only [Bool.and_eq_true]at hc
  have p:=planF_of hp hr hc.1 hc.2.1
  have hdl:∀r∈recs,r.loud=true→isAl r.o=true→∀t,r.o.dst=some t→t<s.t.length:=by
    intro r hr hl ha t ht
    have:=hc.2.2
    rw [List.all_eq_true]at this
    have:=this r hr
    rw [hl,ha,ht]at this
    simpa using this
  refine ⟨_,rfl,fun hb=>⟨(p.tr.pres hs hb).1,?_⟩⟩
  intro K w0 φ w a F n rd Q hI ht hd hF hQ
  have h0:∀j,(Array.replicate os.size false).getD j false=false:=fun j=>by
    simp only [Array.getD_eq_getD_getElem?,Array.getElem?_replicate]
    split<;>rfl
  have hnf:∀r,¬IsFl recs (fun j=>(Array.replicate os.size false).getD j false) (fun _=>false) r:=fun r hr=>by have:=hr.2.2.2.1;simp only [h0]at this;cases this
  have hI':=hI.drew
  refine p.run hN hs hb hdl os.size _ (List.range os.size) (fun _=>false) (fun _=>0) φ s.t a _ (by simp) ?_ (by simp) ?_ hd hF hQ
  · intro i hi _;exact List.mem_range.2 hi
  · refine ⟨fun i hi=>by (cases hi),fun r _ hD=>by (simp only [h0]at hD;cases hD),pw_all fun _ _ _ _ _ _ h=>by (cases h),fun j k hj=>by (simp only [h0]at hj;cases hj),rfl,fun t _=>?_,ht,?_,?_,fun r hr=>(hnf r hr).elim,fun r _ hr=>(hnf r hr).elim,fun r hr=>(hnf r hr).elim⟩
    · rw [TD_none _ fun r _=>rfl]
    · rw [HD_none _ fun r _ _=>rfl]
      refine hI'.rebase.weaken ?_
      rintro k (hk | ⟨r,hr,_⟩)
      · exact hk
      · exact (hnf r hr).elim
    · exact ⟨hI'.keep,hI'.klt,hI'.size,hI'.os,hI'.tape,hI'.output⟩
theorem drawnX_any {P:Program}{self:Self}(hN:NoNG P) (hs:SelfOk P self) {rd:Option Nat}{id:Nat}{os:Array Oper}{s:St}{o:Out}(h:drawnX P self rd id os s=some o):∃s',o=.ex .normal s'∧AnyOk P os s s':=by
  unfold drawnX at h
  split at h
  · exact drawnF_any hN hs h
  · exact drawn_any hN hs h
theorem blt_lt {a b:Nat}(h:Nat.blt a b=true):a<b:=by rwa [Nat.blt_eq]at h
def depsAt (os:Array Oper)(i:Nat):List Nat:=((os[i]?).map depsOf).getD []
def depsAsc (os:Array Oper):Bool:=(List.range os.size).all fun i=>(depsAt os i).all fun d=>Nat.blt d i
def guardsIn (os:Array Oper)(m:Nat):Bool:=(List.range m).all fun i=>match (os[i]?).bind (·.guard) with
  | none=>true
  | some (j,_)=>Nat.blt j m
def ancs (os:Array Oper):Nat→List Nat→List Nat
  | 0,s=>s
  | f+1,s=>ancs os f (s++((s.flatMap (depsAt os)).filter fun d=>!s.contains d).eraseDups)
def waits (os:Array Oper)(m:Nat):Bool:=depsAsc os&&(guardsIn os m&&(List.range m).all fun j=>(ancs os m (depsAt os m)).contains j)
theorem dep_mem {os:Array Oper}{i:Nat}{o:Oper}(ho:os[i]?=some o) {d:Nat}:d∈depsAt os i↔∃e∈o.after,Region.binds .any e=true∧e.on=d:=by
  unfold depsAt depsOf
  rw [ho]
  simp only [Option.map_some,Option.getD_some,List.mem_map,List.mem_filter,Array.mem_toList_iff,and_assoc]
def ShutL (os:Array Oper)(D:Nat→Prop):Prop:=∀i,D i→∀d∈depsAt os i,D d
theorem ancs_ok {os:Array Oper}{D:Nat→Prop}(hs:ShutL os D):∀(f:Nat) (s:List Nat),(∀i∈s,D i)→∀i∈ancs os f s,D i
  | 0,s,h=>h
  | f+1,s,h=>by
    refine ancs_ok hs f _ fun i hi=>?_
    rcases List.mem_append.1 hi with hi | hi
    · exact h i hi
    · rw [List.mem_eraseDups]at hi
      obtain ⟨hi,_⟩:=List.mem_filter.1 hi
      obtain ⟨j,hj,hij⟩:=List.mem_flatMap.1 hi
      exact hs j (h j hj) i hij
section
variable {P:Program}{F:Fence}{n:Nat}{Q:Exit→Act→World→Prop}
theorem upon_q {o:Oper}{a:Act}{K:Act→World→Prop} {Q':Exit→Act→World→Prop}(hq:∀c a w,Q' (.panic c) a w→Q (.panic c) a w) (hl:LetsOut Q'→LetsOut Q) {r:Result Next}(h:o.uponIn F n P a K Q' r):o.uponIn F n P a K Q r:=by
  cases r with
  | ok x w' =>
    cases x<;>simp only [Oper.uponIn]at h ⊢ <;>
      first
        | exact h
        | exact ⟨h.1,CallsIn.mono h.2 (fun e w'' he=>by cases e<;>first | exact he | exact hq _ _ _ he | exact hl he)⟩
        | exact ⟨h.1,RowsIn.mono h.2 (fun _ _ he=>he)⟩
        | exact ⟨h.1,RoundIn.mono h.2 (fun e w'' he=>by cases e<;>first | exact he | exact hq _ _ _ he | exact hl he)⟩
  | halt x w'=>cases x<;>simp only [Oper.uponIn]at h ⊢<;>first | exact h | exact hq _ _ _ h
theorem any_full {os:Array Oper}{a:Act}{w:World}:∀(fuel:Nat) (listed:Array Bool),(∀j,j<os.size→listed.getD j true=true)→Q .normal a w→wpAnyIn F n P .any os Q fuel listed a w:=by
  intro fuel listed hl hq
  have hr:Region.ready .any os listed=[]:=by
    rw [List.eq_nil_iff_forall_not_mem]
    intro i hi
    rw [mem_ready]at hi
    obtain ⟨h1,o,h2,_⟩:=hi
    rw [hl i (Array.getElem?_eq_some_iff.1 h2).1]at h1;cases h1
  cases fuel with
  | zero=>exact ⟨hr,hq⟩
  | succ fuel=>exact ⟨fun _=>hq,fun i hi=>by rw [hr]at hi;cases hi⟩
theorem getD_tf {l:Array Bool}{j:Nat}(h:j<l.size):l.getD j true=l.getD j false:=by
  simp only [Array.getD_eq_getD_getElem?,Array.getElem?_eq_getElem h,Option.getD_some]
def behind (F:Fence)(n:Nat)(P:Program)(os:Array Oper)(m:Nat)(Q:Exit→Act→World→Prop):Exit→Act→World→Prop
  | .normal,a,w=>wpOpsIn F n P os Q [m] a w
  | e,a,w=>Q e a w
theorem any_last {os:Array Oper}{m:Nat}(hsz:os.size=m+1) (hw:waits os m=true):∀(fuel:Nat) (listed:Array Bool) (a:Act) (w:World),listed.size=m+1→listed.getD m false=false →
    ShutL os (fun j=>listed.getD j false=true)→wpAnyIn F n P .any os.pop (behind F n P os m Q) fuel listed.pop a w→wpAnyIn F n P .any os Q (fuel+1) listed a w:=by
  simp only [waits,Bool.and_eq_true]at hw
  obtain ⟨hasc,hgu,hanc⟩:=hw
  have hpop:∀j,j<m→os.pop[j]?=os[j]?:=fun j hj=>by
    rw [Array.getElem?_pop]
    rw [if_pos (by omega)]
  have hlp:∀(l:Array Bool),l.size=m+1→∀j d,j<m→l.pop.getD j d=l.getD j d:=fun l hl j d hj=>by
    simp only [Array.getD_eq_getD_getElem?,Array.getElem?_pop]
    rw [if_pos (by omega)]
  have hdep:∀i,i<m+1→∀d∈depsAt os i,d<i:=fun i hi d hd=>by
    simp only [depsAsc,List.all_eq_true,List.mem_range,hsz]at hasc
    exact blt_lt (hasc i hi d hd)
  have hready:∀(listed:Array Bool),listed.size=m+1→∀i,i<m→(i∈Region.ready .any os.pop listed.pop↔i∈Region.ready .any os listed):=by
    intro listed hl i hi
    rw [mem_ready,mem_ready,hpop i hi,hlp listed hl i true hi]
    constructor
    · rintro ⟨h1,o,h2,h3⟩
      refine ⟨h1,o,h2,fun e he hb=>?_⟩
      have:=h3 e he hb
      rwa [hlp listed hl e.on false (by have:=hdep i (by omega) e.on ((dep_mem h2).2 ⟨e,he,hb,rfl⟩);omega)]at this
    · rintro ⟨h1,o,h2,h3⟩
      refine ⟨h1,o,h2,fun e he hb=>?_⟩
      rw [hlp listed hl e.on false (by have:=hdep i (by omega) e.on ((dep_mem h2).2 ⟨e,he,hb,rfl⟩);omega)]
      exact h3 e he hb
  have hlast:∀(listed:Array Bool),listed.size=m+1→ShutL os (fun j=>listed.getD j false=true)→m∈Region.ready .any os listed→∀j,j<m→listed.getD j false=true:=by
    intro listed hl hs hm j hj
    rw [mem_ready]at hm
    obtain ⟨_,o,ho,h3⟩:=hm
    simp only [List.all_eq_true,List.mem_range]at hanc
    have:=hanc j hj
    rw [List.contains_iff_mem]at this
    refine ancs_ok hs m _ (fun d hd=>?_) j this
    obtain ⟨e,he,hb,rfl⟩:=(dep_mem ho).1 hd
    exact h3 e he hb
  have hnone:∀(listed:Array Bool),listed.size=m+1→Region.ready .any os.pop listed.pop=[]→∀j,j<m→listed.getD j false=true:=by
    intro listed hl hr j
    induction j using Nat.strongRecOn with
    | _ j ih =>
      intro hj
      cases hc:listed.getD j false with
      | true=>rfl
      | false =>
        exfalso
        have hlt:j<os.size:=by omega
        have ho:os[j]?=some os[j]:=Array.getElem?_eq_getElem hlt
        have:j∈Region.ready .any os.pop listed.pop:=by
          rw [hready listed hl j hj,mem_ready]
          refine ⟨by rw [getD_tf (by omega)];exact hc,_,ho,fun e he hb=>?_⟩
          have hd:=hdep j (by omega) e.on ((dep_mem ho).2 ⟨e,he,hb,rfl⟩)
          exact ih e.on hd (by omega)
        rw [hr]at this;cases this
  have hall:∀(listed:Array Bool),listed.size=m+1→(∀j,j<m→listed.getD j false=true)→∀j,j<os.size→(listed.setIfInBounds m true).getD j true=true:=by
    intro listed hl h j hj
    by_cases hjm:j=m
    · subst hjm;simp [Array.getD_eq_getD_getElem?,hl]
    · rw [getD_set_ne true (Ne.symm hjm),getD_tf (by omega)]
      exact h j (by omega)
  have hend:∀(fuel:Nat) (listed:Array Bool) (a:Act) (w:World),listed.size=m+1→listed.getD m false=false→ShutL os (fun j=>listed.getD j false=true)→(∀j,j<m→listed.getD j false=true)→wpOpsIn F n P os Q [m] a w→wpAnyIn F n P .any os Q (fuel+1) listed a w:=by
    intro fuel listed a w hl hlm hs h hq
    have hms:m<os.size:=by omega
    have ho:os[m]?=some os[m]:=Array.getElem?_eq_getElem hms
    have hmr:m∈Region.ready .any os listed:=by
      rw [mem_ready]
      refine ⟨by rw [getD_tf (by omega)];exact hlm,_,ho,fun e he hb=>?_⟩
      exact h e.on (hdep m (by omega) e.on ((dep_mem ho).2 ⟨e,he,hb,rfl⟩))
    refine ⟨fun hr=>(by rw [hr]at hmr;cases hmr),fun i hi=>?_⟩
    have him:i=m:=by
      rw [mem_ready]at hi
      obtain ⟨h1,o,h2,_⟩:=hi
      have hi2:i<os.size:=(Array.getElem?_eq_some_iff.1 h2).1
      by_cases hlt:i<m
      · rw [getD_tf (by omega),h i hlt]at h1;cases h1
      · omega
    subst him
    rw [wpOpsIn_cons]at hq
    refine wpOpIn_mono (fun a w hk=>?_) hq
    exact any_full _ _ (hall listed hl h) hk
  intro fuel
  induction fuel with
  | zero =>
    intro listed a w hl hlm hs hh
    have hr:=hh.1
    have hq:=hh.2
    exact hend 0 listed a w hl hlm hs (hnone listed hl hr) hq
  | succ fuel ih =>
    intro listed a w hl hlm hs hh
    obtain ⟨hq,hi'⟩:=hh
    cases hr:Region.ready .any os.pop listed.pop with
    | nil=>exact hend (fuel+1) listed a w hl hlm hs (hnone listed hl hr) (hq hr)
    | cons x xs =>
      have hxm:∀i,i∈Region.ready .any os.pop listed.pop→i<m:=fun i hi=>by
        rw [mem_ready]at hi
        obtain ⟨_,o,h2,_⟩:=hi
        have:=(Array.getElem?_eq_some_iff.1 h2).1
        simp at this;omega
      have hx:x∈Region.ready .any os.pop listed.pop:=by rw [hr];simp
      have hxl:=(hready listed hl x (hxm x hx)).1 hx
      refine ⟨fun h=>(by rw [h]at hxl;cases hxl),fun i hi=>?_⟩
      by_cases him:i=m
      · subst him
        have:=hlast listed hl hs hi x (hxm x hx)
        rw [mem_ready]at hxl
        rw [getD_tf (by have:=hxm x hx;omega),this]at hxl
        cases hxl.1
      · have hilt:i<m:=by
          rw [mem_ready]at hi
          obtain ⟨_,o,h2,_⟩:=hi
          have:=(Array.getElem?_eq_some_iff.1 h2).1
          omega
        have h1:=hi' i ((hready listed hl i hilt).2 hi)
        have hlo:(listed.setIfInBounds i true).pop=listed.pop.setIfInBounds i true:=by
          apply Array.ext_getElem?
          intro j
          simp only [Array.getElem?_pop,Array.getElem?_setIfInBounds,Array.size_setIfInBounds,Array.size_pop]
          by_cases hj:j<listed.size-1
          · simp only [if_pos hj]
            by_cases hij:i=j
            · subst hij;simp [hj];omega
            · simp [hij]
          · simp only [if_neg hj]
            by_cases hij:i=j
            · subst hij;omega
            · simp [hij]
        have hrec:∀(a:Act) (w:World),wpAnyIn F n P .any os.pop (behind F n P os m Q) fuel (listed.pop.setIfInBounds i true) a w→wpAnyIn F n P .any os Q (fuel+1) (listed.setIfInBounds i true) a w:=by
          intro a w hk
          refine ih _ a w (by simp [hl]) ?_ ?_ (by rw [hlo];exact hk)
          · rw [getD_set_ne false him];exact hlm
          · intro j hj d hd
            have hi2:=hi
            rw [mem_ready]at hi2
            obtain ⟨_,o,h2,h3⟩:=hi2
            by_cases hji:j=i
            · subst hji
              obtain ⟨e,he,hb,rfl⟩:=(dep_mem h2).1 hd
              exact getD_set_true (h3 e he hb)
            · rw [getD_set_ne false (Ne.symm hji)]at hj
              exact getD_set_true (hs j hj d hd)
        have ho:=hpop i hilt
        unfold wpOpIn at h1 ⊢
        rw [ho]at h1
        split at h1
        · rename_i he;exact hrec a w h1
        · rename_i o he
          have hwant:Region.wanted o (yielded os.pop a.tmps)=Region.wanted o (yielded os a.tmps):=by
            unfold Region.wanted
            split
            · rfl
            · rename_i j want hg
              have:j<m:=by
                simp only [guardsIn,List.all_eq_true,List.mem_range]at hgu
                have:=hgu i hilt
                rw [he]at this
                simp only [Option.bind_some,hg]at this
                exact blt_lt this
              unfold yielded
              rw [hpop j this]
          rw [hwant]at h1
          split at h1
          · rename_i hwt
            rw [if_pos hwt]
            refine Oper.wpIn_mono (fun a w hk=>hrec a w hk) ⟨h1.1,upon_q (fun _ _ _ h=>h) (fun h=>h) h1.2⟩
          · rename_i hwt
            rw [if_neg hwt]
            exact ⟨h1.1,hrec _ _ h1.2⟩
end
def drawnW (P:Program)(self:Self)(rd:Option Nat)(id:Nat)(os:Array Oper)(s:St):Option Out :=
  match waits os (os.size-1)&&Nat.blt 0 os.size with
  | true=>(match drawnX P self rd id os.pop s with
    | some (.ex .normal s')=>runOps P self rd os [os.size-1] s'
    | _=>none)
  | false=>drawnX P self rd id os s
theorem drawnW_ok {P:Program}(hN:NoNG P) (hm:P.follows .mixedOrders=true):DrawnOk P drawnW:=by
  intro self hs rd id os s o h
  unfold drawnW at h
  split at h
  · rename_i hw
    rw [Bool.and_eq_true]at hw
    obtain ⟨hw,hz⟩:=hw
    have hz:0<os.size:=blt_lt hz
    obtain ⟨m,hm1⟩:∃m,os.size=m+1:=⟨os.size-1,by omega⟩
    rw [hm1,Nat.add_sub_cancel]at h hw
    split at h
    case h_2=>cases h
    rename_i s' hd1
    obtain ⟨s2,he,hA⟩:=drawnX_any hN hs hd1
    cases he
    by_cases hb:s.h.base≤s.h.bl.length
    · obtain ⟨hp,hA⟩:=hA hb
      have hb':s'.h.base≤s'.h.bl.length:=by rw [hp.base];exact Nat.le_trans hb hp.len
      obtain ⟨e,s3,rfl,hp2,hh⟩:=runOps_sound hN hs _ s' o h hb'
      refine fun _=>⟨hp.trans hp2,?_⟩
      intro K w0 φ w a F n hI ht hd hF
      refine wpIn_region_any hm ?_
      rw [hm1]
      have hrep:∀j,(Array.replicate (m+1) false).getD j false=false:=fun j=>by
        simp only [Array.getD_eq_getD_getElem?,Array.getElem?_replicate]
        split<;>rfl
      refine any_last hm1 hw m _ a _ (by simp) (hrep m) (fun i hi=>by have hi:(Array.replicate (m+1) false).getD i false=true:=hi;rw [hrep]at hi;cases hi) ?_
      have:=hA K w0 φ w a F n rd (behind F n P os m (CodeR K w0 φ e s3)) hI ht hd hF (fun x a w' hc=>?_)
      · have e1:(Array.replicate (m+1) false).pop=Array.replicate os.pop.size false:=by
          apply Array.ext_getElem?
          intro j
          simp only [Array.getElem?_pop,Array.getElem?_replicate,Array.size_replicate,Array.size_pop,hm1]
          by_cases hj:j<m
          · simp [hj];omega
          · simp [hj]
        have e2:os.pop.size=m:=by simp [hm1]
        rw [e1]
        rw [e2]at this ⊢
        exact this
      · obtain ⟨φ',hle,hx,hT,hD,hI'⟩:=hc
        cases hx
        exact hh K w0 φ' w' a F n _ hI' hT hD (hF.mono hle) (fun x a w' hq=>hq.mono hle)
    · obtain ⟨e,s3,rfl⟩:=step_ok.runOps_ex _ _ _ h
      exact fun h=>absurd h hb
  · exact drawnX_ok hN hm self hs rd id os s o h
abbrev vT:Value:=.bool true
abbrev vF:Value:=.bool false
abbrev vI (n:Nat):Value:=.int .i64 (.ofNat n)
abbrev vJ (n:Nat):Value:=.int .i64 (.negSucc n)
structure CF where
  g:Nat
  args:List Value
  u:Value
def CF.Ok (P:Program)(c:CF):Prop:=∀h,Fact P (.call c.g ⟨c.args⟩ h) (.ret c.u h)
def lookCF (f:Nat)(vs:List Value)(h:Hp):List CF→Option AT
  | []=>none
  | c::r=>match Nat.beq f c.g with
    | true=>(match eqLs (eqVn 8) vs c.args with
      | true=>some (.leaf (.ret c.u h))
      | false=>lookCF f vs h r)
    | false=>lookCF f vs h r
def tabA (l:List CF):Ans:=fun t=>match t with
  | .call f vs h=>lookCF f vs.toList h l
  | _=>none
inductive CFs (P:Program):List CF→Prop
  | nil:CFs P []
  | cons {c:CF} {l:List CF} (h:c.Ok P) (r:CFs P l):CFs P (c::l)
theorem lookCF_ok {P:Program}{f:Nat}{vs:List Value}{h:Hp}:∀{l:List CF},CFs P l→∀{x:AT}{o:Out},lookCF f vs h l=some x→x.out=some o→Fact P (.call f ⟨vs⟩ h) o
  | [],_,x,o,hx,_=>by cases hx
  | c::r,hl,x,o,hx,ho=>by
    cases hl with
    | cons hc hr =>
      unfold lookCF at hx
      split at hx
      · rename_i hf
        split at hx
        · rename_i ha
          simp only [Option.some.injEq]at hx
          subst hx
          simp only [AT.out,Option.some.injEq]at ho
          subst ho
          rw [Nat.eq_of_beq_eq_true hf,eqLs_eq (fun _ _ h=>eqVn_eq h) ha]
          exact hc h
        · exact lookCF_ok hr hx ho
      · exact lookCF_ok hr hx ho
theorem tabA_ok {P:Program}{l:List CF}(hl:CFs P l):Known P (tabA l):=by
  intro t x o h ho
  unfold tabA at h
  split at h
  · rename_i f vs hh
    exact lookCF_ok hl h ho
  · cases h
def frDs (f:Value→Option Value):List Value→Option (List Value)
  | []=>some []
  | v::r=>match f v with
    | some u=>(match frDs f r with
      | some l=>some (u::l)
      | none=>none)
    | none=>none
def frC (f:Value→Option Value)(v:Value):Option Value:=match v with
  | .slice none 0 0=>some (lstV ⟨[]⟩ 0 0 1)
  | v=>f v
def frD (bl:List Ob):Nat→Value→Option Value
  | 0,_=>none
  | n+1,v=>match v with
    | .slice (some ⟨b,off,none⟩) len sz=>(match nthO bl b with
      | some (.cells c false)=>(match frDs (frC (frD bl n)) c.toList with
        | some l=>if off+len*sz≤c.size then some (lstV ⟨l⟩ off len sz) else none
        | none=>none)
      | _=>none)
    | .pointer (some ⟨b,off,none⟩)=>(match nthO bl b with
      | some (.cells c false)=>(match frDs (frC (frD bl n)) c.toList with
        | some l=>some (dptV ⟨l⟩ off)
        | none=>none)
      | _=>none)
    | .agg ⟨l⟩=>(match frDs (frD bl n) l with
      | some l=>some (.agg ⟨l⟩)
      | none=>none)
    | .iface t v=>(match frD bl n v with
      | some v=>some (.iface t v)
      | none=>none)
    | .func (.func g) ⟨l⟩ ⟨m⟩=>(match frDs (frD bl n) l,frDs (frD bl n) m with
      | some l,some m=>some (.func (.func g) ⟨l⟩ ⟨m⟩)
      | _,_=>none)
    | v=>if fz0 v then some v else none
def frDV (bl:List Ob)(v:Value):Option Value:=match v with
  | .tuple ⟨x::l⟩=>(match frDs (frD bl 8) (x::l) with
    | some l=>some (.tuple ⟨l⟩)
    | none=>none)
  | v=>frD bl 8 v
def frDK:Kn
  | .ret v h=>(match frDV h.bl v with
    | some v=>some (.ret v ⟨[],0,[]⟩)
    | none=>none)
  | _=>none
section
variable {K:Nat→Prop}{w0 w:World} {φ:Phi}{X:List Ob}{z:Nat→Option Obj}
theorem frDs_ok {f:Value→Option Value}(hf:∀v u v',f v=some u→VR φ v v'→FR z u v'):∀{l us l':List Value},frDs f l=some us→VRl φ l l'→FRl z us l'
  | [],us,_,h,hv=>by
    cases hv
    simp only [frDs,Option.some.injEq]at h
    subst h;exact .nil
  | v::r,us,_,h,hv=>by
    cases hv with
    | cons h1 h2 =>
      simp only [frDs]at h
      split at h
      · rename_i u hu
        split at h
        · rename_i l hl
          simp only [Option.some.injEq]at h
          subst h
          exact .cons (hf _ _ _ hu h1) (frDs_ok hf hl h2)
        · cases h
      · cases h
theorem FRl.fn {z:Nat→Option Obj} {l l' m m':List Value}(g:FuncId) (h:FRl z l l') (h2:FRl z m m'):FR z (.func (.func g) ⟨l⟩ ⟨m⟩) (.func (.func g) ⟨l'⟩ ⟨m'⟩):=by
  have hh:∀{us ys:List Value},FRl z us ys→(⟨us⟩:Array Value).size=(⟨ys⟩:Array Value).size∧∀i,i<(⟨us⟩:Array Value).size→FR z ((⟨us⟩:Array Value).getD i undef) ((⟨ys⟩:Array Value).getD i undef):=by
    intro us ys hf
    refine ⟨by simpa using hf.agg.1,fun i hi=>?_⟩
    rcases hf.agg.2 i with h5 | h5
    · exact h5
    · simp at hi;omega
  exact .fn (hh h).1 (hh h).2 (hh h2).1 (hh h2).2
theorem cells_frl {c C:Array Value}{base:Nat}(hC:base+c.size≤C.size) (h2:∀(i:Nat) (v:Value),c[i]?=some v→∃v',C[base+i]?=some v'∧VR φ v v'):VRl φ c.toList ((C.toList.drop base).take c.size):=by
  have key:∀(l:List Value) (m:List Value),l.length=m.length→(∀(i:Nat) (v:Value),l[i]?=some v→∃v',m[i]?=some v'∧VR φ v v')→VRl φ l m:=by
    intro l
    induction l with
    | nil=>intro m hl _;cases m with
      | nil=>exact .nil
      | cons _ _=>simp at hl
    | cons x r ih=>intro m hl hh;cases m with
      | nil=>simp at hl
      | cons y s =>
        refine .cons ?_ (ih s (by simpa using hl) fun i v hv=>by simpa using hh (i+1) v (by simpa using hv))
        obtain ⟨v',h3,h4⟩:=hh 0 x rfl
        simp only [List.getElem?_cons_zero,Option.some.injEq]at h3
        rw [h3];exact h4
  refine key _ _ (by simp;omega) fun i v hv=>?_
  have hv2:c[i]?=some v:=by rw [← Array.getElem?_toList];exact hv
  obtain ⟨v',h3,h4⟩:=h2 i v hv2
  refine ⟨v',?_,h4⟩
  have hi:i<c.size:=by rw [Array.getElem?_eq_some_iff]at hv2;exact hv2.1
  rw [List.getElem?_take,if_pos hi,List.getElem?_drop,Array.getElem?_toList]
  exact h3
theorem FRl.cells {l:List Value}{C:Array Value}{base n:Nat}(h:FRl z l ((C.toList.drop base).take n)) (hC:base+n≤C.size):l.length=n∧∀i,i<(⟨l⟩:Array Value).size→FR z ((⟨l⟩:Array Value).getD i undef) (C.getD (base+i) undef):=by
  have hn:l.length=n:=by rw [h.agg.1];simp;omega
  refine ⟨hn,fun i hi=>?_⟩
  have hi':i<n:=by simpa [hn] using hi
  rcases h.agg.2 i with h1 | h1
  · have e:(⟨(C.toList.drop base).take n⟩:Array Value).getD i undef=C.getD (base+i) undef:=by
      rw [Array.getD_eq_getD_getElem?,Array.getD_eq_getD_getElem?]
      have:(⟨(C.toList.drop base).take n⟩:Array Value)[i]?=C[base+i]?:=by
        rw [← Array.getElem?_toList,List.getElem?_take,if_pos hi',List.getElem?_drop,Array.getElem?_toList]
      rw [this]
    rw [← e];exact h1
  · omega
theorem frC_ok {f:Value→Option Value}(hf:∀v u v',f v=some u→VR φ v v'→FR z u v'):∀v u v',frC f v=some u→VR φ v v'→FR z u v':=by
  intro v u v' h hv
  unfold frC at h
  split at h
  · cases h;cases hv;exact .lstZ _ _ _ _
  · exact hf _ _ _ h hv
theorem frD_ok (h:Made 0 z φ X w):∀{n:Nat} {v u v':Value},frD X n v=some u→VR φ v v'→FR z u v'
  | 0,_,_,_,hk,_=>by cases hk
  | n+1,v,u,v',hk,hv=>by
    have ih:∀v u v',frD X n v=some u→VR φ v v'→FR z u v':=fun v u v' h1 h2=>frD_ok h h1 h2
    unfold frD at hk
    split at hk
    · rename_i b off len sz
      rw [nthO_eq]at hk
      split at hk
      · rename_i c hb
        split at hk
        · rename_i l hl
          split at hk
          · rename_i hle
            simp only [Option.some.injEq]at hk
            subst hk
            obtain ⟨B,base,tot,C,el,fr,h3,hz,h8,h6⟩:=h.obs b _ hb (Nat.zero_le _)
            cases hv with
            | sliceZ _ a' k'=>exact .lstZ _ _ _ _
            | slice hφ hl1 hc =>
              rw [h3]at hφ;cases hφ
              obtain ⟨k1,k2⟩:=(frDs_ok (frC_ok ih) hl (cells_frl h8 h6)).cells h8
              exact .lst hz (by simpa [k1] using h8) k2 hl1 (by simpa [k1] using hle)
          · cases hk
        · cases hk
      · cases hk
    · rename_i b off
      rw [nthO_eq]at hk
      split at hk
      · rename_i c hb
        split at hk
        · rename_i l hl
          simp only [Option.some.injEq]at hk
          subst hk
          obtain ⟨B,base,tot,C,el,fr,h3,hz,h8,h6⟩:=h.obs b _ hb (Nat.zero_le _)
          cases hv with
          | ptr hφ =>
            rw [h3]at hφ;cases hφ
            obtain ⟨k1,k2⟩:=(frDs_ok (frC_ok ih) hl (cells_frl h8 h6)).cells h8
            exact .dpt hz (by simpa [k1] using h8) k2
        · cases hk
      · cases hk
    · rename_i l
      split at hk
      · rename_i us hl
        simp only [Option.some.injEq]at hk
        subst hk
        obtain ⟨⟨ys⟩,rfl,hs⟩:=hv.agg_inv
        exact (frDs_ok ih hl hs.toList).fr
      · cases hk
    · rename_i t x
      split at hk
      · rename_i y hy
        simp only [Option.some.injEq]at hk
        subst hk
        cases hv with
        | iface _ hv=>exact .iface _ (ih _ _ _ hy hv)
      · cases hk
    · rename_i g l m
      split at hk
      · rename_i us ws hl hm
        simp only [Option.some.injEq]at hk
        subst hk
        cases hv with
        | @fn _ _ first' _ cap' hg h1 h2 h3 h4 =>
          obtain ⟨first'⟩:=first'
          obtain ⟨cap'⟩:=cap'
          exact FRl.fn g (frDs_ok ih hl (VRs.toList (VRs.of h1 h2))) (frDs_ok ih hm (VRs.toList (VRs.of h3 h4)))
      · cases hk
    · split at hk
      · rename_i hf
        simp only [Option.some.injEq]at hk
        subst hk
        exact fz0_fr h hf hv
      · cases hk
theorem FRl.vrl {ψ:Phi} {l l':List Value}(h:FRl ψ.z l l'):VRl ψ l l':=by
  induction h with
  | nil=>exact .nil
  | cons h _ ih=>exact .cons h.vr ih
theorem frDV_ok {ψ:Phi}(h:Made 0 ψ.z φ X w) {v u v':Value}(hk:frDV X v=some u) (hv:VR φ v v'):VR ψ u v':=by
  unfold frDV at hk
  split at hk
  · rename_i x l
    split at hk
    · rename_i us hl
      simp only [Option.some.injEq]at hk
      subst hk
      obtain ⟨⟨ys⟩,rfl,hs⟩:=hv.tuple_inv rfl
      exact (frDs_ok (fun _ _ _ h1 h2=>frD_ok h h1 h2) hl hs.toList).vrl.vrs.tuple
    · cases hk
  · exact (frD_ok h hk hv).vr
end
section
variable {P:Program}
theorem Fact.liftD {f:FuncId}{args:Array Value}{v u:Value}{h1:Hp}(hf:Fact P (.call f args ⟨[],0,[]⟩) (.ret v h1)) (hfz:frDV h1.bl v=some u)
    (ha:args.toList.all pureA=true) (h:Hp):Fact P (.call f args h) (.ret u h):=by
  obtain ⟨_,hh⟩:=hf.1 (Nat.le_refl _)
  refine ⟨fun hb=>⟨Pres.refl _,?_⟩,trivial⟩
  intro K w0 φ w args' n hI hA
  have hI':Inv K w0 φ ([]++h.bl) w:=hI
  have hN:=hI'.narrow (H0:=[]) (fun b ob h=>by simp at h)
  have hA1:VRs (cut φ ([]:List Ob).length) args args':=VRs.of hA.size fun i hi=>scT_cut (all_getD (p:=pureA) ha hi) (hA.getD i)
  refine (hh _ w _ w args' n hN hA1).mono ?_
  intro e w' he
  cases e with
  | returned v' =>
    obtain ⟨φ',hle,hv',hF⟩:=he
    have hZ:=hF.freeze (H1:=[]) (k:=0) (fun b ob h=>by simp at h)
    have k1:=frDV_ok (ψ:=⟨fun b=>if b<([]:List Ob).length+0 then φ' b else none,zF φ' h1.bl 0 w'⟩) (zF_made hF 0) hfz hv'
    have hle2:le (cut φ ([]:List Ob).length) ⟨fun b=>if b<([]:List Ob).length+0 then φ' b else none,zF φ' h1.bl 0 w'⟩:=by
      refine ⟨fun b x hx=>?_,fun B o hB=>(zF_made hF 0).le B o (hle.zz B o hB)⟩
      rw [cut_ge (show ([]:List Ob).length≤b from Nat.zero_le b)]at hx;cases hx
    obtain ⟨φ'',q1,q2,q3⟩:=hI'.widen (H1:=[]) (X:=[]) hZ hle2 .nil
    refine ⟨φ'',q1,?_,q3⟩
    have hc:cut ⟨fun b=>if b<([]:List Ob).length+0 then φ' b else none,zF φ' h1.bl ([]:List Ob).length w'⟩ ([]:List Ob).length=⟨fun b=>if b<([]:List Ob).length+0 then φ' b else none,zF φ' h1.bl 0 w'⟩:=by
      unfold cut
      simp
    rw [hc]at q2
    exact k1.mono q2
  | panicked ch=>exact he.elim
  | outgrown=>exact he.elim
end
def hasApp (os:Array Oper):Bool:=os.toList.any fun o=>match o.op with
  | .call { callee:=.builtin b,.. }=>(match b with | .append | .copy=>true | _=>false)
  | _=>false
def forceK (k:Kn):Kn:=fun o=>match o with
  | .ex e s=>forceE s.h.bl fun bl=>k (.ex e ⟨s.t,s.d,⟨bl,s.h.base,s.h.wr⟩⟩)
  | o=>k o
theorem forceK_eq (k:Kn):forceK k=k:=by
  funext o
  cases o with
  | ex e s=>simp only [forceK,forceE_eq]
  | _=>rfl
def catL:List Value→Nat→Nat→List Value→List Value
  | [],_,_,m=>m
  | x::r,off,n,m=>match off with
    | o+1=>catL r o n m
    | 0=>(match n with
      | k+1=>x::catL r 0 k m
      | 0=>m)
theorem catL_eq:∀(l:List Value) (off n:Nat) (m:List Value),catL l off n m=(l.drop off).take n++m
  | [],off,n,m=>by simp [catL]
  | x::r,0,0,m=>by simp [catL]
  | x::r,0,k+1,m=>by simp [catL,catL_eq r 0 k m]
  | x::r,o+1,n,m=>by simp [catL,catL_eq r o n m]
theorem catA_eq (c:Array Value)(off n:Nat)(m:Array Value):(⟨catL c.toList off n m.toList⟩:Array Value)=c.extract off (off+n)++m:=by
  apply Array.ext'
  rw [catL_eq,Array.toList_append,Array.toList_extract,List.extract]
  simp
def appendZ (P:Program)(h:Hp)(ts tx:TypeId)(s x:Value)(k:Value→Hp→Option Out):Option Out :=
  match P.underlying ts,P.underlying tx with
  | some (.slice e),some d =>
    if intB d=true then none else
    match P.info? e,zeroB P e with
    | some inf,some z =>
      natF inf.size fun isz=>natF inf.bytes fun iby =>
      match s,lenB x with
      | .slice base sl sz,some n =>
        natF n fun n =>
        cond (decide (n=0)) (k (.slice base sl sz) h)
        (newC h.bl isz n x fun news =>
          cond (decide (news.size=n*isz)&&(oneAll news&&decide (z.cells.size=isz))) (cond (decide ((sl+n)*iby≤140737488355328)&&decide (sl+n≤4611686018427387904))
            (match base with
            | none=>cond (decide (sl=0)) (k (.slice (some ⟨h.bl.length,0,none⟩) n isz) (h.push (.cells news false))) none
            | some ⟨b,off,none⟩ =>
              match nthO h.bl b with
              | some (.cells c false) =>
                cond (decide (sz=isz)) (cond (decide (off+sl*isz≤c.size))
                  (k (.slice (some ⟨h.bl.length,0,none⟩) (sl+n) isz) ((h.put b .dead).push (.cells ⟨catL c.toList off (sl*isz) news.toList⟩ false))) none) none
              | _=>none
            | _=>none) none) none)
      | _,_=>none
    | _,_=>none
  | _,_=>none
theorem appendZ_eq:appendZ=appendC:=by
  funext P h ts tx s x k
  simp only [appendZ,appendC,catA_eq]
  rfl
def loudZ (P:Program) (ρ:Operand→Value)(h:Hp)(o:Oper)(k:Ends):Option Out :=
  match o.op with
  | .call { callee:=.builtin .append,args,argTypes } =>
    match args.toList,argTypes.toList with
    | [s,x],[ts,tx]=>if okO s&&okO x then appendZ P h ts tx (ρ s) (ρ x) k.val else none
    | _,_=>none
  | _=>loudC P ρ h o k
theorem loudZ_eq:loudZ=loudC:=by
  funext P ρ h o k
  unfold loudZ
  split
  · rename_i args ts ho
    unfold loudC
    simp only [ho,appendZ_eq]
    rfl
  · rfl
def opDZ (P:Program)(self:SelfC)(T:List Value)(h:Hp)(o:Oper)(k:Value→Hp→Bool→Option Out):Option Out :=
  match o.op with
  | .pick c a b=>if okO c&&okO a&&okO b then (match evalT T c with | .bool t=>cond t (k (evalT T a) h false) (k (evalT T b) h false) | _=>none) else none
  | _ =>
    match symR P (evalT T) h.bl o with
    | some (b,v)=>cond b (k v h false) none
    | none=>match aread P (evalT T) h.bl o with
      | some v=>k v h false
      | none=>loudZ P (evalT T) h o {
        val:=fun v h'=>heapK h' fun h'=>k v h' true
        enter:=fun f args=>headsK args fun args=>self (.call f ⟨args⟩ h) fun | .ret v h'=>k v h' true | _=>none
        yield:=fun l args=>headsK args fun args=>self (.round l ⟨args⟩ h) fun | .ret v h'=>k v h' true | _=>none
        defer:=fun _=>none
        panic:=fun _=>none }
theorem opDZ_eq:opDZ=opD:=by
  funext P self T h o k
  simp only [opDZ,loudZ_eq]
  rfl
def drunZ (P:Program)(self:SelfC)(os:Array Oper):List Nat→List Value→Hp→(List Rec→List Value→Hp→Option Out)→Option Out
  | [],T,h,k=>k [] T h
  | i::r,T,h,k =>
    match os[i]? with
    | none=>none
    | some o =>
      guardC os o T
        (fun T=>opDZ P self T h o fun v h' loud=>headK v fun v=>setK' T o.dst v fun T'=>drunZ P self os r T' h' fun l T2 h2=>k (⟨i,o,T,v,h,h',loud⟩::l) T2 h2)
        (fun T=>setK' T o.dst undef fun T'=>drunZ P self os r T' h fun l T2 h2=>k (⟨i,o,T,undef,h,h,false⟩::l) T2 h2)
theorem drunZ_eq (P:Program)(self:SelfC)(os:Array Oper):∀l,drunZ P self os l=drunC P self os l
  | []=>rfl
  | i::r=>by
    funext T h k
    simp only [drunZ,drunC,drunZ_eq P self os r,opDZ_eq]
    rfl
def drawnFZ (P:Program)(self:SelfC)(os:Array Oper)(s:St)(k:Ex→St→Option Out):Option Out :=
  if planOk os (late os) (mkClo os (late os) (List.replicate os.size 0)) then
    drunZ P self os (late os) s.t s.h fun recs T h =>
      if floatOk (mkClo os (late os) (List.replicate os.size 0)) [] recs&&recs.all fun r=>!(r.loud&&isAl r.o)||r.o.dst.all fun t=>decide (t<s.t.length) then
        fchkC P os (mkClo os (late os) (List.replicate os.size 0)) recs (k .normal { t:=T,d:=s.d,h:=h })
      else none
  else none
def drawnNZ (P:Program)(self:SelfC)(os:Array Oper)(s:St)(k:Ex→St→Option Out):Option Out :=
  if planOk os (Region.linearise .any os 0) (mkClo os (Region.linearise .any os 0) (List.replicate os.size 0)) then
    drunZ P self os (Region.linearise .any os 0) s.t s.h fun recs T h =>
      chkC P os (mkClo os (Region.linearise .any os 0) (List.replicate os.size 0)) recs (k .normal { t:=T,d:=s.d,h:=h })
  else none
def drawnXZ (P:Program)(self:SelfC)(os:Array Oper)(s:St)(k:Ex→St→Option Out):Option Out :=
  match floaty os (mkClo os (Region.linearise .any os 0) (List.replicate os.size 0)) with
  | true=>drawnFZ P self os s k
  | false=>drawnNZ P self os s k
theorem drawnXZ_eq:drawnXZ=drawnXC:=by
  funext P self os s k
  simp only [drawnXZ,drawnXC,drawnFZ,drawnFC,drawnNZ,drawnC,drunZ_eq]
  rfl
def opZ (P:Program) (ρ:Operand→Value)(h:Hp)(o:Oper)(k:Ends):Option Out :=
  match o.op with
  | .pick c a b=>if okO c&&okO a&&okO b then (match ρ c with | .bool t=>cond t (k.val (ρ a) h) (k.val (ρ b) h) | _=>none) else none
  | _ =>
    match symR P ρ h.bl o with
    | some (b,v)=>cond b (k.val v h) none
    | none=>match aread P ρ h.bl o with
      | some v=>k.val v h
      | none=>loudZ P ρ h o k.heap
theorem opZ_eq:opZ=opC:=by
  funext P ρ h o k
  simp only [opZ,loudZ_eq]
  rfl
def runOpsZ (P:Program)(self:SelfC)(rd:Option Nat)(os:Array Oper):List Nat→St→(Ex→St→Option Out)→Option Out
  | [],s,k=>k .normal s
  | i::r,s,k =>
    match os[i]? with
    | none=>runOpsZ P self rd os r s k
    | some o =>
      guardC os o s.t
        (fun t=>opZ P (evalT t) s.h o {
          val:=fun v h=>setK' t o.dst v fun t=>runOpsZ P self rd os r { t:=t,d:=s.d,h:=h } k
          enter:=fun f args=>headsK args fun args=>self (.call f ⟨args⟩ s.h) fun
            | .ret v h=>setK' t o.dst v fun t=>runOpsZ P self rd os r { t:=t,d:=s.d,h:=h } k
            | .pan v h=>k (.panic v) { t:=t,d:=s.d,h:=h }
            | _=>none
          yield:=fun l args=>headsK args fun args=>self (.round l ⟨args⟩ s.h) fun
            | .ret v h=>setK' t o.dst v fun t=>runOpsZ P self rd os r { t:=t,d:=s.d,h:=h } k
            | _=>none
          defer:=fun d=>if rd.isNone then setK' t o.dst undef fun t=>runOpsZ P self rd os r { t:=t,d:=d::s.d,h:=s.h } k else none
          panic:=fun v=>k (.panic v) { t:=t,d:=s.d,h:=s.h } })
        (fun t=>setK' t o.dst undef fun t=>runOpsZ P self rd os r { t:=t,d:=s.d,h:=s.h } k)
theorem runOpsZ_eq (P:Program)(self:SelfC)(rd:Option Nat)(os:Array Oper):∀l,runOpsZ P self rd os l=runOpsC P self rd os l
  | []=>rfl
  | i::r=>by
    funext s k
    simp only [runOpsZ,runOpsC,runOpsZ_eq P self rd os r,opZ_eq]
    rfl
def drawnWZ (P:Program)(self:SelfC)(rd:Option Nat)(os:Array Oper)(s:St)(k:Ex→St→Option Out):Option Out :=
  match waits os (os.size-1)&&Nat.blt 0 os.size with
  | true=>drawnXZ P self os.pop s fun e s'=>(match e with
    | .normal=>runOpsZ P self rd os [os.size-1] s' k
    | _=>none)
  | false=>drawnXZ P self os s k
theorem drawnWZ_ok {P:Program}{self:SelfC}{sd:Self}(hs:CpsOk self sd) {rd:Option Nat}{id:Nat}{os:Array Oper}{s:St}{k:Ex→St→Option Out}{r:Out}(hc:drawnWZ P self rd os s k=some r) :
    ∃e s',drawnW P sd rd id os s=some (.ex e s')∧k e s'=some r:=by
  unfold drawnWZ at hc
  unfold drawnW
  by_cases hw:(waits os (os.size-1)&&Nat.blt 0 os.size)=true
  · rw [hw]at hc ⊢
    simp only [drawnXZ_eq]at hc
    obtain ⟨e,s',h1,h2⟩:=drawnXC_ok (rd:=rd) (id:=id) hs hc
    simp only [h1]
    cases e with
    | normal =>
      simp only at h2 ⊢
      rw [runOpsZ_eq]at h2
      exact runOpsC_ok hs h2
    | _=>cases h2
  · rw [Bool.eq_false_iff.2 hw]at hc ⊢
    simp only [drawnXZ_eq]at hc
    exact drawnXC_ok hs hc
def stepZ (P:Program)(self:SelfC):SelfC:=fun t k=>match t with
  | .code rd (.region id os dr) s=>(match dr with
    | true=>drawnWZ P self rd os s fun e s'=>(match hasApp os with
      | true=>forceK k (.ex e s')
      | false=>k (.ex e s'))
    | false=>(match hasApp os with
      | true=>runOpsZ P self rd os (List.range os.size) s fun e s'=>forceK k (.ex e s')
      | false=>stepC P self (.code rd (.region id os false) s) k))
  | t=>stepC P self t k
theorem stepF_drawn {P:Program}{sd:Self}{t:Task}{d1 d2:Program→Self→Option Nat→Nat→Array Oper→St→Option Out}(h:∀rd id os s,t≠.code rd (.region id os true) s):stepF d1 P sd t=stepF d2 P sd t:=by
  cases t with
  | code rd c s =>
    cases c with
    | region id os dr =>
      cases dr with
      | true=>exact (h rd id os s rfl).elim
      | false=>rfl
    | _=>rfl
  | _=>rfl
theorem stepZ_ok {P:Program}{self:SelfC}{sd:Self}(hs:CpsOk self sd):CpsOk (stepZ P self) (stepF drawnW P sd):=by
  intro t k r hc
  unfold stepZ at hc
  split at hc
  · rename_i rd id os dr s
    cases dr with
    | true =>
      simp only at hc
      obtain ⟨e,s',h1,h2⟩:=drawnWZ_ok (id:=id) hs hc
      refine ⟨.ex e s',by simpa only [stepF,if_true] using h1,?_⟩
      split at h2
      · rw [forceK_eq]at h2;exact h2
      · exact h2
    | false =>
      simp only at hc
      split at hc
      · rw [runOpsZ_eq,forceK_eq]at hc
        obtain ⟨o,h1,h2⟩:=stepC_ok hs (.code rd (.region id os false) s) k r hc
        exact ⟨o,(stepF_drawn (fun _ _ _ _ h=>by cases h)).trans h1,h2⟩
      · obtain ⟨o,h1,h2⟩:=stepC_ok hs (.code rd (.region id os false) s) k r hc
        exact ⟨o,(stepF_drawn (fun _ _ _ _ h=>by cases h)).trans h1,h2⟩
  · rename_i hn
    obtain ⟨o,h1,h2⟩:=stepC_ok hs _ k r hc
    exact ⟨o,(stepF_drawn (fun rd id os s h=>hn rd id os true s h)).trans h1,h2⟩
def evZ (P:Program)(oc:Task→Kn→Option (Option Out)):Nat→SelfC
  | 0,_,_=>none
  | n+1,t,k=>match oc t k with
    | some r=>r
    | none=>stepZ P (evZ P oc n) t k
theorem evZ_ok {P:Program}{oc:Task→Kn→Option (Option Out)}{orc:Self}(ho:OcOk oc orc):∀n,CpsOk (evZ P oc n) (iterO orc drawnW P n)
  | 0=>fun _ _ _ h=>by cases h
  | n+1=>by
    intro t k r h
    simp only [evZ]at h
    simp only [iterO]
    split at h
    · rename_i r' hr
      subst h
      obtain ⟨o,h1,h2⟩:=ho.1 _ _ _ hr
      rw [h1];exact ⟨_,rfl,h2⟩
    · rename_i hr
      rw [ho.2 _ _ hr]
      exact stepZ_ok (evZ_ok ho n) t k r h
theorem Known.factZ {P:Program}(hN:NoNG P) (hm:P.follows .mixedOrders=true) {a:Ans}(hk:Known P a) {n:Nat}{t:Task}{k:Kn}{r:Out}(h:evZ P a.c n t k=some r):∃o,k o=some r∧Fact P t o:=by
  obtain ⟨o',h1,h2⟩:=evZ_ok (P:=P) a.oc n t k r h
  have hh:=iterO_ok (drawn:=drawnW) hN (drawnW_ok hN hm) hk.selfOk hk.loopOk n
  refine ⟨o',h2,hh.1 _ _ h1,?_⟩
  unfold LoopFact
  split
  · exact fun hb=>hh.2 _ _ _ _ _ h1 hb
  · trivial
def CF.chk (P:Program)(l:List CF)(n:Nat)(c:CF):Bool:=match evZ P (tabA l).c n (.call c.g ⟨c.args⟩ ⟨[],0,[]⟩) frDK with
  | some (.ret u ⟨[],0,[]⟩)=>(match eqVn 12 u c.u with
    | true=>c.args.all pureA
    | false=>false)
  | _=>false
section
variable {P:Program}(hN:NoNG P) (hm:P.follows .mixedOrders=true)
include hN hm
theorem CF.of2 {l:List CF}(hl:CFs P l) (n:Nat) {c:CF}(h:c.chk P l n=true):c.Ok P:=by
  unfold CF.chk at h
  split at h
  · rename_i u he
    split at h
    · rename_i hu
      have e:=eqVn_eq hu
      subst e
      intro hp
      obtain ⟨o,h3,hf⟩:=(tabA_ok hl).factZ hN hm he
      cases o with
      | ret v h' =>
        simp only [frDK]at h3
        split at h3
        · rename_i u hu
          simp only [Option.some.injEq,Out.ret.injEq,and_true]at h3
          subst h3
          exact hf.liftD hu h hp
        · cases h3
      | _=>cases h3
    · cases h
  · cases h
end
end
end Go.Gi
namespace Go.Proofs.Ytoojllndfjamgaa
open Go.Gi Go.RowKit
noncomputable section
set_option maxRecDepth 100000
set_option maxHeartbeats 4000000
def wAwake0:Array Value:=⟨[.string ⟨⟨[65]⟩⟩,vI 1,vI 2,lstV ⟨[.string ⟨⟨[97]⟩⟩,vI 0,vI 2,vI 0,.string ⟨⟨[98]⟩⟩,vI 0,vI 2,vI 1]⟩ 0 2 4]⟩
def wAwake1:Array Value:=⟨[.int .u8 (.ofNat 65),.int .u8 (.ofNat 1),.int .u8 (.ofNat 1),.int .u8 (.ofNat 2),.int .u8 (.ofNat 184),.int .u8 (.ofNat 171)]⟩
def KAwake0:CF:=⟨56,[],.agg wAwake0⟩
theorem kAwake0:KAwake0.Ok Try.prog:=CF.of2 noNG mixed (l:=[]) .nil 3000 (by kernel_rfl)
def KAwake1:CF:=⟨42,[vI 1,vI 1,vI 4],vT⟩
theorem kAwake1:KAwake1.Ok Try.prog:=CF.of2 noNG mixed (l:=[]) .nil 3000 (by kernel_rfl)
def KAwake2:CF:=⟨42,[vI 1,vI 1,vI 32],vT⟩
theorem kAwake2:KAwake2.Ok Try.prog:=CF.of2 noNG mixed (l:=[]) .nil 3000 (by kernel_rfl)
def KAwake3:CF:=⟨101,[.int .u8 (.ofNat 97)],vT⟩
theorem kAwake3:KAwake3.Ok Try.prog:=CF.of2 noNG mixed (l:=[]) .nil 3000 (by kernel_rfl)
def KAwake4:CF:=⟨79,[.string ⟨⟨[97]⟩⟩],vT⟩
theorem kAwake4:KAwake4.Ok Try.prog:=CF.of2 noNG mixed (l:=[KAwake3]) (.cons kAwake3 .nil) 3000 (by kernel_rfl)
def KAwake5:CF:=⟨42,[vI 0,vI 0,vI 0],vT⟩
theorem kAwake5:KAwake5.Ok Try.prog:=CF.of2 noNG mixed (l:=[]) .nil 3000 (by kernel_rfl)
def KAwake6:CF:=⟨82,[vI 2,vI 2],vT⟩
theorem kAwake6:KAwake6.Ok Try.prog:=CF.of2 noNG mixed (l:=[]) .nil 3000 (by kernel_rfl)
def KAwake7:CF:=⟨42,[vI 0,vI 0,vI 1],vT⟩
theorem kAwake7:KAwake7.Ok Try.prog:=CF.of2 noNG mixed (l:=[]) .nil 3000 (by kernel_rfl)
def KAwake8:CF:=⟨44,[.agg wAwake0,.agg ⟨[.string ⟨⟨[97]⟩⟩,vI 0,vI 2,vI 0]⟩,lstV ⟨[.string ⟨⟨[97]⟩⟩,vI 0,vI 2,vI 0,.string ⟨⟨[98]⟩⟩,vI 0,vI 2,vI 1]⟩ 0 0 4],vI 0⟩
theorem kAwake8:KAwake8.Ok Try.prog:=CF.of2 noNG mixed (l:=[KAwake4,KAwake5,KAwake6,KAwake7]) (.cons kAwake4 (.cons kAwake5 (.cons kAwake6 (.cons kAwake7 .nil)))) 3000 (by kernel_rfl)
def KAwake9:CF:=⟨101,[.int .u8 (.ofNat 98)],vT⟩
theorem kAwake9:KAwake9.Ok Try.prog:=CF.of2 noNG mixed (l:=[]) .nil 3000 (by kernel_rfl)
def KAwake10:CF:=⟨79,[.string ⟨⟨[98]⟩⟩],vT⟩
theorem kAwake10:KAwake10.Ok Try.prog:=CF.of2 noNG mixed (l:=[KAwake9]) (.cons kAwake9 .nil) 3000 (by kernel_rfl)
def KAwake11:CF:=⟨42,[vI 1,vI 0,vI 1],vT⟩
theorem kAwake11:KAwake11.Ok Try.prog:=CF.of2 noNG mixed (l:=[]) .nil 3000 (by kernel_rfl)
def KAwake12:CF:=⟨84,[.agg ⟨[.string ⟨⟨[97]⟩⟩,vI 0,vI 2,vI 0]⟩,.agg ⟨[.string ⟨⟨[98]⟩⟩,vI 0,vI 2,vI 1]⟩],vF⟩
theorem kAwake12:KAwake12.Ok Try.prog:=CF.of2 noNG mixed (l:=[]) .nil 3000 (by kernel_rfl)
def KAwake13:CF:=⟨44,[.agg wAwake0,.agg ⟨[.string ⟨⟨[98]⟩⟩,vI 0,vI 2,vI 1]⟩,lstV ⟨[.string ⟨⟨[97]⟩⟩,vI 0,vI 2,vI 0,.string ⟨⟨[98]⟩⟩,vI 0,vI 2,vI 1]⟩ 0 1 4],vI 0⟩
theorem kAwake13:KAwake13.Ok Try.prog:=CF.of2 noNG mixed (l:=[KAwake5,KAwake6,KAwake10,KAwake11,KAwake12]) (.cons kAwake5 (.cons kAwake6 (.cons kAwake10 (.cons kAwake11 (.cons kAwake12 .nil))))) 3000 (by kernel_rfl)
def KAwake14:CF:=⟨15,[.agg wAwake0],.tuple ⟨[vI 0,vI 0,vI 0]⟩⟩
theorem kAwake14:KAwake14.Ok Try.prog:=CF.of2 noNG mixed (l:=[KAwake8,KAwake1,KAwake2,KAwake13]) (.cons kAwake8 (.cons kAwake1 (.cons kAwake2 (.cons kAwake13 .nil)))) 3000 (by kernel_rfl)
def KAwake15:CF:=⟨42,[vI 1,vI 0,vI 1000000],vT⟩
theorem kAwake15:KAwake15.Ok Try.prog:=CF.of2 noNG mixed (l:=[]) .nil 3000 (by kernel_rfl)
def KAwake16:CF:=⟨87,[vI 1],vT⟩
theorem kAwake16:KAwake16.Ok Try.prog:=CF.of2 noNG mixed (l:=[KAwake15]) (.cons kAwake15 .nil) 3000 (by kernel_rfl)
def KAwake17:CF:=⟨42,[vI 258,vI 0,vI 65535],vT⟩
theorem kAwake17:KAwake17.Ok Try.prog:=CF.of2 noNG mixed (l:=[]) .nil 3000 (by kernel_rfl)
def KAwake18:CF:=⟨89,[vI 258],vT⟩
theorem kAwake18:KAwake18.Ok Try.prog:=CF.of2 noNG mixed (l:=[KAwake17]) (.cons kAwake17 .nil) 3000 (by kernel_rfl)
def KAwake19:CF:=⟨58,[.int .u16 (.ofNat 65535),.int .u8 (.ofNat 65)],.int .u16 (.ofNat 47381)⟩
theorem kAwake19:KAwake19.Ok Try.prog:=CF.of2 noNG mixed (l:=[]) .nil 3000 (by kernel_rfl)
def KAwake20:CF:=⟨58,[.int .u16 (.ofNat 47381),.int .u8 (.ofNat 1)],.int .u16 (.ofNat 13267)⟩
theorem kAwake20:KAwake20.Ok Try.prog:=CF.of2 noNG mixed (l:=[]) .nil 3000 (by kernel_rfl)
def KAwake21:CF:=⟨58,[.int .u16 (.ofNat 13267),.int .u8 (.ofNat 1)],.int .u16 (.ofNat 50449)⟩
theorem kAwake21:KAwake21.Ok Try.prog:=CF.of2 noNG mixed (l:=[]) .nil 3000 (by kernel_rfl)
def KAwake22:CF:=⟨58,[.int .u16 (.ofNat 50449),.int .u8 (.ofNat 2)],.int .u16 (.ofNat 47275)⟩
theorem kAwake22:KAwake22.Ok Try.prog:=CF.of2 noNG mixed (l:=[]) .nil 3000 (by kernel_rfl)
def KAwake23:CF:=⟨57,[],lstV wAwake1 0 6 1⟩
theorem kAwake23:KAwake23.Ok Try.prog:=CF.of2 noNG mixed (l:=[]) .nil 3000 (by kernel_rfl)
def KAwake24:CF:=⟨42,[vI 0,vI 0,vI 1000000],vT⟩
theorem kAwake24:KAwake24.Ok Try.prog:=CF.of2 noNG mixed (l:=[]) .nil 3000 (by kernel_rfl)
def KAwake25:CF:=⟨87,[vI 0],vT⟩
theorem kAwake25:KAwake25.Ok Try.prog:=CF.of2 noNG mixed (l:=[KAwake24]) (.cons kAwake24 .nil) 3000 (by kernel_rfl)
def KAwake26:CF:=⟨71,[.agg wAwake0,.agg ⟨[lstV wAwake1 0 6 1,vI 0]⟩],vI 0⟩
theorem kAwake26:KAwake26.Ok Try.prog:=CF.of2 noNG mixed (l:=[KAwake25,KAwake14]) (.cons kAwake25 (.cons kAwake14 .nil)) 3000 (by kernel_rfl)
def KAwake27:CF:=⟨68,[.agg wAwake0,lstV wAwake1 0 6 1],.func (.func 90) ⟨[]⟩ ⟨[dptV wAwake0 0,dptV ⟨[lstV wAwake1 0 6 1]⟩ 0]⟩⟩
theorem kAwake27:KAwake27.Ok Try.prog:=CF.of2 noNG mixed (l:=[]) .nil 3000 (by kernel_rfl)
def KAwake28:CF:=⟨69,[.agg wAwake0],vI 6⟩
theorem kAwake28:KAwake28.Ok Try.prog:=CF.of2 noNG mixed (l:=[]) .nil 3000 (by kernel_rfl)
def KAwake29:CF:=⟨104,[lstV wAwake1 0 6 1,vI 4],vI 47275⟩
theorem kAwake29:KAwake29.Ok Try.prog:=CF.of2 noNG mixed (l:=[]) .nil 3000 (by kernel_rfl)
def KAwake30:CF:=⟨20,[lstV wAwake1 0 4 1],vI 47275⟩
theorem kAwake30:KAwake30.Ok Try.prog:=CF.of2 noNG mixed (l:=[KAwake19,KAwake20,KAwake21,KAwake22]) (.cons kAwake19 (.cons kAwake20 (.cons kAwake21 (.cons kAwake22 .nil)))) 3000 (by kernel_rfl)
def KAwake31:CF:=⟨91,[.agg wAwake0,lstV wAwake1 0 6 1],vT⟩
theorem kAwake31:KAwake31.Ok Try.prog:=CF.of2 noNG mixed (l:=[KAwake29,KAwake30]) (.cons kAwake29 (.cons kAwake30 .nil)) 3000 (by kernel_rfl)
def KAwake32:CF:=⟨104,[lstV wAwake1 1 5 1,vI 1],vI 258⟩
theorem kAwake32:KAwake32.Ok Try.prog:=CF.of2 noNG mixed (l:=[]) .nil 3000 (by kernel_rfl)
def KAwake33:CF:=⟨92,[.agg wAwake0,lstV wAwake1 0 6 1,vI 0],.agg ⟨[vI 0,vI 1,lstV ⟨[vI 258]⟩ 0 1 1]⟩⟩
theorem kAwake33:KAwake33.Ok Try.prog:=CF.of2 noNG mixed (l:=[KAwake32]) (.cons kAwake32 .nil) 3000 (by kernel_rfl)
def KAwake34:CF:=⟨93,[vI 1,vI 256],vI 1⟩
theorem kAwake34:KAwake34.Ok Try.prog:=CF.of2 noNG mixed (l:=[]) .nil 3000 (by kernel_rfl)
def KAwake35:CF:=⟨95,[.agg ⟨[vI 1,lstV ⟨[vI 258]⟩ 0 1 1]⟩],vT⟩
theorem kAwake35:KAwake35.Ok Try.prog:=CF.of2 noNG mixed (l:=[KAwake16]) (.cons kAwake16 .nil) 3000 (by kernel_rfl)
def KAwake36:CF:=⟨72,[.agg wAwake0,.agg ⟨[lstV wAwake1 0 6 1,vI 0]⟩],.tuple ⟨[lstV ⟨[vI 1,lstV ⟨[vI 258]⟩ 0 1 1]⟩ 0 1 2,vI 0]⟩⟩
theorem kAwake36:KAwake36.Ok Try.prog:=CF.of2 noNG mixed (l:=[KAwake28,KAwake33,KAwake34,KAwake35,KAwake27,KAwake31]) (.cons kAwake28 (.cons kAwake33 (.cons kAwake34 (.cons kAwake35 (.cons kAwake27 (.cons kAwake31 .nil)))))) 3000 (by kernel_rfl)
def KAwake37:CF:=⟨31,[.agg wAwake0,.agg ⟨[lstV wAwake1 0 6 1,vI 0]⟩],.tuple ⟨[lstV ⟨[vI 1]⟩ 0 1 1,vI 0]⟩⟩
theorem kAwake37:KAwake37.Ok Try.prog:=CF.of2 noNG mixed (l:=[KAwake26,KAwake36]) (.cons kAwake26 (.cons kAwake36 .nil)) 3000 (by kernel_rfl)
def KAwake38:CF:=⟨42,[vJ 0,vI 0,vI 1000000],vF⟩
theorem kAwake38:KAwake38.Ok Try.prog:=CF.of2 noNG mixed (l:=[]) .nil 3000 (by kernel_rfl)
def KAwake39:CF:=⟨87,[vJ 0],vF⟩
theorem kAwake39:KAwake39.Ok Try.prog:=CF.of2 noNG mixed (l:=[KAwake38]) (.cons kAwake38 .nil) 3000 (by kernel_rfl)
def KAwake40:CF:=⟨59,[.agg wAwake0,vJ 0,.slice none 0 0,vI 1],vI 7⟩
theorem kAwake40:KAwake40.Ok Try.prog:=CF.of2 noNG mixed (l:=[KAwake14,KAwake39]) (.cons kAwake14 (.cons kAwake39 .nil)) 3000 (by kernel_rfl)
def KAwake41:CF:=⟨25,[.agg wAwake0,vJ 0,.slice none 0 0],.tuple ⟨[.slice none 0 0,vI 7]⟩⟩
theorem kAwake41:KAwake41.Ok Try.prog:=CF.of2 noNG mixed (l:=[KAwake40]) (.cons kAwake40 .nil) 3000 (by kernel_rfl)
def KAwake42:CF:=⟨58,[.int .u16 (.ofNat 65535),.int .u8 (.ofNat 49)],.int .u16 (.ofNat 51074)⟩
theorem kAwake42:KAwake42.Ok Try.prog:=CF.of2 noNG mixed (l:=[]) .nil 3000 (by kernel_rfl)
def KAwake43:CF:=⟨58,[.int .u16 (.ofNat 51074),.int .u8 (.ofNat 50)],.int .u16 (.ofNat 15802)⟩
theorem kAwake43:KAwake43.Ok Try.prog:=CF.of2 noNG mixed (l:=[]) .nil 3000 (by kernel_rfl)
def KAwake44:CF:=⟨58,[.int .u16 (.ofNat 15802),.int .u8 (.ofNat 51)],.int .u16 (.ofNat 23502)⟩
theorem kAwake44:KAwake44.Ok Try.prog:=CF.of2 noNG mixed (l:=[]) .nil 3000 (by kernel_rfl)
def KAwake45:CF:=⟨58,[.int .u16 (.ofNat 23502),.int .u8 (.ofNat 52)],.int .u16 (.ofNat 21321)⟩
theorem kAwake45:KAwake45.Ok Try.prog:=CF.of2 noNG mixed (l:=[]) .nil 3000 (by kernel_rfl)
def KAwake46:CF:=⟨58,[.int .u16 (.ofNat 21321),.int .u8 (.ofNat 53)],.int .u16 (.ofNat 17760)⟩
theorem kAwake46:KAwake46.Ok Try.prog:=CF.of2 noNG mixed (l:=[]) .nil 3000 (by kernel_rfl)
def KAwake47:CF:=⟨58,[.int .u16 (.ofNat 17760),.int .u8 (.ofNat 54)],.int .u16 (.ofNat 12020)⟩
theorem kAwake47:KAwake47.Ok Try.prog:=CF.of2 noNG mixed (l:=[]) .nil 3000 (by kernel_rfl)
def KAwake48:CF:=⟨58,[.int .u16 (.ofNat 12020),.int .u8 (.ofNat 55)],.int .u16 (.ofNat 30488)⟩
theorem kAwake48:KAwake48.Ok Try.prog:=CF.of2 noNG mixed (l:=[]) .nil 3000 (by kernel_rfl)
def KAwake49:CF:=⟨58,[.int .u16 (.ofNat 30488),.int .u8 (.ofNat 56)],.int .u16 (.ofNat 41259)⟩
theorem kAwake49:KAwake49.Ok Try.prog:=CF.of2 noNG mixed (l:=[]) .nil 3000 (by kernel_rfl)
def KAwake50:CF:=⟨58,[.int .u16 (.ofNat 41259),.int .u8 (.ofNat 57)],.int .u16 (.ofNat 10673)⟩
theorem kAwake50:KAwake50.Ok Try.prog:=CF.of2 noNG mixed (l:=[]) .nil 3000 (by kernel_rfl)
def KAwake51:CF:=⟨19,[],vT⟩
theorem kAwake51:KAwake51.Ok Try.prog:=CF.of2 noNG mixed (l:=[KAwake0,KAwake23,KAwake14,KAwake16,KAwake18,KAwake19,KAwake20,KAwake21,KAwake22,KAwake37,KAwake41,KAwake42,KAwake43,KAwake44,KAwake45,KAwake46,KAwake47,KAwake48,KAwake49,KAwake50]) (.cons kAwake0 (.cons kAwake23 (.cons kAwake14 (.cons kAwake16 (.cons kAwake18 (.cons kAwake19 (.cons kAwake20 (.cons kAwake21 (.cons kAwake22 (.cons kAwake37 (.cons kAwake41 (.cons kAwake42 (.cons kAwake43 (.cons kAwake44 (.cons kAwake45 (.cons kAwake46 (.cons kAwake47 (.cons kAwake48 (.cons kAwake49 (.cons kAwake50 .nil)))))))))))))))))))) 3000 (by kernel_rfl)
end
end Go.Proofs.Ytoojllndfjamgaa
namespace Go.Proofs.Ytoojllndfjamgaa
open Go.Gi Go.RowKit
noncomputable section
structure R19 where
  r0:Bool
structure A19 where
def rt19:RT R19:=.leaf ⟨true⟩
def F19:Option R19:=rt19.val
def F19_ok:Bool:=F19.isSome
def F19_0:Bool:=match F19 with | some r=>r.r0 | none=>false
def dec19:Task→Option (A19×Hp)
  | .call g ⟨[]⟩ h=>(match Nat.beq g 19 with | true=>some (⟨⟩,h) | false=>none)
  | _=>none
def alt19 (_x:A19)(h:Hp):AT:=.br F19_ok (.leaf (.ret (.bool F19_0) h)) .no
def p19:Ans:=fnAns dec19 alt19
theorem hd19:∀(t:Task) (x:A19)(h:Hp),dec19 t=some (x,h)→t=.call 19 ⟨[]⟩ h:=by
  intro t x h e
  unfold dec19 at e
  split at e
  case h_2=>cases e
  split at e
  case h_2=>cases e
  rename_i hg
  simp only [Option.some.injEq,Prod.mk.injEq]at e
  obtain ⟨_,rfl⟩:=e
  rw [Nat.eq_of_beq_eq_true hg]
theorem known19:Known Try.prog p19:=by
  intro t x o h ho
  unfold p19 fnAns at h
  split at h
  · rename_i x' hp hd
    simp only [Option.some.injEq]at h
    subst h
    obtain rfl:=hd19 _ _ _ hd
    have h2:(alt19 x' hp).out=some (.ret (.bool true) hp):=rfl
    rw [h2]at ho
    cases ho
    exact kAwake51 hp
  · cases h
end
end Go.Proofs.Ytoojllndfjamgaa
namespace Go.Proofs.Ytoojllndfjamgaa
open Go.Gi Go.RowKit Go.Proofs.Ytoojllndfjamgaa.Old
noncomputable section
set_option maxRecDepth 100000
set_option maxHeartbeats 4000000
structure X58_0 where
  v0:Int
  v1:Int
inductive D58_0 where
  | k0 (d0:Int)
def Lp58_0:LoopOf X58_0 D58_0 where
  c:=(theLoop Try.prog 58 0)
  N:=22
  M:=0
  S:=[0,11]
  sl:=fun x=>[(.int .u16 x.v0),(.int .i64 x.v1)]
  hp:=fun x=>[]
  ex:=fun d=>match d with | .k0 ..=>.exit 0
  pick:=fun e=>match e with | .exit 0=>[0] | _=>[]
  dv:=fun d=>match d with | .k0 d0=>[(.int .u16 d0)]
  dh:=fun d=>match d with | .k0 d0=>[]
theorem ok58_0:Lp58_0.Ok:=⟨fun x=>rfl,fun x=>rfl,fun x=>rfl,fun x=>rfl,fun d=>by cases d<;>rfl,fun d=>by cases d<;>rfl,fun d=>by cases d<;>rfl,fun d=>by cases d<;>(intro h;cases h),fun d=>by cases d<;>rfl,fun d=>by cases d<;>rfl⟩
def rd58_0 (x:X58_0):RT (Sum X58_0 D58_0):=match x with
  | ⟨v0,v1⟩ =>
     .br (decide (v1<(8:Int))) (.br (decide ((32768:Int)≤v0)) (.leaf (.inl ⟨(xorI .u16 (IntKind.wrap .u16 (v0*(2:Int))) (4129:Int)),(IntKind.wrap .i64 (v1+(1:Int)))⟩)) (.leaf (.inl ⟨(IntKind.wrap .u16 (v0*(2:Int))),(IntKind.wrap .i64 (v1+(1:Int)))⟩))) (.leaf (.inr (.k0 (v0))))
theorem T58_0  (y:List Value) (v0:Int) (v1:Int):evC Try.prog (Ans.c (fun _=>none:Ans)) 60 (.code none (theLoop Try.prog 58 0) ⟨sets (junkF 22 y) [(0,(.int .u16 v0)),(11,(.int .i64 v1))],[],⟨[],0,[]⟩⟩) (sumK 0 22 Lp58_0.pk)=(rd58_0 ⟨v0,v1⟩).out Lp58_0.enc:=by kernel_rfl
def L58_0 (x:X58_0):Option D58_0:=loopR rd58_0 x
section
variable (x:X58_0)
def L58_0_k0:Bool:=match L58_0 x with | some (.k0 ..)=>true | _=>false
def Qa0:Int:=match L58_0 x with | some (.k0 d)=>d | _=>0
end
def dec58_0:Task→Option (Code×X58_0)
  | .code none (.loop code) ⟨t,[],⟨[],0,[]⟩⟩ =>
    (match Nat.beq (firstReg code) 3,lenIs t 22,lget t 0,lget t 11 with
    | true,true,(.int .u16 v0),(.int .i64 v1)=>some (code,⟨v0,v1⟩)
    | _,_,_,_=>none)
  | _=>none
def alt58_0 (x:X58_0)(j:List Value):AT:=.br (L58_0_k0 x) (loopEnd 22 (.exit 0) [(0,(.int .u16 (Qa0 x)))] ⟨[],0,[]⟩ j) (.no)
def la58_0 (J:Task→List Value):Ans:=loopAns Lp58_0.c dec58_0 alt58_0 J
theorem ha58_0:∀(x:X58_0) (j:List Value)(o:Out),(alt58_0 x j).out=some o→∃d,loopR rd58_0 x=some d∧o=Lp58_0.tail d j:=by
  intro x j o h
  unfold alt58_0 at h
  cases hL:L58_0 x with
  | none=>simp [L58_0_k0,Qa0,hL,AT.out]at h
  | some d =>
    refine ⟨d,hL,?_⟩
    cases d<;>(simp only [L58_0_k0,Qa0,hL,AT.out,loopEnd,cond_true,cond_false,Option.some.injEq]at h;rw [← h];rfl)
theorem hd58_0:∀(t:Task) (c:Code)(x:X58_0),dec58_0 t=some (c,x)→c=Lp58_0.c→∃T,t=.code none (.loop Lp58_0.c) ⟨T,[],⟨Lp58_0.hp x,0,[]⟩⟩∧T.length=Lp58_0.N∧∀kv∈Lp58_0.S.zip (Lp58_0.sl x),lget T kv.1=kv.2:=by
  intro t c x h hc
  unfold dec58_0 at h
  split at h
  case h_2=>cases h
  split at h
  case h_2=>cases h
  simp only [Option.some.injEq,Prod.mk.injEq]at h
  obtain ⟨rfl,rfl⟩:=h
  subst hc
  refine ⟨_,rfl,lenIs_eq _ _ (by assumption),?_⟩
  intro kv hk
  simp only [Lp58_0,List.zip_cons_cons,List.zip_nil_right,List.mem_cons,List.not_mem_nil,or_false]at hk
  rcases hk with rfl | rfl<;>assumption
theorem kl58_0:∃J,Known Try.prog (la58_0 J):=by
  exact LoopOf.known noNG mixed ok58_0 (by decide) (by decide) (Known.nothing Try.prog) (n:=60) (rd:=rd58_0) (fun x j=>T58_0  j x.v0 x.v1) dec58_0 alt58_0 hd58_0 ha58_0
structure R58 where
  r0:Int
structure A58 where
  a0:Int
  a1:Int
def rt58 (a0:Int)(a1:Int):RT R58 :=
  .sw (eqCode (Lp58_0.c) (Lp58_0.c)) true (by simp only [eqCode_self,arrEq_self]) (.br (L58_0_k0 (X58_0.mk (xorI .u16 a0 (IntKind.wrap .u16 ((IntKind.wrap .u16 a1)*(256:Int)))) (0:Int))) (.leaf ⟨(Qa0 (X58_0.mk (xorI .u16 a0 (IntKind.wrap .u16 ((IntKind.wrap .u16 a1)*(256:Int)))) (0:Int)))⟩) (.no)) (.no)
def en58 (r:R58):Value:=(.int .u16 r.r0)
theorem T58 (J0:Task→List Value)(a0:Int)(a1:Int):evC Try.prog (Ans.c (la58_0 J0)) 60 (.call 58 ⟨[(.int .u16 a0),(.int .u8 a1)]⟩ ⟨[],0,[]⟩) (frzK [0])=(rt58 a0 a1).out (fun r=>.ret (en58 r) ⟨[],0,[]⟩):=by kernel_rfl
def F58 (a0:Int)(a1:Int):Option R58:=(rt58 a0 a1).val
section
variable (a0:Int) (a1:Int)
def F58_ok:Bool:=(F58 a0 a1).isSome
def F58_0:Int:=match F58 a0 a1 with | some r=>r.r0 | none=>0
end
def dec58:Task→Option (A58×Hp)
  | .call g ⟨[(.int .u16 a0),(.int .u8 a1)]⟩ h=>(match Nat.beq g 58 with | true=>some (⟨a0,a1⟩,h) | false=>none)
  | _=>none
def alt58 (x:A58)(h:Hp):AT:=.br (F58_ok x.a0 x.a1) (.leaf (.ret (.int .u16 (F58_0 x.a0 x.a1)) h)) .no
def p58:Ans:=fnAns dec58 alt58
theorem ha58:∀(x:A58) (h:Hp)(o:Out),(alt58 x h).out=some o→∃r,(rt58 x.a0 x.a1).val=some r∧o=.ret (en58 r) h:=by
  intro x h o e
  unfold alt58 at e
  simp only [AT.out]at e
  obtain ⟨g,e⟩:=cond_some e
  unfold F58_ok at g
  obtain ⟨r,hF⟩:=Option.isSome_iff_exists.1 g
  have hv:F58 x.a0 x.a1=(rt58 x.a0 x.a1).val:=by delta F58;exact rfl
  refine ⟨r,hv.symm.trans hF,?_⟩
  simp only [Option.some.injEq]at e
  rw [← e]
  have k0:F58_0 x.a0 x.a1=r.r0:=by
    show (match F58 x.a0 x.a1 with | some r=>r.r0 | none=>0)=r.r0
    rw [hF]
  rw [k0]<;>rfl
theorem hd58:∀(t:Task) (x:A58)(h:Hp),dec58 t=some (x,h)→t=.call 58 ⟨[(.int .u16 x.a0),(.int .u8 x.a1)]⟩ h:=by
  intro t x h e
  unfold dec58 at e
  split at e
  case h_2=>cases e
  split at e
  case h_2=>cases e
  rename_i hg
  simp only [Option.some.injEq,Prod.mk.injEq]at e
  obtain ⟨rfl,rfl⟩:=e
  rw [Nat.eq_of_beq_eq_true hg]
theorem known58:Known Try.prog p58:=by
  obtain ⟨J0,hJ0⟩:=kl58_0
  exact Known.fn noNG mixed hJ0 (n:=60) (zs:=[0]) 58 (fun x:A58=>[(.int .u16 x.a0),(.int .u8 x.a1)]) (fun x=>rt58 x.a0 x.a1) en58 (fun x=>T58 J0 x.a0 x.a1) (fun x=>rfl) dec58 alt58 hd58 ha58
structure X20_0 where
  v0:Int
  v1:Array Value
  v2:Nat
  v3:Nat
  v4:Int
  v5:Int
inductive D20_0 where
  | k0 (d0:Int)
def Lp20_0:LoopOf X20_0 D20_0 where
  c:=(theLoop Try.prog 20 0)
  N:=18
  M:=0
  S:=[3,6,7,8]
  sl:=fun x=>[(.int .u16 x.v0),(lstV x.v1 x.v2 x.v3 1),(.int .i64 x.v4),(.int .i64 x.v5)]
  hp:=fun x=>[]
  ex:=fun d=>match d with | .k0 ..=>.exit 0
  pick:=fun e=>match e with | .exit 0=>[3] | _=>[]
  dv:=fun d=>match d with | .k0 d0=>[(.int .u16 d0)]
  dh:=fun d=>match d with | .k0 d0=>[]
theorem ok20_0:Lp20_0.Ok:=⟨fun x=>rfl,fun x=>rfl,fun x=>rfl,fun x=>rfl,fun d=>by cases d<;>rfl,fun d=>by cases d<;>rfl,fun d=>by cases d<;>rfl,fun d=>by cases d<;>(intro h;cases h),fun d=>by cases d<;>rfl,fun d=>by cases d<;>rfl⟩
def rd20_0 (x:X20_0):RT (Sum X20_0 D20_0):=match x with
  | ⟨v0,v1,v2,v3,v4,v5⟩ =>
     .br (decide (v5<v4)) (.br (and (decide ((0:Int)≤v5)) (decide (v5<(Int.ofNat v3)))) (.br (isInt .u8 v1 (v2+((Int.toNat v5)*1))) (.br (F58_ok v0 (getInt v1 (v2+((Int.toNat v5)*1)))) (.leaf (.inl ⟨(F58_0 v0 (getInt v1 (v2+((Int.toNat v5)*1)))),v1,v2,v3,v4,(IntKind.wrap .i64 (v5+(1:Int)))⟩)) (.no)) (.no)) (.no)) (.leaf (.inr (.k0 (v0))))
theorem T20_0  (y:List Value) (v0:Int) (v1:Array Value) (v2:Nat) (v3:Nat) (v4:Int) (v5:Int):evC Try.prog (Ans.c p58) 60 (.code none (theLoop Try.prog 20 0) ⟨sets (junkF 18 y) [(3,(.int .u16 v0)),(6,(lstV v1 v2 v3 1)),(7,(.int .i64 v4)),(8,(.int .i64 v5))],[],⟨[],0,[]⟩⟩) (sumK 0 18 Lp20_0.pk)=(rd20_0 ⟨v0,v1,v2,v3,v4,v5⟩).out Lp20_0.enc:=by kernel_rfl
def L20_0 (x:X20_0):Option D20_0:=loopR rd20_0 x
section
variable (x:X20_0)
def L20_0_k0:Bool:=match L20_0 x with | some (.k0 ..)=>true | _=>false
def Qb0:Int:=match L20_0 x with | some (.k0 d)=>d | _=>0
end
def dec20_0:Task→Option (Code×X20_0)
  | .code none (.loop code) ⟨t,[],⟨[],0,[]⟩⟩ =>
    (match Nat.beq (firstReg code) 3,lenIs t 18,lget t 3,lget t 6,lget t 7,lget t 8 with
    | true,true,(.int .u16 v0),(.func (.via 0 ⟨[]⟩ 0 true) v1 ⟨[.slice (some ⟨0,v2,none⟩) v3 1]⟩),(.int .i64 v4),(.int .i64 v5)=>some (code,⟨v0,v1,v2,v3,v4,v5⟩)
    | _,_,_,_,_,_=>none)
  | _=>none
def alt20_0 (x:X20_0)(j:List Value):AT:=.br (L20_0_k0 x) (loopEnd 18 (.exit 0) [(3,(.int .u16 (Qb0 x)))] ⟨[],0,[]⟩ j) (.no)
def la20_0 (J:Task→List Value):Ans:=loopAns Lp20_0.c dec20_0 alt20_0 J
theorem ha20_0:∀(x:X20_0) (j:List Value)(o:Out),(alt20_0 x j).out=some o→∃d,loopR rd20_0 x=some d∧o=Lp20_0.tail d j:=by
  intro x j o h
  unfold alt20_0 at h
  cases hL:L20_0 x with
  | none=>simp [L20_0_k0,Qb0,hL,AT.out]at h
  | some d =>
    refine ⟨d,hL,?_⟩
    cases d<;>(simp only [L20_0_k0,Qb0,hL,AT.out,loopEnd,cond_true,cond_false,Option.some.injEq]at h;rw [← h];rfl)
theorem hd20_0:∀(t:Task) (c:Code)(x:X20_0),dec20_0 t=some (c,x)→c=Lp20_0.c→∃T,t=.code none (.loop Lp20_0.c) ⟨T,[],⟨Lp20_0.hp x,0,[]⟩⟩∧T.length=Lp20_0.N∧∀kv∈Lp20_0.S.zip (Lp20_0.sl x),lget T kv.1=kv.2:=by
  intro t c x h hc
  unfold dec20_0 at h
  split at h
  case h_2=>cases h
  split at h
  case h_2=>cases h
  simp only [Option.some.injEq,Prod.mk.injEq]at h
  obtain ⟨rfl,rfl⟩:=h
  subst hc
  refine ⟨_,rfl,lenIs_eq _ _ (by assumption),?_⟩
  intro kv hk
  simp only [Lp20_0,List.zip_cons_cons,List.zip_nil_right,List.mem_cons,List.not_mem_nil,or_false]at hk
  rcases hk with rfl | rfl | rfl | rfl<;>assumption
theorem kl20_0:∃J,Known Try.prog (la20_0 J):=by
  exact LoopOf.known noNG mixed ok20_0 (by decide) (by decide) known58 (n:=60) (rd:=rd20_0) (fun x j=>T20_0  j x.v0 x.v1 x.v2 x.v3 x.v4 x.v5) dec20_0 alt20_0 hd20_0 ha20_0
structure R20 where
  r0:Int
structure A20 where
  a0:Array Value
  a1:Nat
  a2:Nat
def rt20 (a0:Array Value)(a1:Nat)(a2:Nat):RT R20 :=
  .sw (eqCode (Lp20_0.c) (Lp20_0.c)) true (by simp only [eqCode_self,arrEq_self]) (.br (L20_0_k0 (X20_0.mk (65535:Int) a0 a1 a2 (Int.ofNat a2) (0:Int))) (.leaf ⟨(IntKind.wrap .i64 (Qb0 (X20_0.mk (65535:Int) a0 a1 a2 (Int.ofNat a2) (0:Int))))⟩) (.no)) (.no)
def en20 (r:R20):Value:=(.int .i64 r.r0)
theorem T20 (J0:Task→List Value)(a0:Array Value)(a1:Nat)(a2:Nat):evC Try.prog (Ans.c (p58.or (la20_0 J0))) 60 (.call 20 ⟨[(lstV a0 a1 a2 1)]⟩ ⟨[],0,[]⟩) (frzK [0])=(rt20 a0 a1 a2).out (fun r=>.ret (en20 r) ⟨[],0,[]⟩):=by kernel_rfl
def F20 (a0:Array Value)(a1:Nat)(a2:Nat):Option R20:=(rt20 a0 a1 a2).val
section
variable (a0:Array Value) (a1:Nat) (a2:Nat)
def F20_ok:Bool:=(F20 a0 a1 a2).isSome
def F20_0:Int:=match F20 a0 a1 a2 with | some r=>r.r0 | none=>0
end
def dec20:Task→Option (A20×Hp)
  | .call g ⟨[(.func (.via 0 ⟨[]⟩ 0 true) a0 ⟨[.slice (some ⟨0,a1,none⟩) a2 1]⟩)]⟩ h=>(match Nat.beq g 20 with | true=>some (⟨a0,a1,a2⟩,h) | false=>none)
  | _=>none
def alt20 (x:A20)(h:Hp):AT:=.br (F20_ok x.a0 x.a1 x.a2) (.leaf (.ret (.int .i64 (F20_0 x.a0 x.a1 x.a2)) h)) .no
def p20:Ans:=fnAns dec20 alt20
theorem ha20:∀(x:A20) (h:Hp)(o:Out),(alt20 x h).out=some o→∃r,(rt20 x.a0 x.a1 x.a2).val=some r∧o=.ret (en20 r) h:=by
  intro x h o e
  unfold alt20 at e
  simp only [AT.out]at e
  obtain ⟨g,e⟩:=cond_some e
  unfold F20_ok at g
  obtain ⟨r,hF⟩:=Option.isSome_iff_exists.1 g
  have hv:F20 x.a0 x.a1 x.a2=(rt20 x.a0 x.a1 x.a2).val:=by delta F20;exact rfl
  refine ⟨r,hv.symm.trans hF,?_⟩
  simp only [Option.some.injEq]at e
  rw [← e]
  have k0:F20_0 x.a0 x.a1 x.a2=r.r0:=by
    show (match F20 x.a0 x.a1 x.a2 with | some r=>r.r0 | none=>0)=r.r0
    rw [hF]
  rw [k0]<;>rfl
theorem hd20:∀(t:Task) (x:A20)(h:Hp),dec20 t=some (x,h)→t=.call 20 ⟨[(lstV x.a0 x.a1 x.a2 1)]⟩ h:=by
  intro t x h e
  unfold dec20 at e
  split at e
  case h_2=>cases e
  split at e
  case h_2=>cases e
  rename_i hg
  simp only [Option.some.injEq,Prod.mk.injEq]at e
  obtain ⟨rfl,rfl⟩:=e
  rw [Nat.eq_of_beq_eq_true hg]
theorem known20:Known Try.prog p20:=by
  obtain ⟨J0,hJ0⟩:=kl20_0
  exact Known.fn noNG mixed (Known.or known58 hJ0) (n:=60) (zs:=[0]) 20 (fun x:A20=>[(lstV x.a0 x.a1 x.a2 1)]) (fun x=>rt20 x.a0 x.a1 x.a2) en20 (fun x=>T20 J0 x.a0 x.a1 x.a2) (fun x=>rfl) dec20 alt20 hd20 ha20
structure X21_1 where
  v0:Array Value
  v1:Nat
  v2:Nat
  v3:Int
  v4:Int
  v5:Int
inductive D21_1 where
  | k0 (d0:Array Value) (d1:Nat) (d2:Nat) (d3:Int) (d4:Int)
def Lp21_1:LoopOf X21_1 D21_1 where
  c:=(theLoop Try.prog 21 1)
  N:=34
  M:=0
  S:=[0,3,4,5]
  sl:=fun x=>[(lstV x.v0 x.v1 x.v2 1),(.int .i64 x.v3),(.int .i64 x.v4),(.int .i64 x.v5)]
  hp:=fun x=>[]
  ex:=fun d=>match d with | .k0 ..=>.exit 2
  pick:=fun e=>match e with | .exit 2=>[0,3,4] | _=>[]
  dv:=fun d=>match d with | .k0 d0 d1 d2 d3 d4=>[(lstV d0 d1 d2 1),(.int .i64 d3),(.int .i64 d4)]
  dh:=fun d=>match d with | .k0 d0 d1 d2 d3 d4=>[]
theorem ok21_1:Lp21_1.Ok:=⟨fun x=>rfl,fun x=>rfl,fun x=>rfl,fun x=>rfl,fun d=>by cases d<;>rfl,fun d=>by cases d<;>rfl,fun d=>by cases d<;>rfl,fun d=>by cases d<;>(intro h;cases h),fun d=>by cases d<;>rfl,fun d=>by cases d<;>rfl⟩
def rd21_1 (x:X21_1):RT (Sum X21_1 D21_1):=match x with
  | ⟨v0,v1,v2,v3,v4,v5⟩ =>
     .br (decide (v5<(8:Int))) (.br (decide ((32768:Int)≤v3)) (.leaf (.inl ⟨v0,v1,v2,(xorI .i64 (Int.tmod (IntKind.wrap .i64 ((2:Int)*v3)) (65536:Int)) (4129:Int)),v4,(IntKind.wrap .i64 (v5+(1:Int)))⟩)) (.leaf (.inl ⟨v0,v1,v2,(Int.tmod (IntKind.wrap .i64 ((2:Int)*v3)) (65536:Int)),v4,(IntKind.wrap .i64 (v5+(1:Int)))⟩))) (.leaf (.inr (.k0 (v0) (v1) (v2) (v3) (v4))))
theorem T21_1  (y:List Value) (v0:Array Value) (v1:Nat) (v2:Nat) (v3:Int) (v4:Int) (v5:Int):evC Try.prog (Ans.c (fun _=>none:Ans)) 60 (.code none (theLoop Try.prog 21 1) ⟨sets (junkF 34 y) [(0,(lstV v0 v1 v2 1)),(3,(.int .i64 v3)),(4,(.int .i64 v4)),(5,(.int .i64 v5))],[],⟨[],0,[]⟩⟩) (sumK 0 34 Lp21_1.pk)=(rd21_1 ⟨v0,v1,v2,v3,v4,v5⟩).out Lp21_1.enc:=by kernel_rfl
def L21_1 (x:X21_1):Option D21_1:=loopR rd21_1 x
section
variable (x:X21_1)
def L21_1_k0:Bool:=match L21_1 x with | some (.k0 ..)=>true | _=>false
def Qc0:Array Value:=match L21_1 x with | some (.k0 d _ _ _ _)=>d | _=>#[]
def Qc1:Nat:=match L21_1 x with | some (.k0 _ d _ _ _)=>d | _=>0
def Qc2:Nat:=match L21_1 x with | some (.k0 _ _ d _ _)=>d | _=>0
def Qc3:Int:=match L21_1 x with | some (.k0 _ _ _ d _)=>d | _=>0
def Qc4:Int:=match L21_1 x with | some (.k0 _ _ _ _ d)=>d | _=>0
end
def dec21_1:Task→Option (Code×X21_1)
  | .code none (.loop code) ⟨t,[],⟨[],0,[]⟩⟩ =>
    (match Nat.beq (firstReg code) 7,lenIs t 34,lget t 0,lget t 3,lget t 4,lget t 5 with
    | true,true,(.func (.via 0 ⟨[]⟩ 0 true) v0 ⟨[.slice (some ⟨0,v1,none⟩) v2 1]⟩),(.int .i64 v3),(.int .i64 v4),(.int .i64 v5)=>some (code,⟨v0,v1,v2,v3,v4,v5⟩)
    | _,_,_,_,_,_=>none)
  | _=>none
def alt21_1 (x:X21_1)(j:List Value):AT:=.br (L21_1_k0 x) (loopEnd 34 (.exit 2) [(0,(lstV (Qc0 x) (Qc1 x) (Qc2 x) 1)),(3,(.int .i64 (Qc3 x))),(4,(.int .i64 (Qc4 x)))] ⟨[],0,[]⟩ j) (.no)
def la21_1 (J:Task→List Value):Ans:=loopAns Lp21_1.c dec21_1 alt21_1 J
theorem ha21_1:∀(x:X21_1) (j:List Value)(o:Out),(alt21_1 x j).out=some o→∃d,loopR rd21_1 x=some d∧o=Lp21_1.tail d j:=by
  intro x j o h
  unfold alt21_1 at h
  cases hL:L21_1 x with
  | none=>simp [L21_1_k0,Qc0,Qc1,Qc2,Qc3,Qc4,hL,AT.out]at h
  | some d =>
    refine ⟨d,hL,?_⟩
    cases d<;>(simp only [L21_1_k0,Qc0,Qc1,Qc2,Qc3,Qc4,hL,AT.out,loopEnd,cond_true,cond_false,Option.some.injEq]at h;rw [← h];rfl)
theorem hd21_1:∀(t:Task) (c:Code)(x:X21_1),dec21_1 t=some (c,x)→c=Lp21_1.c→∃T,t=.code none (.loop Lp21_1.c) ⟨T,[],⟨Lp21_1.hp x,0,[]⟩⟩∧T.length=Lp21_1.N∧∀kv∈Lp21_1.S.zip (Lp21_1.sl x),lget T kv.1=kv.2:=by
  intro t c x h hc
  unfold dec21_1 at h
  split at h
  case h_2=>cases h
  split at h
  case h_2=>cases h
  simp only [Option.some.injEq,Prod.mk.injEq]at h
  obtain ⟨rfl,rfl⟩:=h
  subst hc
  refine ⟨_,rfl,lenIs_eq _ _ (by assumption),?_⟩
  intro kv hk
  simp only [Lp21_1,List.zip_cons_cons,List.zip_nil_right,List.mem_cons,List.not_mem_nil,or_false]at hk
  rcases hk with rfl | rfl | rfl | rfl<;>assumption
theorem kl21_1:∃J,Known Try.prog (la21_1 J):=by
  exact LoopOf.known noNG mixed ok21_1 (by decide) (by decide) (Known.nothing Try.prog) (n:=60) (rd:=rd21_1) (fun x j=>T21_1  j x.v0 x.v1 x.v2 x.v3 x.v4 x.v5) dec21_1 alt21_1 hd21_1 ha21_1
structure X21_0 where
  v0:Array Value
  v1:Nat
  v2:Nat
  v3:Int
  v4:Int
inductive D21_0 where
  | k0 (d0:Int)
def Lp21_0:LoopOf X21_0 D21_0 where
  c:=(theLoop Try.prog 21 0)
  N:=34
  M:=0
  S:=[0,3,4]
  sl:=fun x=>[(lstV x.v0 x.v1 x.v2 1),(.int .i64 x.v3),(.int .i64 x.v4)]
  hp:=fun x=>[]
  ex:=fun d=>match d with | .k0 ..=>.exit 0
  pick:=fun e=>match e with | .exit 0=>[3] | _=>[]
  dv:=fun d=>match d with | .k0 d0=>[(.int .i64 d0)]
  dh:=fun d=>match d with | .k0 d0=>[]
theorem ok21_0:Lp21_0.Ok:=⟨fun x=>rfl,fun x=>rfl,fun x=>rfl,fun x=>rfl,fun d=>by cases d<;>rfl,fun d=>by cases d<;>rfl,fun d=>by cases d<;>rfl,fun d=>by cases d<;>(intro h;cases h),fun d=>by cases d<;>rfl,fun d=>by cases d<;>rfl⟩
def rd21_0 (x:X21_0):RT (Sum X21_0 D21_0):=match x with
  | ⟨v0,v1,v2,v3,v4⟩ =>
     .br (decide (v4<(Int.ofNat v2))) (.br (and (decide ((0:Int)≤v4)) (decide (v4<(Int.ofNat v2)))) (.br (isInt .u8 v0 (v1+((Int.toNat v4)*1)))
       (.sw (eqCode (Lp21_1.c) (Lp21_1.c)) true (by simp only [eqCode_self,arrEq_self])
     (.br (L21_1_k0 (X21_1.mk v0 v1 v2 (xorI .i64 v3 (IntKind.wrap .i64 ((IntKind.wrap .i64 (getInt v0 (v1+((Int.toNat v4)*1))))*(256:Int)))) v4 (0:Int))) (.leaf (.inl ⟨(Qc0 (X21_1.mk v0 v1 v2 (xorI .i64 v3 (IntKind.wrap .i64 ((IntKind.wrap .i64 (getInt v0 (v1+((Int.toNat v4)*1))))*(256:Int)))) v4 (0:Int))),(Qc1 (X21_1.mk v0 v1 v2 (xorI .i64 v3 (IntKind.wrap .i64 ((IntKind.wrap .i64 (getInt v0 (v1+((Int.toNat v4)*1))))*(256:Int)))) v4 (0:Int))),(Qc2 (X21_1.mk v0 v1 v2 (xorI .i64 v3 (IntKind.wrap .i64 ((IntKind.wrap .i64 (getInt v0 (v1+((Int.toNat v4)*1))))*(256:Int)))) v4 (0:Int))),(Qc3 (X21_1.mk v0 v1 v2 (xorI .i64 v3 (IntKind.wrap .i64 ((IntKind.wrap .i64 (getInt v0 (v1+((Int.toNat v4)*1))))*(256:Int)))) v4 (0:Int))),(IntKind.wrap .i64 ((Qc4 (X21_1.mk v0 v1 v2 (xorI .i64 v3 (IntKind.wrap .i64 ((IntKind.wrap .i64 (getInt v0 (v1+((Int.toNat v4)*1))))*(256:Int)))) v4 (0:Int)))+(1:Int)))⟩)) (.no)) (.no)) (.no)) (.no)) (.leaf (.inr (.k0 (v3))))
theorem T21_0 (J1:Task→List Value)(y:List Value)(v0:Array Value)(v1:Nat)(v2:Nat)(v3:Int)(v4:Int):evC Try.prog (Ans.c (la21_1 J1)) 60 (.code none (theLoop Try.prog 21 0) ⟨sets (junkF 34 y) [(0,(lstV v0 v1 v2 1)),(3,(.int .i64 v3)),(4,(.int .i64 v4))],[],⟨[],0,[]⟩⟩) (sumK 0 34 Lp21_0.pk)=(rd21_0 ⟨v0,v1,v2,v3,v4⟩).out Lp21_0.enc:=by kernel_rfl
def L21_0 (x:X21_0):Option D21_0:=loopR rd21_0 x
section
variable (x:X21_0)
def L21_0_k0:Bool:=match L21_0 x with | some (.k0 ..)=>true | _=>false
def Qd0:Int:=match L21_0 x with | some (.k0 d)=>d | _=>0
end
def dec21_0:Task→Option (Code×X21_0)
  | .code none (.loop code) ⟨t,[],⟨[],0,[]⟩⟩ =>
    (match Nat.beq (firstReg code) 3,lenIs t 34,lget t 0,lget t 3,lget t 4 with
    | true,true,(.func (.via 0 ⟨[]⟩ 0 true) v0 ⟨[.slice (some ⟨0,v1,none⟩) v2 1]⟩),(.int .i64 v3),(.int .i64 v4)=>some (code,⟨v0,v1,v2,v3,v4⟩)
    | _,_,_,_,_=>none)
  | _=>none
def alt21_0 (x:X21_0)(j:List Value):AT:=.br (L21_0_k0 x) (loopEnd 34 (.exit 0) [(3,(.int .i64 (Qd0 x)))] ⟨[],0,[]⟩ j) (.no)
def la21_0 (J:Task→List Value):Ans:=loopAns Lp21_0.c dec21_0 alt21_0 J
theorem ha21_0:∀(x:X21_0) (j:List Value)(o:Out),(alt21_0 x j).out=some o→∃d,loopR rd21_0 x=some d∧o=Lp21_0.tail d j:=by
  intro x j o h
  unfold alt21_0 at h
  cases hL:L21_0 x with
  | none=>simp [L21_0_k0,Qd0,hL,AT.out]at h
  | some d =>
    refine ⟨d,hL,?_⟩
    cases d<;>(simp only [L21_0_k0,Qd0,hL,AT.out,loopEnd,cond_true,cond_false,Option.some.injEq]at h;rw [← h];rfl)
theorem hd21_0:∀(t:Task) (c:Code)(x:X21_0),dec21_0 t=some (c,x)→c=Lp21_0.c→∃T,t=.code none (.loop Lp21_0.c) ⟨T,[],⟨Lp21_0.hp x,0,[]⟩⟩∧T.length=Lp21_0.N∧∀kv∈Lp21_0.S.zip (Lp21_0.sl x),lget T kv.1=kv.2:=by
  intro t c x h hc
  unfold dec21_0 at h
  split at h
  case h_2=>cases h
  split at h
  case h_2=>cases h
  simp only [Option.some.injEq,Prod.mk.injEq]at h
  obtain ⟨rfl,rfl⟩:=h
  subst hc
  refine ⟨_,rfl,lenIs_eq _ _ (by assumption),?_⟩
  intro kv hk
  simp only [Lp21_0,List.zip_cons_cons,List.zip_nil_right,List.mem_cons,List.not_mem_nil,or_false]at hk
  rcases hk with rfl | rfl | rfl<;>assumption
theorem kl21_0:∃J,Known Try.prog (la21_0 J):=by
  obtain ⟨J1,hJ1⟩:=kl21_1
  exact LoopOf.known noNG mixed ok21_0 (by decide) (by decide) hJ1 (n:=60) (rd:=rd21_0) (fun x j=>T21_0 J1 j x.v0 x.v1 x.v2 x.v3 x.v4) dec21_0 alt21_0 hd21_0 ha21_0
structure R21 where
  r0:Int
structure A21 where
  a0:Array Value
  a1:Nat
  a2:Nat
def rt21 (a0:Array Value)(a1:Nat)(a2:Nat):RT R21 :=
  .sw (eqCode (Lp21_0.c) (Lp21_0.c)) true (by simp only [eqCode_self,arrEq_self]) (.br (L21_0_k0 (X21_0.mk a0 a1 a2 (65535:Int) (0:Int))) (.leaf ⟨(Qd0 (X21_0.mk a0 a1 a2 (65535:Int) (0:Int)))⟩) (.no)) (.no)
def en21 (r:R21):Value:=(.int .i64 r.r0)
theorem T21 (J0:Task→List Value)(a0:Array Value)(a1:Nat)(a2:Nat):evC Try.prog (Ans.c (la21_0 J0)) 60 (.call 21 ⟨[(lstV a0 a1 a2 1)]⟩ ⟨[],0,[]⟩) (frzK [0])=(rt21 a0 a1 a2).out (fun r=>.ret (en21 r) ⟨[],0,[]⟩):=by kernel_rfl
def F21 (a0:Array Value)(a1:Nat)(a2:Nat):Option R21:=(rt21 a0 a1 a2).val
section
variable (a0:Array Value) (a1:Nat) (a2:Nat)
def F21_ok:Bool:=(F21 a0 a1 a2).isSome
def F21_0:Int:=match F21 a0 a1 a2 with | some r=>r.r0 | none=>0
end
def dec21:Task→Option (A21×Hp)
  | .call g ⟨[(.func (.via 0 ⟨[]⟩ 0 true) a0 ⟨[.slice (some ⟨0,a1,none⟩) a2 1]⟩)]⟩ h=>(match Nat.beq g 21 with | true=>some (⟨a0,a1,a2⟩,h) | false=>none)
  | _=>none
def alt21 (x:A21)(h:Hp):AT:=.br (F21_ok x.a0 x.a1 x.a2) (.leaf (.ret (.int .i64 (F21_0 x.a0 x.a1 x.a2)) h)) .no
def p21:Ans:=fnAns dec21 alt21
theorem ha21:∀(x:A21) (h:Hp)(o:Out),(alt21 x h).out=some o→∃r,(rt21 x.a0 x.a1 x.a2).val=some r∧o=.ret (en21 r) h:=by
  intro x h o e
  unfold alt21 at e
  simp only [AT.out]at e
  obtain ⟨g,e⟩:=cond_some e
  unfold F21_ok at g
  obtain ⟨r,hF⟩:=Option.isSome_iff_exists.1 g
  have hv:F21 x.a0 x.a1 x.a2=(rt21 x.a0 x.a1 x.a2).val:=by delta F21;exact rfl
  refine ⟨r,hv.symm.trans hF,?_⟩
  simp only [Option.some.injEq]at e
  rw [← e]
  have k0:F21_0 x.a0 x.a1 x.a2=r.r0:=by
    show (match F21 x.a0 x.a1 x.a2 with | some r=>r.r0 | none=>0)=r.r0
    rw [hF]
  rw [k0]<;>rfl
theorem hd21:∀(t:Task) (x:A21)(h:Hp),dec21 t=some (x,h)→t=.call 21 ⟨[(lstV x.a0 x.a1 x.a2 1)]⟩ h:=by
  intro t x h e
  unfold dec21 at e
  split at e
  case h_2=>cases e
  split at e
  case h_2=>cases e
  rename_i hg
  simp only [Option.some.injEq,Prod.mk.injEq]at e
  obtain ⟨rfl,rfl⟩:=e
  rw [Nat.eq_of_beq_eq_true hg]
theorem known21:Known Try.prog p21:=by
  obtain ⟨J0,hJ0⟩:=kl21_0
  exact Known.fn noNG mixed hJ0 (n:=60) (zs:=[0]) 21 (fun x:A21=>[(lstV x.a0 x.a1 x.a2 1)]) (fun x=>rt21 x.a0 x.a1 x.a2) en21 (fun x=>T21 J0 x.a0 x.a1 x.a2) (fun x=>rfl) dec21 alt21 hd21 ha21
structure R4 where
  r0:Bool
structure A4 where
  a0:Array Value
  a1:Nat
  a2:Nat
def rt4 (a0:Array Value)(a1:Nat)(a2:Nat):RT R4 :=
  .br (decide ((4000:Int)<(Int.ofNat a2))) (.leaf ⟨true⟩) (.br (F20_ok (a0) a1 a2) (.br (F21_ok (a0) a1 a2) (.br (decide ((F20_0 (a0) a1 a2)=(F21_0 (a0) a1 a2))) (.leaf ⟨true⟩) (.leaf ⟨false⟩)) (.no)) (.no))
def en4 (r:R4):Value:=(.bool r.r0)
theorem T4  (a0:Array Value) (a1:Nat) (a2:Nat):evC Try.prog (Ans.c (p19.or (p20.or p21))) 60 (.call 4 ⟨[(lstV a0 a1 a2 1)]⟩ ⟨[],0,[]⟩) (frzK [0])=(rt4 a0 a1 a2).out (fun r=>.ret (en4 r) ⟨[],0,[]⟩):=by kernel_rfl
def F4 (a0:Array Value)(a1:Nat)(a2:Nat):Option R4:=(rt4 a0 a1 a2).val
section
variable (a0:Array Value) (a1:Nat) (a2:Nat)
def F4_ok:Bool:=(F4 a0 a1 a2).isSome
def F4_0:Bool:=match F4 a0 a1 a2 with | some r=>r.r0 | none=>false
end
def dec4:Task→Option (A4×Hp)
  | .call g ⟨[(.func (.via 0 ⟨[]⟩ 0 true) a0 ⟨[.slice (some ⟨0,a1,none⟩) a2 1]⟩)]⟩ h=>(match Nat.beq g 4 with | true=>some (⟨a0,a1,a2⟩,h) | false=>none)
  | _=>none
def alt4 (x:A4)(h:Hp):AT:=.br (F4_ok x.a0 x.a1 x.a2) (.leaf (.ret (.bool (F4_0 x.a0 x.a1 x.a2)) h)) .no
def p4:Ans:=fnAns dec4 alt4
theorem ha4:∀(x:A4) (h:Hp)(o:Out),(alt4 x h).out=some o→∃r,(rt4 x.a0 x.a1 x.a2).val=some r∧o=.ret (en4 r) h:=by
  intro x h o e
  unfold alt4 at e
  simp only [AT.out]at e
  obtain ⟨g,e⟩:=cond_some e
  unfold F4_ok at g
  obtain ⟨r,hF⟩:=Option.isSome_iff_exists.1 g
  have hv:F4 x.a0 x.a1 x.a2=(rt4 x.a0 x.a1 x.a2).val:=by delta F4;exact rfl
  refine ⟨r,hv.symm.trans hF,?_⟩
  simp only [Option.some.injEq]at e
  rw [← e]
  have k0:F4_0 x.a0 x.a1 x.a2=r.r0:=by
    show (match F4 x.a0 x.a1 x.a2 with | some r=>r.r0 | none=>false)=r.r0
    rw [hF]
  rw [k0]<;>rfl
theorem hd4:∀(t:Task) (x:A4)(h:Hp),dec4 t=some (x,h)→t=.call 4 ⟨[(lstV x.a0 x.a1 x.a2 1)]⟩ h:=by
  intro t x h e
  unfold dec4 at e
  split at e
  case h_2=>cases e
  split at e
  case h_2=>cases e
  rename_i hg
  simp only [Option.some.injEq,Prod.mk.injEq]at e
  obtain ⟨rfl,rfl⟩:=e
  rw [Nat.eq_of_beq_eq_true hg]
theorem known4:Known Try.prog p4:=by
  exact Known.fn noNG mixed (Known.or known19 (Known.or known20 known21)) (n:=60) (zs:=[0]) 4 (fun x:A4=>[(lstV x.a0 x.a1 x.a2 1)]) (fun x=>rt4 x.a0 x.a1 x.a2) en4 (fun x=>T4  x.a0 x.a1 x.a2) (fun x=>rfl) dec4 alt4 hd4 ha4
end
end Go.Proofs.Ytoojllndfjamgaa
namespace Go.Proofs.Ytoojllndfjamgaa
open Go.ChangeShapes Go.WideShapes Go.ChangeAt Go.RowKit Go.Gi
def True4:Prop:=∀(c:Array Value) (n:Nat),BL c n→(rt4 c 0 n).val=some ⟨true⟩
theorem law4 (hm:True4) {c:Array Value}{n:Nat}(hy0:BL c n) :
    Fact Try.prog (.call 4 ⟨[(lstV c 0 n 1)]⟩ ⟨[],0,[]⟩) (.ret (.bool true) ⟨[],0,[]⟩):=by
  have hv:=hm c n hy0
  refine known4 _ (alt4 ⟨c,0,n⟩ ⟨[],0,[]⟩) _ rfl ?_
  have e1:F4 c 0 n=some ⟨true⟩:=hv
  have k0:F4_ok c 0 n=true:=by unfold F4_ok;rw [e1];rfl
  have k1:F4_0 c 0 n=true:=by
    show (match F4 c 0 n with | some r=>r.r0 | none=>false)=true
    rw [e1]
  simp only [alt4,k0,k1,AT.out,cond_true]
set_option maxRecDepth 100000 in
theorem lifted4 (hm:True4)(os:Os)(started:os.Started)(H:Type)(enc:TypeId×Value→H) :
    ReturnsInHanded {} Try.checked os 4 .any (Rows.frameSumsSpec.pre6 enc Try.prog Try.f4 Rows.frameSumsRow.domain false) (Rows.frameSumsSpec.post enc Try.prog Try.f4 false true false false):=by
  refine returnsInHanded_of_change (C:=Try.checked) own started (by kernel_rfl) Try.func4
    (ChangeSpec.witness6 (enc:=enc) (C:=Try.checked) false ⟨#[],#[.slice none 0 0],[]⟩ 20 (by kernel_rfl) (by kernel_rfl) (by kernel_rfl) (by kernel_rfl)) ?_
  intro W base args ds gs before hval0 hW hcnd _
  have hval:∀(j:Nat) t v,Try.f4.params[j]?=some t→args[j]?=some v→Value.okWide Try.prog W .any base t v:=hval0
  have hW':=hW
  obtain ⟨p,q,hA0,hV,rfl,hfz,hnd⟩:=hW
  have hA:DataW.TrodAll enc Try.prog W 0 (fun _=>true) true Try.f4.params.toList args.toList ds p:=hA0
  rw [Try.params4]at hA hval
  obtain ⟨v0,vs0,d0,ds0,p0,q0,hargs,rfl,rfl,h0,r0⟩:=trodAll_cons hA
  obtain ⟨rfl,rfl,rfl⟩:=trodAll_nil r0
  obtain rfl:args=#[v0]:=by cases args;simp_all
  obtain ⟨rfl,rfl⟩:=trodVars_none hV
  have k0:=h0
  have lt0:∀x∈p0,x.block<W.heap.size:=by obtain ⟨m,hm⟩:=k0;exact DataW.trod_lt m _ _ _ hm
  obtain ⟨c,n,u0,hy0⟩:=bytesArg (hval 0 36 v0 rfl rfl) h0
  clear hA0 hval0
  refine (calls_frozen (law4 hm (c:=c) (n:=n) hy0) rfl ((VRs.nil _).push u0)).mono fun e W' ⟨he,bel⟩=>?_
  subst he
  exact ⟨_,rfl,_,_,_,[],_,[],hW',trodAll_mk1 (shut_bool Try.underlying4 _),(trodAll_cons_mk (Below.trod laidOut (by kernel_rfl) (of_decide_eq_true (by kernel_rfl)) k0 bel lt0) trodAll_mk0),rfl,bel.frame _,fun h=>by cases h⟩
theorem over4 (hm:True4):Rows.frameSumsRow.holds Try.pinned (OpenSpec.ofChange Rows.frameSumsSpec) :=
  OpenClaim.holds_of_wide 4 Try.f4 rfl rfl rfl rfl rfl rfl rfl ⟨rfl,rfl,rfl,rfl,rfl⟩ rfl rfl rfl rfl rfl (by kernel_rfl) Try.func4 (by kernel_rfl)
    (of_decide_eq_true (by kernel_rfl)) (by unfold Func.isWrapper;first | (rw [if_pos (by decide +kernel)];kernel_rfl) | (rw [if_neg (by decide +kernel)];exact ⟨rfl,rfl⟩))
    (fun os started H enc _=>lifted4 hm os started H enc)
theorem said4 (hm:True4):Rows.FrameSumsSaid:=over4 hm
end Go.Proofs.Ytoojllndfjamgaa
