/- WindKnown proved: the examples of the document hold. Conditions: none. -/
import Derived.Test.YtgchppegdeoflaaMg6
import Derived.Test.YtgchppegdeoflaaProg
import Derived.Deep.Slices
import Derived.WalkKit
import Derived.ProofKit
import Derived.OpenShut
import Derived.ChangeOld
import Derived.Below
import Derived.Deep.Strs
import Derived.ChangeMaps5
import Derived.Test.YtgchppegdeoflaaRows
import Derived.Test.YtgchppegdeoflaaMg4
set_option linter.unusedVariables false
set_option linter.unusedSimpArgs false
namespace Go.Gi
open Go.RowKit
noncomputable section
abbrev vT:Value:=.bool true
abbrev vF:Value:=.bool false
abbrev vI (n:Nat):Value:=.int .i64 (.ofNat n)
abbrev vJ (n:Nat):Value:=.int .i64 (.negSucc n)
structure CF where
  g:Nat
  args:List Value
  u:Value
def CF.Ok (P:Program)(c:CF):Prop:=∀h,Fact P (.call c.g ⟨c.args⟩ h) (.ret c.u h)
def lookCF (f:Nat)(vs:List Value)(h:Hp):List CF→Option AT
  | []=>none
  | c::r=>match Nat.beq f c.g with
    | true=>(match eqLs (eqVn 8) vs c.args with
      | true=>some (.leaf (.ret c.u h))
      | false=>lookCF f vs h r)
    | false=>lookCF f vs h r
def tabA (l:List CF):Ans:=fun t=>match t with
  | .call f vs h=>lookCF f vs.toList h l
  | _=>none
inductive CFs (P:Program):List CF→Prop
  | nil:CFs P []
  | cons {c:CF} {l:List CF} (h:c.Ok P) (r:CFs P l):CFs P (c::l)
theorem lookCF_ok {P:Program}{f:Nat}{vs:List Value}{h:Hp}:∀{l:List CF},CFs P l→∀{x:AT}{o:Out},lookCF f vs h l=some x→x.out=some o→Fact P (.call f ⟨vs⟩ h) o
  | [],_,x,o,hx,_=>by cases hx
  | c::r,hl,x,o,hx,ho=>by
    cases hl with
    | cons hc hr =>
      unfold lookCF at hx
      split at hx
      · rename_i hf
        split at hx
        · rename_i ha
          simp only [Option.some.injEq]at hx
          subst hx
          simp only [AT.out,Option.some.injEq]at ho
          subst ho
          rw [Nat.eq_of_beq_eq_true hf,eqLs_eq (fun _ _ h=>eqVn_eq h) ha]
          exact hc h
        · exact lookCF_ok hr hx ho
      · exact lookCF_ok hr hx ho
theorem tabA_ok {P:Program}{l:List CF}(hl:CFs P l):Known P (tabA l):=by
  intro t x o h ho
  unfold tabA at h
  split at h
  · rename_i f vs hh
    exact lookCF_ok hl h ho
  · cases h
def frDs (f:Value→Option Value):List Value→Option (List Value)
  | []=>some []
  | v::r=>match f v with
    | some u=>(match frDs f r with
      | some l=>some (u::l)
      | none=>none)
    | none=>none
def frC (f:Value→Option Value)(v:Value):Option Value:=match v with
  | .slice none 0 0=>some (lstV ⟨[]⟩ 0 0 1)
  | v=>f v
def frD (bl:List Ob):Nat→Value→Option Value
  | 0,_=>none
  | n+1,v=>match v with
    | .slice (some ⟨b,off,none⟩) len sz=>(match nthO bl b with
      | some (.cells c false)=>(match frDs (frC (frD bl n)) c.toList with
        | some l=>if off+len*sz≤c.size then some (lstV ⟨l⟩ off len sz) else none
        | none=>none)
      | _=>none)
    | .pointer (some ⟨b,off,none⟩)=>(match nthO bl b with
      | some (.cells c false)=>(match frDs (frC (frD bl n)) c.toList with
        | some l=>some (dptV ⟨l⟩ off)
        | none=>none)
      | _=>none)
    | .agg ⟨l⟩=>(match frDs (frD bl n) l with
      | some l=>some (.agg ⟨l⟩)
      | none=>none)
    | .iface t v=>(match frD bl n v with
      | some v=>some (.iface t v)
      | none=>none)
    | .func (.func g) ⟨l⟩ ⟨m⟩=>(match frDs (frD bl n) l,frDs (frD bl n) m with
      | some l,some m=>some (.func (.func g) ⟨l⟩ ⟨m⟩)
      | _,_=>none)
    | v=>if fz0 v then some v else none
def frDV (bl:List Ob)(v:Value):Option Value:=match v with
  | .tuple ⟨x::l⟩=>(match frDs (frD bl 8) (x::l) with
    | some l=>some (.tuple ⟨l⟩)
    | none=>none)
  | v=>frD bl 8 v
def frDK:Kn
  | .ret v h=>(match frDV h.bl v with
    | some v=>some (.ret v ⟨[],0,[]⟩)
    | none=>none)
  | _=>none
section
variable {K:Nat→Prop}{w0 w:World} {φ:Phi}{X:List Ob}{z:Nat→Option Obj}
theorem frDs_ok {f:Value→Option Value}(hf:∀v u v',f v=some u→VR φ v v'→FR z u v'):∀{l us l':List Value},frDs f l=some us→VRl φ l l'→FRl z us l'
  | [],us,_,h,hv=>by
    cases hv
    simp only [frDs,Option.some.injEq]at h
    subst h;exact .nil
  | v::r,us,_,h,hv=>by
    cases hv with
    | cons h1 h2 =>
      simp only [frDs]at h
      split at h
      · rename_i u hu
        split at h
        · rename_i l hl
          simp only [Option.some.injEq]at h
          subst h
          exact .cons (hf _ _ _ hu h1) (frDs_ok hf hl h2)
        · cases h
      · cases h
theorem FRl.fn {z:Nat→Option Obj} {l l' m m':List Value}(g:FuncId) (h:FRl z l l') (h2:FRl z m m'):FR z (.func (.func g) ⟨l⟩ ⟨m⟩) (.func (.func g) ⟨l'⟩ ⟨m'⟩):=by
  have hh:∀{us ys:List Value},FRl z us ys→(⟨us⟩:Array Value).size=(⟨ys⟩:Array Value).size∧∀i,i<(⟨us⟩:Array Value).size→FR z ((⟨us⟩:Array Value).getD i undef) ((⟨ys⟩:Array Value).getD i undef):=by
    intro us ys hf
    refine ⟨by simpa using hf.agg.1,fun i hi=>?_⟩
    rcases hf.agg.2 i with h5 | h5
    · exact h5
    · simp at hi;omega
  exact .fn (hh h).1 (hh h).2 (hh h2).1 (hh h2).2
theorem cells_frl {c C:Array Value}{base:Nat}(hC:base+c.size≤C.size) (h2:∀(i:Nat) (v:Value),c[i]?=some v→∃v',C[base+i]?=some v'∧VR φ v v'):VRl φ c.toList ((C.toList.drop base).take c.size):=by
  have key:∀(l:List Value) (m:List Value),l.length=m.length→(∀(i:Nat) (v:Value),l[i]?=some v→∃v',m[i]?=some v'∧VR φ v v')→VRl φ l m:=by
    intro l
    induction l with
    | nil=>intro m hl _;cases m with
      | nil=>exact .nil
      | cons _ _=>simp at hl
    | cons x r ih=>intro m hl hh;cases m with
      | nil=>simp at hl
      | cons y s =>
        refine .cons ?_ (ih s (by simpa using hl) fun i v hv=>by simpa using hh (i+1) v (by simpa using hv))
        obtain ⟨v',h3,h4⟩:=hh 0 x rfl
        simp only [List.getElem?_cons_zero,Option.some.injEq]at h3
        rw [h3];exact h4
  refine key _ _ (by simp;omega) fun i v hv=>?_
  have hv2:c[i]?=some v:=by rw [← Array.getElem?_toList];exact hv
  obtain ⟨v',h3,h4⟩:=h2 i v hv2
  refine ⟨v',?_,h4⟩
  have hi:i<c.size:=by rw [Array.getElem?_eq_some_iff]at hv2;exact hv2.1
  rw [List.getElem?_take,if_pos hi,List.getElem?_drop,Array.getElem?_toList]
  exact h3
theorem FRl.cells {l:List Value}{C:Array Value}{base n:Nat}(h:FRl z l ((C.toList.drop base).take n)) (hC:base+n≤C.size):l.length=n∧∀i,i<(⟨l⟩:Array Value).size→FR z ((⟨l⟩:Array Value).getD i undef) (C.getD (base+i) undef):=by
  have hn:l.length=n:=by rw [h.agg.1];simp;omega
  refine ⟨hn,fun i hi=>?_⟩
  have hi':i<n:=by simpa [hn] using hi
  rcases h.agg.2 i with h1 | h1
  · have e:(⟨(C.toList.drop base).take n⟩:Array Value).getD i undef=C.getD (base+i) undef:=by
      rw [Array.getD_eq_getD_getElem?,Array.getD_eq_getD_getElem?]
      have:(⟨(C.toList.drop base).take n⟩:Array Value)[i]?=C[base+i]?:=by
        rw [← Array.getElem?_toList,List.getElem?_take,if_pos hi',List.getElem?_drop,Array.getElem?_toList]
      rw [this]
    rw [← e];exact h1
  · omega
theorem frC_ok {f:Value→Option Value}(hf:∀v u v',f v=some u→VR φ v v'→FR z u v'):∀v u v',frC f v=some u→VR φ v v'→FR z u v':=by
  intro v u v' h hv
  unfold frC at h
  split at h
  · cases h;cases hv;exact .lstZ _ _ _ _
  · exact hf _ _ _ h hv
theorem frD_ok (h:Made 0 z φ X w):∀{n:Nat} {v u v':Value},frD X n v=some u→VR φ v v'→FR z u v'
  | 0,_,_,_,hk,_=>by cases hk
  | n+1,v,u,v',hk,hv=>by
    have ih:∀v u v',frD X n v=some u→VR φ v v'→FR z u v':=fun v u v' h1 h2=>frD_ok h h1 h2
    unfold frD at hk
    split at hk
    · rename_i b off len sz
      rw [nthO_eq]at hk
      split at hk
      · rename_i c hb
        split at hk
        · rename_i l hl
          split at hk
          · rename_i hle
            simp only [Option.some.injEq]at hk
            subst hk
            obtain ⟨B,base,tot,C,el,fr,h3,hz,h8,h6⟩:=h.obs b _ hb (Nat.zero_le _)
            cases hv with
            | sliceZ _ a' k'=>exact .lstZ _ _ _ _
            | slice hφ hl1 hc =>
              rw [h3]at hφ;cases hφ
              obtain ⟨k1,k2⟩:=(frDs_ok (frC_ok ih) hl (cells_frl h8 h6)).cells h8
              exact .lst hz (by simpa [k1] using h8) k2 hl1 (by simpa [k1] using hle)
          · cases hk
        · cases hk
      · cases hk
    · rename_i b off
      rw [nthO_eq]at hk
      split at hk
      · rename_i c hb
        split at hk
        · rename_i l hl
          simp only [Option.some.injEq]at hk
          subst hk
          obtain ⟨B,base,tot,C,el,fr,h3,hz,h8,h6⟩:=h.obs b _ hb (Nat.zero_le _)
          cases hv with
          | ptr hφ =>
            rw [h3]at hφ;cases hφ
            obtain ⟨k1,k2⟩:=(frDs_ok (frC_ok ih) hl (cells_frl h8 h6)).cells h8
            exact .dpt hz (by simpa [k1] using h8) k2
        · cases hk
      · cases hk
    · rename_i l
      split at hk
      · rename_i us hl
        simp only [Option.some.injEq]at hk
        subst hk
        obtain ⟨⟨ys⟩,rfl,hs⟩:=hv.agg_inv
        exact (frDs_ok ih hl hs.toList).fr
      · cases hk
    · rename_i t x
      split at hk
      · rename_i y hy
        simp only [Option.some.injEq]at hk
        subst hk
        cases hv with
        | iface _ hv=>exact .iface _ (ih _ _ _ hy hv)
      · cases hk
    · rename_i g l m
      split at hk
      · rename_i us ws hl hm
        simp only [Option.some.injEq]at hk
        subst hk
        cases hv with
        | @fn _ _ first' _ cap' hg h1 h2 h3 h4 =>
          obtain ⟨first'⟩:=first'
          obtain ⟨cap'⟩:=cap'
          exact FRl.fn g (frDs_ok ih hl (VRs.toList (VRs.of h1 h2))) (frDs_ok ih hm (VRs.toList (VRs.of h3 h4)))
      · cases hk
    · split at hk
      · rename_i hf
        simp only [Option.some.injEq]at hk
        subst hk
        exact fz0_fr h hf hv
      · cases hk
theorem FRl.vrl {ψ:Phi} {l l':List Value}(h:FRl ψ.z l l'):VRl ψ l l':=by
  induction h with
  | nil=>exact .nil
  | cons h _ ih=>exact .cons h.vr ih
theorem frDV_ok {ψ:Phi}(h:Made 0 ψ.z φ X w) {v u v':Value}(hk:frDV X v=some u) (hv:VR φ v v'):VR ψ u v':=by
  unfold frDV at hk
  split at hk
  · rename_i x l
    split at hk
    · rename_i us hl
      simp only [Option.some.injEq]at hk
      subst hk
      obtain ⟨⟨ys⟩,rfl,hs⟩:=hv.tuple_inv rfl
      exact (frDs_ok (fun _ _ _ h1 h2=>frD_ok h h1 h2) hl hs.toList).vrl.vrs.tuple
    · cases hk
  · exact (frD_ok h hk hv).vr
end
section
variable {P:Program}
theorem Fact.liftD {f:FuncId}{args:Array Value}{v u:Value}{h1:Hp}(hf:Fact P (.call f args ⟨[],0,[]⟩) (.ret v h1)) (hfz:frDV h1.bl v=some u)
    (ha:args.toList.all pureA=true) (h:Hp):Fact P (.call f args h) (.ret u h):=by
  obtain ⟨_,hh⟩:=hf.1 (Nat.le_refl _)
  refine ⟨fun hb=>⟨Pres.refl _,?_⟩,trivial⟩
  intro K w0 φ w args' n hI hA
  have hI':Inv K w0 φ ([]++h.bl) w:=hI
  have hN:=hI'.narrow (H0:=[]) (fun b ob h=>by simp at h)
  have hA1:VRs (cut φ ([]:List Ob).length) args args':=VRs.of hA.size fun i hi=>scT_cut (all_getD (p:=pureA) ha hi) (hA.getD i)
  refine (hh _ w _ w args' n hN hA1).mono ?_
  intro e w' he
  cases e with
  | returned v' =>
    obtain ⟨φ',hle,hv',hF⟩:=he
    have hZ:=hF.freeze (H1:=[]) (k:=0) (fun b ob h=>by simp at h)
    have k1:=frDV_ok (ψ:=⟨fun b=>if b<([]:List Ob).length+0 then φ' b else none,zF φ' h1.bl 0 w'⟩) (zF_made hF 0) hfz hv'
    have hle2:le (cut φ ([]:List Ob).length) ⟨fun b=>if b<([]:List Ob).length+0 then φ' b else none,zF φ' h1.bl 0 w'⟩:=by
      refine ⟨fun b x hx=>?_,fun B o hB=>(zF_made hF 0).le B o (hle.zz B o hB)⟩
      rw [cut_ge (show ([]:List Ob).length≤b from Nat.zero_le b)]at hx;cases hx
    obtain ⟨φ'',q1,q2,q3⟩:=hI'.widen (H1:=[]) (X:=[]) hZ hle2 .nil
    refine ⟨φ'',q1,?_,q3⟩
    have hc:cut ⟨fun b=>if b<([]:List Ob).length+0 then φ' b else none,zF φ' h1.bl ([]:List Ob).length w'⟩ ([]:List Ob).length=⟨fun b=>if b<([]:List Ob).length+0 then φ' b else none,zF φ' h1.bl 0 w'⟩:=by
      unfold cut
      simp
    rw [hc]at q2
    exact k1.mono q2
  | panicked ch=>exact he.elim
  | outgrown=>exact he.elim
end
def hasApp (os:Array Oper):Bool:=os.toList.any fun o=>match o.op with
  | .call { callee:=.builtin b,.. }=>(match b with | .append | .copy=>true | _=>false)
  | _=>false
def forceK (k:Kn):Kn:=fun o=>match o with
  | .ex e s=>forceE s.h.bl fun bl=>k (.ex e ⟨s.t,s.d,⟨bl,s.h.base,s.h.wr⟩⟩)
  | o=>k o
theorem forceK_eq (k:Kn):forceK k=k:=by
  funext o
  cases o with
  | ex e s=>simp only [forceK,forceE_eq]
  | _=>rfl
def catL:List Value→Nat→Nat→List Value→List Value
  | [],_,_,m=>m
  | x::r,off,n,m=>match off with
    | o+1=>catL r o n m
    | 0=>(match n with
      | k+1=>x::catL r 0 k m
      | 0=>m)
theorem catL_eq:∀(l:List Value) (off n:Nat) (m:List Value),catL l off n m=(l.drop off).take n++m
  | [],off,n,m=>by simp [catL]
  | x::r,0,0,m=>by simp [catL]
  | x::r,0,k+1,m=>by simp [catL,catL_eq r 0 k m]
  | x::r,o+1,n,m=>by simp [catL,catL_eq r o n m]
theorem catA_eq (c:Array Value)(off n:Nat)(m:Array Value):(⟨catL c.toList off n m.toList⟩:Array Value)=c.extract off (off+n)++m:=by
  apply Array.ext'
  rw [catL_eq,Array.toList_append,Array.toList_extract,List.extract]
  simp
def appendZ (P:Program)(h:Hp)(ts tx:TypeId)(s x:Value)(k:Value→Hp→Option Out):Option Out :=
  match P.underlying ts,P.underlying tx with
  | some (.slice e),some d =>
    if intB d=true then none else
    match P.info? e,zeroB P e with
    | some inf,some z =>
      natF inf.size fun isz=>natF inf.bytes fun iby =>
      match s,lenB x with
      | .slice base sl sz,some n =>
        natF n fun n =>
        cond (decide (n=0)) (k (.slice base sl sz) h)
        (newC h.bl isz n x fun news =>
          cond (decide (news.size=n*isz)&&(oneAll news&&decide (z.cells.size=isz))) (cond (decide ((sl+n)*iby≤140737488355328)&&decide (sl+n≤4611686018427387904))
            (match base with
            | none=>cond (decide (sl=0)) (k (.slice (some ⟨h.bl.length,0,none⟩) n isz) (h.push (.cells news false))) none
            | some ⟨b,off,none⟩ =>
              match nthO h.bl b with
              | some (.cells c false) =>
                cond (decide (sz=isz)) (cond (decide (off+sl*isz≤c.size))
                  (k (.slice (some ⟨h.bl.length,0,none⟩) (sl+n) isz) ((h.put b .dead).push (.cells ⟨catL c.toList off (sl*isz) news.toList⟩ false))) none) none
              | _=>none
            | _=>none) none) none)
      | _,_=>none
    | _,_=>none
  | _,_=>none
theorem appendZ_eq:appendZ=appendC:=by
  funext P h ts tx s x k
  simp only [appendZ,appendC,catA_eq]
  rfl
def loudZ (P:Program) (ρ:Operand→Value)(h:Hp)(o:Oper)(k:Ends):Option Out :=
  match o.op with
  | .call { callee:=.builtin .append,args,argTypes } =>
    match args.toList,argTypes.toList with
    | [s,x],[ts,tx]=>if okO s&&okO x then appendZ P h ts tx (ρ s) (ρ x) k.val else none
    | _,_=>none
  | _=>loudC P ρ h o k
theorem loudZ_eq:loudZ=loudC:=by
  funext P ρ h o k
  unfold loudZ
  split
  · rename_i args ts ho
    unfold loudC
    simp only [ho,appendZ_eq]
    rfl
  · rfl
def opDZ (P:Program)(self:SelfC)(T:List Value)(h:Hp)(o:Oper)(k:Value→Hp→Bool→Option Out):Option Out :=
  match o.op with
  | .pick c a b=>if okO c&&okO a&&okO b then (match evalT T c with | .bool t=>cond t (k (evalT T a) h false) (k (evalT T b) h false) | _=>none) else none
  | _ =>
    match symR P (evalT T) h.bl o with
    | some (b,v)=>cond b (k v h false) none
    | none=>match aread P (evalT T) h.bl o with
      | some v=>k v h false
      | none=>loudZ P (evalT T) h o {
        val:=fun v h'=>heapK h' fun h'=>k v h' true
        enter:=fun f args=>headsK args fun args=>self (.call f ⟨args⟩ h) fun | .ret v h'=>k v h' true | _=>none
        yield:=fun l args=>headsK args fun args=>self (.round l ⟨args⟩ h) fun | .ret v h'=>k v h' true | _=>none
        defer:=fun _=>none
        panic:=fun _=>none }
theorem opDZ_eq:opDZ=opD:=by
  funext P self T h o k
  simp only [opDZ,loudZ_eq]
  rfl
def drunZ (P:Program)(self:SelfC)(os:Array Oper):List Nat→List Value→Hp→(List Rec→List Value→Hp→Option Out)→Option Out
  | [],T,h,k=>k [] T h
  | i::r,T,h,k =>
    match os[i]? with
    | none=>none
    | some o =>
      guardC os o T
        (fun T=>opDZ P self T h o fun v h' loud=>headK v fun v=>setK' T o.dst v fun T'=>drunZ P self os r T' h' fun l T2 h2=>k (⟨i,o,T,v,h,h',loud⟩::l) T2 h2)
        (fun T=>setK' T o.dst undef fun T'=>drunZ P self os r T' h fun l T2 h2=>k (⟨i,o,T,undef,h,h,false⟩::l) T2 h2)
theorem drunZ_eq (P:Program)(self:SelfC)(os:Array Oper):∀l,drunZ P self os l=drunC P self os l
  | []=>rfl
  | i::r=>by
    funext T h k
    simp only [drunZ,drunC,drunZ_eq P self os r,opDZ_eq]
    rfl
def drawnFZ (P:Program)(self:SelfC)(os:Array Oper)(s:St)(k:Ex→St→Option Out):Option Out :=
  if planOk os (late os) (mkClo os (late os) (List.replicate os.size 0)) then
    drunZ P self os (late os) s.t s.h fun recs T h =>
      if floatOk (mkClo os (late os) (List.replicate os.size 0)) [] recs&&recs.all fun r=>!(r.loud&&isAl r.o)||r.o.dst.all fun t=>decide (t<s.t.length) then
        fchkC P os (mkClo os (late os) (List.replicate os.size 0)) recs (k .normal { t:=T,d:=s.d,h:=h })
      else none
  else none
def drawnNZ (P:Program)(self:SelfC)(os:Array Oper)(s:St)(k:Ex→St→Option Out):Option Out :=
  if planOk os (Region.linearise .any os 0) (mkClo os (Region.linearise .any os 0) (List.replicate os.size 0)) then
    drunZ P self os (Region.linearise .any os 0) s.t s.h fun recs T h =>
      chkC P os (mkClo os (Region.linearise .any os 0) (List.replicate os.size 0)) recs (k .normal { t:=T,d:=s.d,h:=h })
  else none
def drawnXZ (P:Program)(self:SelfC)(os:Array Oper)(s:St)(k:Ex→St→Option Out):Option Out :=
  match floaty os (mkClo os (Region.linearise .any os 0) (List.replicate os.size 0)) with
  | true=>drawnFZ P self os s k
  | false=>drawnNZ P self os s k
theorem drawnXZ_eq:drawnXZ=drawnXC:=by
  funext P self os s k
  simp only [drawnXZ,drawnXC,drawnFZ,drawnFC,drawnNZ,drawnC,drunZ_eq]
  rfl
def opZ (P:Program) (ρ:Operand→Value)(h:Hp)(o:Oper)(k:Ends):Option Out :=
  match o.op with
  | .pick c a b=>if okO c&&okO a&&okO b then (match ρ c with | .bool t=>cond t (k.val (ρ a) h) (k.val (ρ b) h) | _=>none) else none
  | _ =>
    match symR P ρ h.bl o with
    | some (b,v)=>cond b (k.val v h) none
    | none=>match aread P ρ h.bl o with
      | some v=>k.val v h
      | none=>loudZ P ρ h o k.heap
theorem opZ_eq:opZ=opC:=by
  funext P ρ h o k
  simp only [opZ,loudZ_eq]
  rfl
def runOpsZ (P:Program)(self:SelfC)(rd:Option Nat)(os:Array Oper):List Nat→St→(Ex→St→Option Out)→Option Out
  | [],s,k=>k .normal s
  | i::r,s,k =>
    match os[i]? with
    | none=>runOpsZ P self rd os r s k
    | some o =>
      guardC os o s.t
        (fun t=>opZ P (evalT t) s.h o {
          val:=fun v h=>setK' t o.dst v fun t=>runOpsZ P self rd os r { t:=t,d:=s.d,h:=h } k
          enter:=fun f args=>headsK args fun args=>self (.call f ⟨args⟩ s.h) fun
            | .ret v h=>setK' t o.dst v fun t=>runOpsZ P self rd os r { t:=t,d:=s.d,h:=h } k
            | .pan v h=>k (.panic v) { t:=t,d:=s.d,h:=h }
            | _=>none
          yield:=fun l args=>headsK args fun args=>self (.round l ⟨args⟩ s.h) fun
            | .ret v h=>setK' t o.dst v fun t=>runOpsZ P self rd os r { t:=t,d:=s.d,h:=h } k
            | _=>none
          defer:=fun d=>if rd.isNone then setK' t o.dst undef fun t=>runOpsZ P self rd os r { t:=t,d:=d::s.d,h:=s.h } k else none
          panic:=fun v=>k (.panic v) { t:=t,d:=s.d,h:=s.h } })
        (fun t=>setK' t o.dst undef fun t=>runOpsZ P self rd os r { t:=t,d:=s.d,h:=s.h } k)
theorem runOpsZ_eq (P:Program)(self:SelfC)(rd:Option Nat)(os:Array Oper):∀l,runOpsZ P self rd os l=runOpsC P self rd os l
  | []=>rfl
  | i::r=>by
    funext s k
    simp only [runOpsZ,runOpsC,runOpsZ_eq P self rd os r,opZ_eq]
    rfl
def drawnWZ (P:Program)(self:SelfC)(rd:Option Nat)(os:Array Oper)(s:St)(k:Ex→St→Option Out):Option Out :=
  match waits os (os.size-1)&&Nat.blt 0 os.size with
  | true=>drawnXZ P self os.pop s fun e s'=>(match e with
    | .normal=>runOpsZ P self rd os [os.size-1] s' k
    | _=>none)
  | false=>drawnXZ P self os s k
theorem drawnWZ_ok {P:Program}{self:SelfC}{sd:Self}(hs:CpsOk self sd) {rd:Option Nat}{id:Nat}{os:Array Oper}{s:St}{k:Ex→St→Option Out}{r:Out}(hc:drawnWZ P self rd os s k=some r) :
    ∃e s',drawnW P sd rd id os s=some (.ex e s')∧k e s'=some r:=by
  unfold drawnWZ at hc
  unfold drawnW
  by_cases hw:(waits os (os.size-1)&&Nat.blt 0 os.size)=true
  · rw [hw]at hc ⊢
    simp only [drawnXZ_eq]at hc
    obtain ⟨e,s',h1,h2⟩:=drawnXC_ok (rd:=rd) (id:=id) hs hc
    simp only [h1]
    cases e with
    | normal =>
      simp only at h2 ⊢
      rw [runOpsZ_eq]at h2
      exact runOpsC_ok hs h2
    | _=>cases h2
  · rw [Bool.eq_false_iff.2 hw]at hc ⊢
    simp only [drawnXZ_eq]at hc
    exact drawnXC_ok hs hc
def stepZ (P:Program)(self:SelfC):SelfC:=fun t k=>match t with
  | .code rd (.region id os dr) s=>(match dr with
    | true=>drawnWZ P self rd os s fun e s'=>(match hasApp os with
      | true=>forceK k (.ex e s')
      | false=>k (.ex e s'))
    | false=>(match hasApp os with
      | true=>runOpsZ P self rd os (List.range os.size) s fun e s'=>forceK k (.ex e s')
      | false=>stepC P self (.code rd (.region id os false) s) k))
  | t=>stepC P self t k
theorem stepF_drawn {P:Program}{sd:Self}{t:Task}{d1 d2:Program→Self→Option Nat→Nat→Array Oper→St→Option Out}(h:∀rd id os s,t≠.code rd (.region id os true) s):stepF d1 P sd t=stepF d2 P sd t:=by
  cases t with
  | code rd c s =>
    cases c with
    | region id os dr =>
      cases dr with
      | true=>exact (h rd id os s rfl).elim
      | false=>rfl
    | _=>rfl
  | _=>rfl
theorem stepZ_ok {P:Program}{self:SelfC}{sd:Self}(hs:CpsOk self sd):CpsOk (stepZ P self) (stepF drawnW P sd):=by
  intro t k r hc
  unfold stepZ at hc
  split at hc
  · rename_i rd id os dr s
    cases dr with
    | true =>
      simp only at hc
      obtain ⟨e,s',h1,h2⟩:=drawnWZ_ok (id:=id) hs hc
      refine ⟨.ex e s',by simpa only [stepF,if_true] using h1,?_⟩
      split at h2
      · rw [forceK_eq]at h2;exact h2
      · exact h2
    | false =>
      simp only at hc
      split at hc
      · rw [runOpsZ_eq,forceK_eq]at hc
        obtain ⟨o,h1,h2⟩:=stepC_ok hs (.code rd (.region id os false) s) k r hc
        exact ⟨o,(stepF_drawn (fun _ _ _ _ h=>by cases h)).trans h1,h2⟩
      · obtain ⟨o,h1,h2⟩:=stepC_ok hs (.code rd (.region id os false) s) k r hc
        exact ⟨o,(stepF_drawn (fun _ _ _ _ h=>by cases h)).trans h1,h2⟩
  · rename_i hn
    obtain ⟨o,h1,h2⟩:=stepC_ok hs _ k r hc
    exact ⟨o,(stepF_drawn (fun rd id os s h=>hn rd id os true s h)).trans h1,h2⟩
def evZ (P:Program)(oc:Task→Kn→Option (Option Out)):Nat→SelfC
  | 0,_,_=>none
  | n+1,t,k=>match oc t k with
    | some r=>r
    | none=>stepZ P (evZ P oc n) t k
theorem evZ_ok {P:Program}{oc:Task→Kn→Option (Option Out)}{orc:Self}(ho:OcOk oc orc):∀n,CpsOk (evZ P oc n) (iterO orc drawnW P n)
  | 0=>fun _ _ _ h=>by cases h
  | n+1=>by
    intro t k r h
    simp only [evZ]at h
    simp only [iterO]
    split at h
    · rename_i r' hr
      subst h
      obtain ⟨o,h1,h2⟩:=ho.1 _ _ _ hr
      rw [h1];exact ⟨_,rfl,h2⟩
    · rename_i hr
      rw [ho.2 _ _ hr]
      exact stepZ_ok (evZ_ok ho n) t k r h
theorem Known.factZ {P:Program}(hN:NoNG P) (hm:P.follows .mixedOrders=true) {a:Ans}(hk:Known P a) {n:Nat}{t:Task}{k:Kn}{r:Out}(h:evZ P a.c n t k=some r):∃o,k o=some r∧Fact P t o:=by
  obtain ⟨o',h1,h2⟩:=evZ_ok (P:=P) a.oc n t k r h
  have hh:=iterO_ok (drawn:=drawnW) hN (drawnW_ok hN hm) hk.selfOk hk.loopOk n
  refine ⟨o',h2,hh.1 _ _ h1,?_⟩
  unfold LoopFact
  split
  · exact fun hb=>hh.2 _ _ _ _ _ h1 hb
  · trivial
def CF.chk (P:Program)(l:List CF)(n:Nat)(c:CF):Bool:=match evZ P (tabA l).c n (.call c.g ⟨c.args⟩ ⟨[],0,[]⟩) frDK with
  | some (.ret u ⟨[],0,[]⟩)=>(match eqVn 12 u c.u with
    | true=>c.args.all pureA
    | false=>false)
  | _=>false
section
variable {P:Program}(hN:NoNG P) (hm:P.follows .mixedOrders=true)
include hN hm
theorem CF.of2 {l:List CF}(hl:CFs P l) (n:Nat) {c:CF}(h:c.chk P l n=true):c.Ok P:=by
  unfold CF.chk at h
  split at h
  · rename_i u he
    split at h
    · rename_i hu
      have e:=eqVn_eq hu
      subst e
      intro hp
      obtain ⟨o,h3,hf⟩:=(tabA_ok hl).factZ hN hm he
      cases o with
      | ret v h' =>
        simp only [frDK]at h3
        split at h3
        · rename_i u hu
          simp only [Option.some.injEq,Out.ret.injEq,and_true]at h3
          subst h3
          exact hf.liftD hu h hp
        · cases h3
      | _=>cases h3
    · cases h
  · cases h
end
end
end Go.Gi
namespace Go.Proofs.Ytgchppegdeoflaa
open Go.Gi Go.RowKit
theorem noNG_of {P : Program} (h : (P.funcs.toList.all fun fn=>!(fn.name == "runtime.NumGoroutine")) = true) : NoNG P:=by
  intro f fn hf _
  rw [List.all_eq_true]at h
  have:=h fn (by rw [Array.mem_toList_iff];exact Array.mem_of_getElem? hf)
  simpa using this
theorem noNG:NoNG Try.prog:=noNG_of (by decide +kernel)
theorem mixed:Try.prog.follows .mixedOrders=true:=by decide +kernel
end Go.Proofs.Ytgchppegdeoflaa
namespace Go.Proofs.Ytgchppegdeoflaa.Old
end Go.Proofs.Ytgchppegdeoflaa.Old
namespace Go.Proofs.Ytgchppegdeoflaa
open Go.Gi Go.RowKit
noncomputable section
set_option maxRecDepth 100000
set_option maxHeartbeats 4000000
def wKnown0:Array Value:=⟨[.string ⟨⟨[109,97,115,116]⟩⟩,vI 1,vI 50,vI 0,vI 6000,vI 0,vI 300000,.string ⟨⟨[98,108,117,101]⟩⟩,vI 2,vI 100,vI 600,vI 12000,vI 0,vI 30000000,.string ⟨⟨[98,101,97,109]⟩⟩,vI 3,vI 80,vI 100,vI 3000,vI 50000,vI 2000000]⟩
def wKnown1:Array Value:=⟨[vI 0,vI 1000,vI 100000,vI 450,vI 0,vI 1,vI 1000,vI 100000,vI 600,vJ 99,vI 1,vI 1600,vI 600000,vI 850,vI 100,vI 2,vI 2000,vI 300000,vI 760,vI 0]⟩
def wKnown2:Array Value:=⟨[lstV wKnown0 0 3 7,lstV wKnown1 0 4 5,lstV ⟨[vI 200000,vI 1000000]⟩ 0 2 1,vI 30,vI 20]⟩
def wKnown3:Array Value:=⟨[vI 0,vI 200000,vI 420,vI 580,vJ 129,vI 80,vI 200000,vI 1000000,vI 260,vI 740,vJ 289,vI 240]⟩
def wKnown4:Array Value:=⟨[vI 0,vI 200000,vI 600,vI 780,vJ 149,vI 80,vI 200000,vI 1000000,vI 640,vI 740,vJ 109,vI 240]⟩
def wKnown5:Array Value:=⟨[.int .u8 (.ofNat 87),.int .u8 (.ofNat 73),.int .u8 (.ofNat 78),.int .u8 (.ofNat 68),.int .u8 (.ofNat 1),.int .u8 (.ofNat 0),.int .u8 (.ofNat 30),.int .u8 (.ofNat 0),.int .u8 (.ofNat 20),.int .u8 (.ofNat 2),.int .u8 (.ofNat 0),.int .u8 (.ofNat 3),.int .u8 (.ofNat 13),.int .u8 (.ofNat 64),.int .u8 (.ofNat 0),.int .u8 (.ofNat 15),.int .u8 (.ofNat 66),.int .u8 (.ofNat 64),.int .u8 (.ofNat 3),.int .u8 (.ofNat 1),.int .u8 (.ofNat 0),.int .u8 (.ofNat 50),.int .u8 (.ofNat 0),.int .u8 (.ofNat 0),.int .u8 (.ofNat 23),.int .u8 (.ofNat 112),.int .u8 (.ofNat 0),.int .u8 (.ofNat 0),.int .u8 (.ofNat 0),.int .u8 (.ofNat 0),.int .u8 (.ofNat 0),.int .u8 (.ofNat 4),.int .u8 (.ofNat 147),.int .u8 (.ofNat 224),.int .u8 (.ofNat 4),.int .u8 (.ofNat 109),.int .u8 (.ofNat 97),.int .u8 (.ofNat 115),.int .u8 (.ofNat 116),.int .u8 (.ofNat 2),.int .u8 (.ofNat 0),.int .u8 (.ofNat 100),.int .u8 (.ofNat 2),.int .u8 (.ofNat 88),.int .u8 (.ofNat 46),.int .u8 (.ofNat 224),.int .u8 (.ofNat 0),.int .u8 (.ofNat 0),.int .u8 (.ofNat 0),.int .u8 (.ofNat 0),.int .u8 (.ofNat 1),.int .u8 (.ofNat 201),.int .u8 (.ofNat 195),.int .u8 (.ofNat 128),.int .u8 (.ofNat 4),.int .u8 (.ofNat 98),.int .u8 (.ofNat 108),.int .u8 (.ofNat 117),.int .u8 (.ofNat 101),.int .u8 (.ofNat 3),.int .u8 (.ofNat 0),.int .u8 (.ofNat 80),.int .u8 (.ofNat 0),.int .u8 (.ofNat 100),.int .u8 (.ofNat 11),.int .u8 (.ofNat 184),.int .u8 (.ofNat 0),.int .u8 (.ofNat 0),.int .u8 (.ofNat 195),.int .u8 (.ofNat 80),.int .u8 (.ofNat 0),.int .u8 (.ofNat 30),.int .u8 (.ofNat 132),.int .u8 (.ofNat 128),.int .u8 (.ofNat 4),.int .u8 (.ofNat 98),.int .u8 (.ofNat 101),.int .u8 (.ofNat 97),.int .u8 (.ofNat 109),.int .u8 (.ofNat 4),.int .u8 (.ofNat 0),.int .u8 (.ofNat 0),.int .u8 (.ofNat 0),.int .u8 (.ofNat 3),.int .u8 (.ofNat 232),.int .u8 (.ofNat 0),.int .u8 (.ofNat 1),.int .u8 (.ofNat 134),.int .u8 (.ofNat 160),.int .u8 (.ofNat 129),.int .u8 (.ofNat 194),.int .u8 (.ofNat 128),.int .u8 (.ofNat 0),.int .u8 (.ofNat 1),.int .u8 (.ofNat 0),.int .u8 (.ofNat 0),.int .u8 (.ofNat 3),.int .u8 (.ofNat 232),.int .u8 (.ofNat 0),.int .u8 (.ofNat 1),.int .u8 (.ofNat 134),.int .u8 (.ofNat 160),.int .u8 (.ofNat 130),.int .u8 (.ofNat 88),.int .u8 (.ofNat 127),.int .u8 (.ofNat 156),.int .u8 (.ofNat 1),.int .u8 (.ofNat 0),.int .u8 (.ofNat 0),.int .u8 (.ofNat 6),.int .u8 (.ofNat 64),.int .u8 (.ofNat 0),.int .u8 (.ofNat 9),.int .u8 (.ofNat 39),.int .u8 (.ofNat 192),.int .u8 (.ofNat 131),.int .u8 (.ofNat 82),.int .u8 (.ofNat 128),.int .u8 (.ofNat 100),.int .u8 (.ofNat 2),.int .u8 (.ofNat 0),.int .u8 (.ofNat 0),.int .u8 (.ofNat 7),.int .u8 (.ofNat 208),.int .u8 (.ofNat 0),.int .u8 (.ofNat 4),.int .u8 (.ofNat 147),.int .u8 (.ofNat 224),.int .u8 (.ofNat 130),.int .u8 (.ofNat 248),.int .u8 (.ofNat 128),.int .u8 (.ofNat 0),.int .u8 (.ofNat 32),.int .u8 (.ofNat 31)]⟩
def wKnown6:Array Value:=⟨[.agg ⟨[.slice none 0 0,.slice none 0 0,.slice none 0 0,vI 0,vI 0]⟩,vF]⟩
def wKnown7:Array Value:=⟨[.agg ⟨[.slice none 0 0,.slice none 0 0,.slice none 0 0,vI 0,vI 0]⟩,vI 6]⟩
def KKnown0:CF:=⟨51,[],.agg wKnown2⟩
theorem kKnown0:KKnown0.Ok Try.prog:=CF.of2 noNG mixed (l:=[]) .nil 3000 (by kernel_rfl)
def KKnown1:CF:=⟨66,[.int .u8 (.ofNat 109)],vT⟩
theorem kKnown1:KKnown1.Ok Try.prog:=CF.of2 noNG mixed (l:=[]) .nil 3000 (by kernel_rfl)
def KKnown2:CF:=⟨66,[.int .u8 (.ofNat 97)],vT⟩
theorem kKnown2:KKnown2.Ok Try.prog:=CF.of2 noNG mixed (l:=[]) .nil 3000 (by kernel_rfl)
def KKnown3:CF:=⟨66,[.int .u8 (.ofNat 115)],vT⟩
theorem kKnown3:KKnown3.Ok Try.prog:=CF.of2 noNG mixed (l:=[]) .nil 3000 (by kernel_rfl)
def KKnown4:CF:=⟨66,[.int .u8 (.ofNat 116)],vT⟩
theorem kKnown4:KKnown4.Ok Try.prog:=CF.of2 noNG mixed (l:=[]) .nil 3000 (by kernel_rfl)
def KKnown5:CF:=⟨22,[.string ⟨⟨[109,97,115,116]⟩⟩],vT⟩
theorem kKnown5:KKnown5.Ok Try.prog:=CF.of2 noNG mixed (l:=[KKnown1,KKnown2,KKnown3,KKnown4]) (.cons kKnown1 (.cons kKnown2 (.cons kKnown3 (.cons kKnown4 .nil)))) 3000 (by kernel_rfl)
def KKnown6:CF:=⟨70,[vI 0],vT⟩
theorem kKnown6:KKnown6.Ok Try.prog:=CF.of2 noNG mixed (l:=[]) .nil 3000 (by kernel_rfl)
def KKnown7:CF:=⟨70,[vI 300000],vT⟩
theorem kKnown7:KKnown7.Ok Try.prog:=CF.of2 noNG mixed (l:=[]) .nil 3000 (by kernel_rfl)
def KKnown8:CF:=⟨66,[.int .u8 (.ofNat 98)],vT⟩
theorem kKnown8:KKnown8.Ok Try.prog:=CF.of2 noNG mixed (l:=[]) .nil 3000 (by kernel_rfl)
def KKnown9:CF:=⟨66,[.int .u8 (.ofNat 108)],vT⟩
theorem kKnown9:KKnown9.Ok Try.prog:=CF.of2 noNG mixed (l:=[]) .nil 3000 (by kernel_rfl)
def KKnown10:CF:=⟨66,[.int .u8 (.ofNat 117)],vT⟩
theorem kKnown10:KKnown10.Ok Try.prog:=CF.of2 noNG mixed (l:=[]) .nil 3000 (by kernel_rfl)
def KKnown11:CF:=⟨66,[.int .u8 (.ofNat 101)],vT⟩
theorem kKnown11:KKnown11.Ok Try.prog:=CF.of2 noNG mixed (l:=[]) .nil 3000 (by kernel_rfl)
def KKnown12:CF:=⟨22,[.string ⟨⟨[98,108,117,101]⟩⟩],vT⟩
theorem kKnown12:KKnown12.Ok Try.prog:=CF.of2 noNG mixed (l:=[KKnown8,KKnown9,KKnown10,KKnown11]) (.cons kKnown8 (.cons kKnown9 (.cons kKnown10 (.cons kKnown11 .nil)))) 3000 (by kernel_rfl)
def KKnown13:CF:=⟨70,[vI 30000000],vT⟩
theorem kKnown13:KKnown13.Ok Try.prog:=CF.of2 noNG mixed (l:=[]) .nil 3000 (by kernel_rfl)
def KKnown14:CF:=⟨22,[.string ⟨⟨[98,101,97,109]⟩⟩],vT⟩
theorem kKnown14:KKnown14.Ok Try.prog:=CF.of2 noNG mixed (l:=[KKnown8,KKnown1,KKnown2,KKnown11]) (.cons kKnown8 (.cons kKnown1 (.cons kKnown2 (.cons kKnown11 .nil)))) 3000 (by kernel_rfl)
def KKnown15:CF:=⟨70,[vI 50000],vT⟩
theorem kKnown15:KKnown15.Ok Try.prog:=CF.of2 noNG mixed (l:=[]) .nil 3000 (by kernel_rfl)
def KKnown16:CF:=⟨70,[vI 2000000],vT⟩
theorem kKnown16:KKnown16.Ok Try.prog:=CF.of2 noNG mixed (l:=[]) .nil 3000 (by kernel_rfl)
def KKnown17:CF:=⟨74,[vI 1000],vT⟩
theorem kKnown17:KKnown17.Ok Try.prog:=CF.of2 noNG mixed (l:=[]) .nil 3000 (by kernel_rfl)
def KKnown18:CF:=⟨105,[vI 450],vT⟩
theorem kKnown18:KKnown18.Ok Try.prog:=CF.of2 noNG mixed (l:=[]) .nil 3000 (by kernel_rfl)
def KKnown19:CF:=⟨105,[vI 0],vT⟩
theorem kKnown19:KKnown19.Ok Try.prog:=CF.of2 noNG mixed (l:=[]) .nil 3000 (by kernel_rfl)
def KKnown20:CF:=⟨105,[vI 600],vT⟩
theorem kKnown20:KKnown20.Ok Try.prog:=CF.of2 noNG mixed (l:=[]) .nil 3000 (by kernel_rfl)
def KKnown21:CF:=⟨105,[vJ 99],vT⟩
theorem kKnown21:KKnown21.Ok Try.prog:=CF.of2 noNG mixed (l:=[]) .nil 3000 (by kernel_rfl)
def KKnown22:CF:=⟨106,[lstV wKnown1 0 1 5,.agg ⟨[vI 1,vI 1000,vI 100000,vI 600,vJ 99]⟩],vF⟩
theorem kKnown22:KKnown22.Ok Try.prog:=CF.of2 noNG mixed (l:=[]) .nil 3000 (by kernel_rfl)
def KKnown23:CF:=⟨74,[vI 1600],vT⟩
theorem kKnown23:KKnown23.Ok Try.prog:=CF.of2 noNG mixed (l:=[]) .nil 3000 (by kernel_rfl)
def KKnown24:CF:=⟨105,[vI 850],vT⟩
theorem kKnown24:KKnown24.Ok Try.prog:=CF.of2 noNG mixed (l:=[]) .nil 3000 (by kernel_rfl)
def KKnown25:CF:=⟨105,[vI 100],vT⟩
theorem kKnown25:KKnown25.Ok Try.prog:=CF.of2 noNG mixed (l:=[]) .nil 3000 (by kernel_rfl)
def KKnown26:CF:=⟨106,[lstV wKnown1 0 2 5,.agg ⟨[vI 1,vI 1600,vI 600000,vI 850,vI 100]⟩],vF⟩
theorem kKnown26:KKnown26.Ok Try.prog:=CF.of2 noNG mixed (l:=[]) .nil 3000 (by kernel_rfl)
def KKnown27:CF:=⟨74,[vI 2000],vT⟩
theorem kKnown27:KKnown27.Ok Try.prog:=CF.of2 noNG mixed (l:=[]) .nil 3000 (by kernel_rfl)
def KKnown28:CF:=⟨105,[vI 760],vT⟩
theorem kKnown28:KKnown28.Ok Try.prog:=CF.of2 noNG mixed (l:=[]) .nil 3000 (by kernel_rfl)
def KKnown29:CF:=⟨61,[vI 200000,vI 0],vI 0⟩
theorem kKnown29:KKnown29.Ok Try.prog:=CF.of2 noNG mixed (l:=[]) .nil 3000 (by kernel_rfl)
def KKnown30:CF:=⟨61,[vI 1000000,vI 200000],vI 0⟩
theorem kKnown30:KKnown30.Ok Try.prog:=CF.of2 noNG mixed (l:=[]) .nil 3000 (by kernel_rfl)
def KKnown31:CF:=⟨62,[vI 30],vT⟩
theorem kKnown31:KKnown31.Ok Try.prog:=CF.of2 noNG mixed (l:=[]) .nil 3000 (by kernel_rfl)
def KKnown32:CF:=⟨62,[vI 20],vT⟩
theorem kKnown32:KKnown32.Ok Try.prog:=CF.of2 noNG mixed (l:=[]) .nil 3000 (by kernel_rfl)
def KKnown33:CF:=⟨20,[.agg wKnown2],.tuple ⟨[vI 0,vI 0,vI 0]⟩⟩
theorem kKnown33:KKnown33.Ok Try.prog:=CF.of2 noNG mixed (l:=[KKnown6,KKnown17,KKnown19,KKnown5,KKnown7,KKnown12,KKnown13,KKnown14,KKnown15,KKnown16,KKnown18,KKnown20,KKnown21,KKnown22,KKnown23,KKnown24,KKnown25,KKnown26,KKnown27,KKnown28,KKnown29,KKnown30,KKnown31,KKnown32]) (.cons kKnown6 (.cons kKnown17 (.cons kKnown19 (.cons kKnown5 (.cons kKnown7 (.cons kKnown12 (.cons kKnown13 (.cons kKnown14 (.cons kKnown15 (.cons kKnown16 (.cons kKnown18 (.cons kKnown20 (.cons kKnown21 (.cons kKnown22 (.cons kKnown23 (.cons kKnown24 (.cons kKnown25 (.cons kKnown26 (.cons kKnown27 (.cons kKnown28 (.cons kKnown29 (.cons kKnown30 (.cons kKnown31 (.cons kKnown32 .nil)))))))))))))))))))))))) 3000 (by kernel_rfl)
def KKnown34:CF:=⟨75,[.agg wKnown2,vI 1000],.func (.func 110) ⟨[]⟩ ⟨[dptV wKnown2 0,dptV ⟨[vI 1000]⟩ 0]⟩⟩
theorem kKnown34:KKnown34.Ok Try.prog:=CF.of2 noNG mixed (l:=[]) .nil 3000 (by kernel_rfl)
def KKnown35:CF:=⟨31,[.agg wKnown2,vI 1000],.tuple ⟨[lstV ⟨[vI 0]⟩ 0 1 1,vI 0]⟩⟩
theorem kKnown35:KKnown35.Ok Try.prog:=CF.of2 noNG mixed (l:=[KKnown33,KKnown34,KKnown17]) (.cons kKnown33 (.cons kKnown34 (.cons kKnown17 .nil))) 3000 (by kernel_rfl)
def KKnown36:CF:=⟨75,[.agg wKnown2,vI 1600],.func (.func 110) ⟨[]⟩ ⟨[dptV wKnown2 0,dptV ⟨[vI 1600]⟩ 0]⟩⟩
theorem kKnown36:KKnown36.Ok Try.prog:=CF.of2 noNG mixed (l:=[]) .nil 3000 (by kernel_rfl)
def KKnown37:CF:=⟨31,[.agg wKnown2,vI 1600],.tuple ⟨[lstV ⟨[vI 0,vI 1]⟩ 0 2 1,vI 0]⟩⟩
theorem kKnown37:KKnown37.Ok Try.prog:=CF.of2 noNG mixed (l:=[KKnown33,KKnown36,KKnown23]) (.cons kKnown33 (.cons kKnown36 (.cons kKnown23 .nil))) 3000 (by kernel_rfl)
def KKnown38:CF:=⟨74,[vI 2200],vT⟩
theorem kKnown38:KKnown38.Ok Try.prog:=CF.of2 noNG mixed (l:=[]) .nil 3000 (by kernel_rfl)
def KKnown39:CF:=⟨75,[.agg wKnown2,vI 2200],.func (.func 110) ⟨[]⟩ ⟨[dptV wKnown2 0,dptV ⟨[vI 2200]⟩ 0]⟩⟩
theorem kKnown39:KKnown39.Ok Try.prog:=CF.of2 noNG mixed (l:=[]) .nil 3000 (by kernel_rfl)
def KKnown40:CF:=⟨31,[.agg wKnown2,vI 2200],.tuple ⟨[lstV ⟨[vI 0,vI 1,vI 2,vI 3]⟩ 0 4 1,vI 0]⟩⟩
theorem kKnown40:KKnown40.Ok Try.prog:=CF.of2 noNG mixed (l:=[KKnown33,KKnown38,KKnown39]) (.cons kKnown33 (.cons kKnown38 (.cons kKnown39 .nil))) 3000 (by kernel_rfl)
def KKnown41:CF:=⟨74,[vI 7001],vT⟩
theorem kKnown41:KKnown41.Ok Try.prog:=CF.of2 noNG mixed (l:=[]) .nil 3000 (by kernel_rfl)
def KKnown42:CF:=⟨75,[.agg wKnown2,vI 7001],.func (.func 110) ⟨[]⟩ ⟨[dptV wKnown2 0,dptV ⟨[vI 7001]⟩ 0]⟩⟩
theorem kKnown42:KKnown42.Ok Try.prog:=CF.of2 noNG mixed (l:=[]) .nil 3000 (by kernel_rfl)
def KKnown43:CF:=⟨31,[.agg wKnown2,vI 7001],.tuple ⟨[lstV ⟨[vI 1,vI 2]⟩ 0 2 1,vI 0]⟩⟩
theorem kKnown43:KKnown43.Ok Try.prog:=CF.of2 noNG mixed (l:=[KKnown33,KKnown42,KKnown41]) (.cons kKnown33 (.cons kKnown42 (.cons kKnown41 .nil))) 3000 (by kernel_rfl)
def KKnown44:CF:=⟨70,[vI 100000],vT⟩
theorem kKnown44:KKnown44.Ok Try.prog:=CF.of2 noNG mixed (l:=[]) .nil 3000 (by kernel_rfl)
def KKnown45:CF:=⟨112,[vI 1000,vI 1000],vI 0⟩
theorem kKnown45:KKnown45.Ok Try.prog:=CF.of2 noNG mixed (l:=[]) .nil 3000 (by kernel_rfl)
def KKnown46:CF:=⟨111,[vI 0,vI 600],vI 0⟩
theorem kKnown46:KKnown46.Ok Try.prog:=CF.of2 noNG mixed (l:=[]) .nil 3000 (by kernel_rfl)
def KKnown47:CF:=⟨112,[vI 100000,vI 100000],vI 0⟩
theorem kKnown47:KKnown47.Ok Try.prog:=CF.of2 noNG mixed (l:=[]) .nil 3000 (by kernel_rfl)
def KKnown48:CF:=⟨111,[vI 0,vI 100000],vI 0⟩
theorem kKnown48:KKnown48.Ok Try.prog:=CF.of2 noNG mixed (l:=[]) .nil 3000 (by kernel_rfl)
def KKnown49:CF:=⟨78,[.agg wKnown2,.agg ⟨[vI 0,vI 1000,vI 100000,vI 450,vI 0]⟩,.agg ⟨[vI 100000,vI 100000]⟩,vI 1000],vI 50⟩
theorem kKnown49:KKnown49.Ok Try.prog:=CF.of2 noNG mixed (l:=[KKnown47,KKnown48,KKnown45,KKnown46]) (.cons kKnown47 (.cons kKnown48 (.cons kKnown45 (.cons kKnown46 .nil)))) 3000 (by kernel_rfl)
def KKnown50:CF:=⟨34,[.agg wKnown2,vI 0,vI 100000,vI 1000],.tuple ⟨[vI 50,vI 0]⟩⟩
theorem kKnown50:KKnown50.Ok Try.prog:=CF.of2 noNG mixed (l:=[KKnown33,KKnown44,KKnown17,KKnown49]) (.cons kKnown33 (.cons kKnown44 (.cons kKnown17 (.cons kKnown49 .nil)))) 3000 (by kernel_rfl)
def KKnown51:CF:=⟨74,[vI 1001],vT⟩
theorem kKnown51:KKnown51.Ok Try.prog:=CF.of2 noNG mixed (l:=[]) .nil 3000 (by kernel_rfl)
def KKnown52:CF:=⟨112,[vI 1000,vI 1001],vI 1⟩
theorem kKnown52:KKnown52.Ok Try.prog:=CF.of2 noNG mixed (l:=[]) .nil 3000 (by kernel_rfl)
def KKnown53:CF:=⟨111,[vI 1,vI 600],vI 1⟩
theorem kKnown53:KKnown53.Ok Try.prog:=CF.of2 noNG mixed (l:=[]) .nil 3000 (by kernel_rfl)
def KKnown54:CF:=⟨78,[.agg wKnown2,.agg ⟨[vI 0,vI 1000,vI 100000,vI 450,vI 0]⟩,.agg ⟨[vI 100000,vI 100000]⟩,vI 1001],vI 80⟩
theorem kKnown54:KKnown54.Ok Try.prog:=CF.of2 noNG mixed (l:=[KKnown47,KKnown48,KKnown52,KKnown53]) (.cons kKnown47 (.cons kKnown48 (.cons kKnown52 (.cons kKnown53 .nil)))) 3000 (by kernel_rfl)
def KKnown55:CF:=⟨34,[.agg wKnown2,vI 0,vI 100000,vI 1001],.tuple ⟨[vI 80,vI 0]⟩⟩
theorem kKnown55:KKnown55.Ok Try.prog:=CF.of2 noNG mixed (l:=[KKnown33,KKnown51,KKnown44,KKnown54]) (.cons kKnown33 (.cons kKnown51 (.cons kKnown44 (.cons kKnown54 .nil)))) 3000 (by kernel_rfl)
def KKnown56:CF:=⟨70,[vI 250000],vT⟩
theorem kKnown56:KKnown56.Ok Try.prog:=CF.of2 noNG mixed (l:=[]) .nil 3000 (by kernel_rfl)
def KKnown57:CF:=⟨112,[vI 1000,vI 1600],vI 600⟩
theorem kKnown57:KKnown57.Ok Try.prog:=CF.of2 noNG mixed (l:=[]) .nil 3000 (by kernel_rfl)
def KKnown58:CF:=⟨111,[vI 600,vI 600],vI 1⟩
theorem kKnown58:KKnown58.Ok Try.prog:=CF.of2 noNG mixed (l:=[]) .nil 3000 (by kernel_rfl)
def KKnown59:CF:=⟨112,[vI 100000,vI 250000],vI 150000⟩
theorem kKnown59:KKnown59.Ok Try.prog:=CF.of2 noNG mixed (l:=[]) .nil 3000 (by kernel_rfl)
def KKnown60:CF:=⟨111,[vI 150000,vI 100000],vI 2⟩
theorem kKnown60:KKnown60.Ok Try.prog:=CF.of2 noNG mixed (l:=[]) .nil 3000 (by kernel_rfl)
def KKnown61:CF:=⟨78,[.agg wKnown2,.agg ⟨[vI 0,vI 1000,vI 100000,vI 450,vI 0]⟩,.agg ⟨[vI 250000,vI 250000]⟩,vI 1600],vI 120⟩
theorem kKnown61:KKnown61.Ok Try.prog:=CF.of2 noNG mixed (l:=[KKnown59,KKnown57,KKnown58,KKnown60]) (.cons kKnown59 (.cons kKnown57 (.cons kKnown58 (.cons kKnown60 .nil)))) 3000 (by kernel_rfl)
def KKnown62:CF:=⟨34,[.agg wKnown2,vI 0,vI 250000,vI 1600],.tuple ⟨[vI 120,vI 0]⟩⟩
theorem kKnown62:KKnown62.Ok Try.prog:=CF.of2 noNG mixed (l:=[KKnown56,KKnown33,KKnown61,KKnown23]) (.cons kKnown56 (.cons kKnown33 (.cons kKnown61 (.cons kKnown23 .nil)))) 3000 (by kernel_rfl)
def KKnown63:CF:=⟨112,[vI 1600,vI 1000],vI 600⟩
theorem kKnown63:KKnown63.Ok Try.prog:=CF.of2 noNG mixed (l:=[]) .nil 3000 (by kernel_rfl)
def KKnown64:CF:=⟨112,[vI 600000,vI 0],vI 600000⟩
theorem kKnown64:KKnown64.Ok Try.prog:=CF.of2 noNG mixed (l:=[]) .nil 3000 (by kernel_rfl)
def KKnown65:CF:=⟨111,[vI 600000,vI 100000],vI 6⟩
theorem kKnown65:KKnown65.Ok Try.prog:=CF.of2 noNG mixed (l:=[]) .nil 3000 (by kernel_rfl)
def KKnown66:CF:=⟨78,[.agg wKnown2,.agg ⟨[vI 1,vI 1600,vI 600000,vI 850,vI 100]⟩,.agg ⟨[vI 0,vI 0]⟩,vI 1000],vI 250⟩
theorem kKnown66:KKnown66.Ok Try.prog:=CF.of2 noNG mixed (l:=[KKnown64,KKnown65,KKnown58,KKnown63]) (.cons kKnown64 (.cons kKnown65 (.cons kKnown58 (.cons kKnown63 .nil)))) 3000 (by kernel_rfl)
def KKnown67:CF:=⟨34,[.agg wKnown2,vI 2,vI 0,vI 1000],.tuple ⟨[vI 250,vI 0]⟩⟩
theorem kKnown67:KKnown67.Ok Try.prog:=CF.of2 noNG mixed (l:=[KKnown33,KKnown66,KKnown6,KKnown17]) (.cons kKnown33 (.cons kKnown66 (.cons kKnown6 (.cons kKnown17 .nil)))) 3000 (by kernel_rfl)
def KKnown68:CF:=⟨52,[vI 320,vI 580],.agg ⟨[vI 320,vI 580]⟩⟩
theorem kKnown68:KKnown68.Ok Try.prog:=CF.of2 noNG mixed (l:=[]) .nil 3000 (by kernel_rfl)
def KKnown69:CF:=⟨52,[vJ 129,vI 130],.agg ⟨[vJ 129,vI 130]⟩⟩
theorem kKnown69:KKnown69.Ok Try.prog:=CF.of2 noNG mixed (l:=[]) .nil 3000 (by kernel_rfl)
def KKnown70:CF:=⟨52,[vI 600,vI 780],.agg ⟨[vI 600,vI 780]⟩⟩
theorem kKnown70:KKnown70.Ok Try.prog:=CF.of2 noNG mixed (l:=[]) .nil 3000 (by kernel_rfl)
def KKnown71:CF:=⟨52,[vJ 149,vI 80],.agg ⟨[vJ 149,vI 80]⟩⟩
theorem kKnown71:KKnown71.Ok Try.prog:=CF.of2 noNG mixed (l:=[]) .nil 3000 (by kernel_rfl)
def KKnown72:CF:=⟨52,[vI 640,vI 940],.agg ⟨[vI 640,vI 940]⟩⟩
theorem kKnown72:KKnown72.Ok Try.prog:=CF.of2 noNG mixed (l:=[]) .nil 3000 (by kernel_rfl)
def KKnown73:CF:=⟨52,[vJ 109,vI 240],.agg ⟨[vJ 109,vI 240]⟩⟩
theorem kKnown73:KKnown73.Ok Try.prog:=CF.of2 noNG mixed (l:=[]) .nil 3000 (by kernel_rfl)
def KKnown74:CF:=⟨94,[.agg wKnown2,vI 0],.agg ⟨[vI 0,vI 199999]⟩⟩
theorem kKnown74:KKnown74.Ok Try.prog:=CF.of2 noNG mixed (l:=[]) .nil 3000 (by kernel_rfl)
def KKnown75:CF:=⟨91,[.agg ⟨[vI 0,vI 199999,vI 2200,vI 2200]⟩],vT⟩
theorem kKnown75:KKnown75.Ok Try.prog:=CF.of2 noNG mixed (l:=[KKnown38]) (.cons kKnown38 .nil) 3000 (by kernel_rfl)
def KKnown76:CF:=⟨80,[.agg wKnown2,vI 0,vI 2200,vI 2200],.tuple ⟨[.agg ⟨[vI 0,vI 199999,vI 2200,vI 2200]⟩,vI 0]⟩⟩
theorem kKnown76:KKnown76.Ok Try.prog:=CF.of2 noNG mixed (l:=[KKnown74,KKnown75]) (.cons kKnown74 (.cons kKnown75 .nil)) 3000 (by kernel_rfl)
def KKnown77:CF:=⟨82,[vI 0],.func (.func 117) ⟨[]⟩ ⟨[dptV ⟨[vI 0]⟩ 0]⟩⟩
theorem kKnown77:KKnown77.Ok Try.prog:=CF.of2 noNG mixed (l:=[]) .nil 3000 (by kernel_rfl)
def KKnown78:CF:=⟨117,[vI 0,dptV ⟨[vI 0]⟩ 0],vT⟩
theorem kKnown78:KKnown78.Ok Try.prog:=CF.of2 noNG mixed (l:=[]) .nil 3000 (by kernel_rfl)
def KKnown79:CF:=⟨112,[vI 1000,vI 2200],vI 1200⟩
theorem kKnown79:KKnown79.Ok Try.prog:=CF.of2 noNG mixed (l:=[]) .nil 3000 (by kernel_rfl)
def KKnown80:CF:=⟨111,[vI 1200,vI 600],vI 2⟩
theorem kKnown80:KKnown80.Ok Try.prog:=CF.of2 noNG mixed (l:=[]) .nil 3000 (by kernel_rfl)
def KKnown81:CF:=⟨112,[vI 100000,vI 0],vI 100000⟩
theorem kKnown81:KKnown81.Ok Try.prog:=CF.of2 noNG mixed (l:=[]) .nil 3000 (by kernel_rfl)
def KKnown82:CF:=⟨112,[vI 100000,vI 199999],vI 99999⟩
theorem kKnown82:KKnown82.Ok Try.prog:=CF.of2 noNG mixed (l:=[]) .nil 3000 (by kernel_rfl)
def KKnown83:CF:=⟨111,[vI 100000,vI 100000],vI 1⟩
theorem kKnown83:KKnown83.Ok Try.prog:=CF.of2 noNG mixed (l:=[]) .nil 3000 (by kernel_rfl)
def KKnown84:CF:=⟨78,[.agg wKnown2,.agg ⟨[vI 0,vI 1000,vI 100000,vI 450,vI 0]⟩,.agg ⟨[vI 0,vI 199999]⟩,vI 2200],vI 130⟩
theorem kKnown84:KKnown84.Ok Try.prog:=CF.of2 noNG mixed (l:=[KKnown79,KKnown80,KKnown81,KKnown82,KKnown83]) (.cons kKnown79 (.cons kKnown80 (.cons kKnown81 (.cons kKnown82 (.cons kKnown83 .nil))))) 3000 (by kernel_rfl)
def KKnown85:CF:=⟨117,[vI 1,dptV ⟨[vI 0]⟩ 0],vF⟩
theorem kKnown85:KKnown85.Ok Try.prog:=CF.of2 noNG mixed (l:=[]) .nil 3000 (by kernel_rfl)
def KKnown86:CF:=⟨117,[vI 2,dptV ⟨[vI 0]⟩ 0],vF⟩
theorem kKnown86:KKnown86.Ok Try.prog:=CF.of2 noNG mixed (l:=[]) .nil 3000 (by kernel_rfl)
def KKnown87:CF:=⟨81,[.agg wKnown2,.agg ⟨[vI 0,vI 199999,vI 2200,vI 2200]⟩,.func (.func 117) ⟨[]⟩ ⟨[dptV ⟨[vI 0]⟩ 0]⟩],.tuple ⟨[lstV ⟨[vI 320,vI 580,vJ 129,vI 130]⟩ 0 2 2,vT]⟩⟩
theorem kKnown87:KKnown87.Ok Try.prog:=CF.of2 noNG mixed (l:=[KKnown85,KKnown39,KKnown78,KKnown84,KKnown86]) (.cons kKnown85 (.cons kKnown39 (.cons kKnown78 (.cons kKnown84 (.cons kKnown86 .nil))))) 3000 (by kernel_rfl)
def KKnown88:CF:=⟨83,[lstV ⟨[vI 320,vI 580,vJ 129,vI 130]⟩ 0 2 2],vF⟩
theorem kKnown88:KKnown88.Ok Try.prog:=CF.of2 noNG mixed (l:=[]) .nil 3000 (by kernel_rfl)
def KKnown89:CF:=⟨36,[.agg wKnown2,vI 0,vI 0,vI 2200,vI 2200],.tuple ⟨[.agg ⟨[vI 320,vI 580]⟩,.agg ⟨[vJ 129,vI 130]⟩,vI 0]⟩⟩
theorem kKnown89:KKnown89.Ok Try.prog:=CF.of2 noNG mixed (l:=[KKnown33,KKnown76,KKnown77,KKnown87,KKnown88]) (.cons kKnown33 (.cons kKnown76 (.cons kKnown77 (.cons kKnown87 (.cons kKnown88 .nil))))) 3000 (by kernel_rfl)
def KKnown90:CF:=⟨82,[vI 1],.func (.func 117) ⟨[]⟩ ⟨[dptV ⟨[vI 1]⟩ 0]⟩⟩
theorem kKnown90:KKnown90.Ok Try.prog:=CF.of2 noNG mixed (l:=[]) .nil 3000 (by kernel_rfl)
def KKnown91:CF:=⟨117,[vI 0,dptV ⟨[vI 1]⟩ 0],vF⟩
theorem kKnown91:KKnown91.Ok Try.prog:=CF.of2 noNG mixed (l:=[]) .nil 3000 (by kernel_rfl)
def KKnown92:CF:=⟨117,[vI 1,dptV ⟨[vI 1]⟩ 0],vT⟩
theorem kKnown92:KKnown92.Ok Try.prog:=CF.of2 noNG mixed (l:=[]) .nil 3000 (by kernel_rfl)
def KKnown93:CF:=⟨78,[.agg wKnown2,.agg ⟨[vI 1,vI 1000,vI 100000,vI 600,vJ 99]⟩,.agg ⟨[vI 0,vI 199999]⟩,vI 2200],vI 180⟩
theorem kKnown93:KKnown93.Ok Try.prog:=CF.of2 noNG mixed (l:=[KKnown79,KKnown80,KKnown81,KKnown82,KKnown83]) (.cons kKnown79 (.cons kKnown80 (.cons kKnown81 (.cons kKnown82 (.cons kKnown83 .nil))))) 3000 (by kernel_rfl)
def KKnown94:CF:=⟨112,[vI 1600,vI 2200],vI 600⟩
theorem kKnown94:KKnown94.Ok Try.prog:=CF.of2 noNG mixed (l:=[]) .nil 3000 (by kernel_rfl)
def KKnown95:CF:=⟨112,[vI 600000,vI 199999],vI 400001⟩
theorem kKnown95:KKnown95.Ok Try.prog:=CF.of2 noNG mixed (l:=[]) .nil 3000 (by kernel_rfl)
def KKnown96:CF:=⟨78,[.agg wKnown2,.agg ⟨[vI 1,vI 1600,vI 600000,vI 850,vI 100]⟩,.agg ⟨[vI 0,vI 199999]⟩,vI 2200],vI 250⟩
theorem kKnown96:KKnown96.Ok Try.prog:=CF.of2 noNG mixed (l:=[KKnown64,KKnown65,KKnown58,KKnown94,KKnown95]) (.cons kKnown64 (.cons kKnown65 (.cons kKnown58 (.cons kKnown94 (.cons kKnown95 .nil))))) 3000 (by kernel_rfl)
def KKnown97:CF:=⟨117,[vI 2,dptV ⟨[vI 1]⟩ 0],vF⟩
theorem kKnown97:KKnown97.Ok Try.prog:=CF.of2 noNG mixed (l:=[]) .nil 3000 (by kernel_rfl)
def KKnown98:CF:=⟨81,[.agg wKnown2,.agg ⟨[vI 0,vI 199999,vI 2200,vI 2200]⟩,.func (.func 117) ⟨[]⟩ ⟨[dptV ⟨[vI 1]⟩ 0]⟩],.tuple ⟨[lstV ⟨[vI 600,vI 780,vJ 149,vI 80]⟩ 0 2 2,vT]⟩⟩
theorem kKnown98:KKnown98.Ok Try.prog:=CF.of2 noNG mixed (l:=[KKnown92,KKnown96,KKnown97,KKnown39,KKnown91,KKnown93]) (.cons kKnown92 (.cons kKnown96 (.cons kKnown97 (.cons kKnown39 (.cons kKnown91 (.cons kKnown93 .nil)))))) 3000 (by kernel_rfl)
def KKnown99:CF:=⟨83,[lstV ⟨[vI 600,vI 780,vJ 149,vI 80]⟩ 0 2 2],vF⟩
theorem kKnown99:KKnown99.Ok Try.prog:=CF.of2 noNG mixed (l:=[]) .nil 3000 (by kernel_rfl)
def KKnown100:CF:=⟨36,[.agg wKnown2,vI 1,vI 0,vI 2200,vI 2200],.tuple ⟨[.agg ⟨[vI 600,vI 780]⟩,.agg ⟨[vJ 149,vI 80]⟩,vI 0]⟩⟩
theorem kKnown100:KKnown100.Ok Try.prog:=CF.of2 noNG mixed (l:=[KKnown33,KKnown98,KKnown99,KKnown76,KKnown90]) (.cons kKnown33 (.cons kKnown98 (.cons kKnown99 (.cons kKnown76 (.cons kKnown90 .nil))))) 3000 (by kernel_rfl)
def KKnown101:CF:=⟨94,[.agg wKnown2,vI 1],.agg ⟨[vI 200000,vI 999999]⟩⟩
theorem kKnown101:KKnown101.Ok Try.prog:=CF.of2 noNG mixed (l:=[]) .nil 3000 (by kernel_rfl)
def KKnown102:CF:=⟨91,[.agg ⟨[vI 200000,vI 999999,vI 2200,vI 2200]⟩],vT⟩
theorem kKnown102:KKnown102.Ok Try.prog:=CF.of2 noNG mixed (l:=[KKnown38]) (.cons kKnown38 .nil) 3000 (by kernel_rfl)
def KKnown103:CF:=⟨80,[.agg wKnown2,vI 1,vI 2200,vI 2200],.tuple ⟨[.agg ⟨[vI 200000,vI 999999,vI 2200,vI 2200]⟩,vI 0]⟩⟩
theorem kKnown103:KKnown103.Ok Try.prog:=CF.of2 noNG mixed (l:=[KKnown101,KKnown102]) (.cons kKnown101 (.cons kKnown102 .nil)) 3000 (by kernel_rfl)
def KKnown104:CF:=⟨112,[vI 100000,vI 200000],vI 100000⟩
theorem kKnown104:KKnown104.Ok Try.prog:=CF.of2 noNG mixed (l:=[]) .nil 3000 (by kernel_rfl)
def KKnown105:CF:=⟨112,[vI 100000,vI 999999],vI 899999⟩
theorem kKnown105:KKnown105.Ok Try.prog:=CF.of2 noNG mixed (l:=[]) .nil 3000 (by kernel_rfl)
def KKnown106:CF:=⟨111,[vI 899999,vI 100000],vI 9⟩
theorem kKnown106:KKnown106.Ok Try.prog:=CF.of2 noNG mixed (l:=[]) .nil 3000 (by kernel_rfl)
def KKnown107:CF:=⟨78,[.agg wKnown2,.agg ⟨[vI 1,vI 1000,vI 100000,vI 600,vJ 99]⟩,.agg ⟨[vI 200000,vI 999999]⟩,vI 2200],vI 340⟩
theorem kKnown107:KKnown107.Ok Try.prog:=CF.of2 noNG mixed (l:=[KKnown104,KKnown105,KKnown106,KKnown79,KKnown80]) (.cons kKnown104 (.cons kKnown105 (.cons kKnown106 (.cons kKnown79 (.cons kKnown80 .nil))))) 3000 (by kernel_rfl)
def KKnown108:CF:=⟨112,[vI 600000,vI 200000],vI 400000⟩
theorem kKnown108:KKnown108.Ok Try.prog:=CF.of2 noNG mixed (l:=[]) .nil 3000 (by kernel_rfl)
def KKnown109:CF:=⟨112,[vI 600000,vI 999999],vI 399999⟩
theorem kKnown109:KKnown109.Ok Try.prog:=CF.of2 noNG mixed (l:=[]) .nil 3000 (by kernel_rfl)
def KKnown110:CF:=⟨111,[vI 400000,vI 100000],vI 4⟩
theorem kKnown110:KKnown110.Ok Try.prog:=CF.of2 noNG mixed (l:=[]) .nil 3000 (by kernel_rfl)
def KKnown111:CF:=⟨78,[.agg wKnown2,.agg ⟨[vI 1,vI 1600,vI 600000,vI 850,vI 100]⟩,.agg ⟨[vI 200000,vI 999999]⟩,vI 2200],vI 210⟩
theorem kKnown111:KKnown111.Ok Try.prog:=CF.of2 noNG mixed (l:=[KKnown108,KKnown109,KKnown110,KKnown58,KKnown94]) (.cons kKnown108 (.cons kKnown109 (.cons kKnown110 (.cons kKnown58 (.cons kKnown94 .nil))))) 3000 (by kernel_rfl)
def KKnown112:CF:=⟨81,[.agg wKnown2,.agg ⟨[vI 200000,vI 999999,vI 2200,vI 2200]⟩,.func (.func 117) ⟨[]⟩ ⟨[dptV ⟨[vI 1]⟩ 0]⟩],.tuple ⟨[lstV ⟨[vI 640,vI 940,vJ 109,vI 240]⟩ 0 2 2,vT]⟩⟩
theorem kKnown112:KKnown112.Ok Try.prog:=CF.of2 noNG mixed (l:=[KKnown92,KKnown97,KKnown39,KKnown107,KKnown111,KKnown91]) (.cons kKnown92 (.cons kKnown97 (.cons kKnown39 (.cons kKnown107 (.cons kKnown111 (.cons kKnown91 .nil)))))) 3000 (by kernel_rfl)
def KKnown113:CF:=⟨83,[lstV ⟨[vI 640,vI 940,vJ 109,vI 240]⟩ 0 2 2],vF⟩
theorem kKnown113:KKnown113.Ok Try.prog:=CF.of2 noNG mixed (l:=[]) .nil 3000 (by kernel_rfl)
def KKnown114:CF:=⟨36,[.agg wKnown2,vI 1,vI 1,vI 2200,vI 2200],.tuple ⟨[.agg ⟨[vI 640,vI 940]⟩,.agg ⟨[vJ 109,vI 240]⟩,vI 0]⟩⟩
theorem kKnown114:KKnown114.Ok Try.prog:=CF.of2 noNG mixed (l:=[KKnown33,KKnown103,KKnown112,KKnown113,KKnown90]) (.cons kKnown33 (.cons kKnown103 (.cons kKnown112 (.cons kKnown113 (.cons kKnown90 .nil))))) 3000 (by kernel_rfl)
def KKnown115:CF:=⟨88,[vI 0],vT⟩
theorem kKnown115:KKnown115.Ok Try.prog:=CF.of2 noNG mixed (l:=[]) .nil 3000 (by kernel_rfl)
def KKnown116:CF:=⟨88,[vI 1],vT⟩
theorem kKnown116:KKnown116.Ok Try.prog:=CF.of2 noNG mixed (l:=[]) .nil 3000 (by kernel_rfl)
def KKnown117:CF:=⟨88,[vI 2],vT⟩
theorem kKnown117:KKnown117.Ok Try.prog:=CF.of2 noNG mixed (l:=[]) .nil 3000 (by kernel_rfl)
def KKnown118:CF:=⟨112,[vI 2000,vI 2200],vI 200⟩
theorem kKnown118:KKnown118.Ok Try.prog:=CF.of2 noNG mixed (l:=[]) .nil 3000 (by kernel_rfl)
def KKnown119:CF:=⟨111,[vI 200,vI 600],vI 1⟩
theorem kKnown119:KKnown119.Ok Try.prog:=CF.of2 noNG mixed (l:=[]) .nil 3000 (by kernel_rfl)
def KKnown120:CF:=⟨112,[vI 300000,vI 0],vI 300000⟩
theorem kKnown120:KKnown120.Ok Try.prog:=CF.of2 noNG mixed (l:=[]) .nil 3000 (by kernel_rfl)
def KKnown121:CF:=⟨112,[vI 300000,vI 199999],vI 100001⟩
theorem kKnown121:KKnown121.Ok Try.prog:=CF.of2 noNG mixed (l:=[]) .nil 3000 (by kernel_rfl)
def KKnown122:CF:=⟨111,[vI 300000,vI 100000],vI 3⟩
theorem kKnown122:KKnown122.Ok Try.prog:=CF.of2 noNG mixed (l:=[]) .nil 3000 (by kernel_rfl)
def KKnown123:CF:=⟨78,[.agg wKnown2,.agg ⟨[vI 2,vI 2000,vI 300000,vI 760,vI 0]⟩,.agg ⟨[vI 0,vI 199999]⟩,vI 2200],vI 170⟩
theorem kKnown123:KKnown123.Ok Try.prog:=CF.of2 noNG mixed (l:=[KKnown118,KKnown119,KKnown120,KKnown121,KKnown122]) (.cons kKnown118 (.cons kKnown119 (.cons kKnown120 (.cons kKnown121 (.cons kKnown122 .nil))))) 3000 (by kernel_rfl)
def KKnown124:CF:=⟨81,[.agg wKnown2,.agg ⟨[vI 0,vI 199999,vI 2200,vI 2200]⟩,.func (.func 88) ⟨[]⟩ ⟨[]⟩],.tuple ⟨[lstV ⟨[vI 600,vI 580,vJ 129,vI 80]⟩ 0 2 2,vT]⟩⟩
theorem kKnown124:KKnown124.Ok Try.prog:=CF.of2 noNG mixed (l:=[KKnown116,KKnown96,KKnown39,KKnown115,KKnown84,KKnown117,KKnown123,KKnown93]) (.cons kKnown116 (.cons kKnown96 (.cons kKnown39 (.cons kKnown115 (.cons kKnown84 (.cons kKnown117 (.cons kKnown123 (.cons kKnown93 .nil)))))))) 3000 (by kernel_rfl)
def KKnown125:CF:=⟨83,[lstV ⟨[vI 600,vI 580,vJ 129,vI 80]⟩ 0 2 2],vT⟩
theorem kKnown125:KKnown125.Ok Try.prog:=CF.of2 noNG mixed (l:=[]) .nil 3000 (by kernel_rfl)
def KKnown126:CF:=⟨87,[.agg wKnown2,.agg ⟨[vI 0,vI 199999,vI 2200,vI 2200]⟩,.func (.func 88) ⟨[]⟩ ⟨[]⟩],vF⟩
theorem kKnown126:KKnown126.Ok Try.prog:=CF.of2 noNG mixed (l:=[KKnown124,KKnown125]) (.cons kKnown124 (.cons kKnown125 .nil)) 3000 (by kernel_rfl)
def KKnown127:CF:=⟨121,[vI 0],.func (.func 128) ⟨[]⟩ ⟨[dptV ⟨[vI 0]⟩ 0]⟩⟩
theorem kKnown127:KKnown127.Ok Try.prog:=CF.of2 noNG mixed (l:=[]) .nil 3000 (by kernel_rfl)
def KKnown128:CF:=⟨128,[vI 0,dptV ⟨[vI 0]⟩ 0],vF⟩
theorem kKnown128:KKnown128.Ok Try.prog:=CF.of2 noNG mixed (l:=[]) .nil 3000 (by kernel_rfl)
def KKnown129:CF:=⟨128,[vI 1,dptV ⟨[vI 0]⟩ 0],vT⟩
theorem kKnown129:KKnown129.Ok Try.prog:=CF.of2 noNG mixed (l:=[]) .nil 3000 (by kernel_rfl)
def KKnown130:CF:=⟨128,[vI 2,dptV ⟨[vI 0]⟩ 0],vT⟩
theorem kKnown130:KKnown130.Ok Try.prog:=CF.of2 noNG mixed (l:=[]) .nil 3000 (by kernel_rfl)
def KKnown131:CF:=⟨81,[.agg wKnown2,.agg ⟨[vI 0,vI 199999,vI 2200,vI 2200]⟩,.func (.func 128) ⟨[]⟩ ⟨[dptV ⟨[vI 0]⟩ 0]⟩],.tuple ⟨[lstV ⟨[vI 600,vI 780,vJ 149,vI 80]⟩ 0 2 2,vT]⟩⟩
theorem kKnown131:KKnown131.Ok Try.prog:=CF.of2 noNG mixed (l:=[KKnown129,KKnown128,KKnown96,KKnown130,KKnown39,KKnown123,KKnown93]) (.cons kKnown129 (.cons kKnown128 (.cons kKnown96 (.cons kKnown130 (.cons kKnown39 (.cons kKnown123 (.cons kKnown93 .nil))))))) 3000 (by kernel_rfl)
def KKnown132:CF:=⟨87,[.agg wKnown2,.agg ⟨[vI 0,vI 199999,vI 2200,vI 2200]⟩,.func (.func 128) ⟨[]⟩ ⟨[dptV ⟨[vI 0]⟩ 0]⟩],vT⟩
theorem kKnown132:KKnown132.Ok Try.prog:=CF.of2 noNG mixed (l:=[KKnown99,KKnown131]) (.cons kKnown99 (.cons kKnown131 .nil)) 3000 (by kernel_rfl)
def KKnown133:CF:=⟨121,[vI 1],.func (.func 128) ⟨[]⟩ ⟨[dptV ⟨[vI 1]⟩ 0]⟩⟩
theorem kKnown133:KKnown133.Ok Try.prog:=CF.of2 noNG mixed (l:=[]) .nil 3000 (by kernel_rfl)
def KKnown134:CF:=⟨128,[vI 0,dptV ⟨[vI 1]⟩ 0],vT⟩
theorem kKnown134:KKnown134.Ok Try.prog:=CF.of2 noNG mixed (l:=[]) .nil 3000 (by kernel_rfl)
def KKnown135:CF:=⟨128,[vI 1,dptV ⟨[vI 1]⟩ 0],vF⟩
theorem kKnown135:KKnown135.Ok Try.prog:=CF.of2 noNG mixed (l:=[]) .nil 3000 (by kernel_rfl)
def KKnown136:CF:=⟨128,[vI 2,dptV ⟨[vI 1]⟩ 0],vT⟩
theorem kKnown136:KKnown136.Ok Try.prog:=CF.of2 noNG mixed (l:=[]) .nil 3000 (by kernel_rfl)
def KKnown137:CF:=⟨81,[.agg wKnown2,.agg ⟨[vI 0,vI 199999,vI 2200,vI 2200]⟩,.func (.func 128) ⟨[]⟩ ⟨[dptV ⟨[vI 1]⟩ 0]⟩],.tuple ⟨[lstV ⟨[vI 590,vI 580,vJ 129,vI 130]⟩ 0 2 2,vT]⟩⟩
theorem kKnown137:KKnown137.Ok Try.prog:=CF.of2 noNG mixed (l:=[KKnown135,KKnown134,KKnown136,KKnown39,KKnown84,KKnown123]) (.cons kKnown135 (.cons kKnown134 (.cons kKnown136 (.cons kKnown39 (.cons kKnown84 (.cons kKnown123 .nil)))))) 3000 (by kernel_rfl)
def KKnown138:CF:=⟨83,[lstV ⟨[vI 590,vI 580,vJ 129,vI 130]⟩ 0 2 2],vT⟩
theorem kKnown138:KKnown138.Ok Try.prog:=CF.of2 noNG mixed (l:=[]) .nil 3000 (by kernel_rfl)
def KKnown139:CF:=⟨87,[.agg wKnown2,.agg ⟨[vI 0,vI 199999,vI 2200,vI 2200]⟩,.func (.func 128) ⟨[]⟩ ⟨[dptV ⟨[vI 1]⟩ 0]⟩],vF⟩
theorem kKnown139:KKnown139.Ok Try.prog:=CF.of2 noNG mixed (l:=[KKnown137,KKnown138]) (.cons kKnown137 (.cons kKnown138 .nil)) 3000 (by kernel_rfl)
def KKnown140:CF:=⟨121,[vI 2],.func (.func 128) ⟨[]⟩ ⟨[dptV ⟨[vI 2]⟩ 0]⟩⟩
theorem kKnown140:KKnown140.Ok Try.prog:=CF.of2 noNG mixed (l:=[]) .nil 3000 (by kernel_rfl)
def KKnown141:CF:=⟨128,[vI 0,dptV ⟨[vI 2]⟩ 0],vT⟩
theorem kKnown141:KKnown141.Ok Try.prog:=CF.of2 noNG mixed (l:=[]) .nil 3000 (by kernel_rfl)
def KKnown142:CF:=⟨128,[vI 1,dptV ⟨[vI 2]⟩ 0],vT⟩
theorem kKnown142:KKnown142.Ok Try.prog:=CF.of2 noNG mixed (l:=[]) .nil 3000 (by kernel_rfl)
def KKnown143:CF:=⟨128,[vI 2,dptV ⟨[vI 2]⟩ 0],vF⟩
theorem kKnown143:KKnown143.Ok Try.prog:=CF.of2 noNG mixed (l:=[]) .nil 3000 (by kernel_rfl)
def KKnown144:CF:=⟨81,[.agg wKnown2,.agg ⟨[vI 0,vI 199999,vI 2200,vI 2200]⟩,.func (.func 128) ⟨[]⟩ ⟨[dptV ⟨[vI 2]⟩ 0]⟩],.tuple ⟨[lstV ⟨[vI 600,vI 580,vJ 129,vI 80]⟩ 0 2 2,vT]⟩⟩
theorem kKnown144:KKnown144.Ok Try.prog:=CF.of2 noNG mixed (l:=[KKnown142,KKnown96,KKnown39,KKnown141,KKnown143,KKnown84,KKnown93]) (.cons kKnown142 (.cons kKnown96 (.cons kKnown39 (.cons kKnown141 (.cons kKnown143 (.cons kKnown84 (.cons kKnown93 .nil))))))) 3000 (by kernel_rfl)
def KKnown145:CF:=⟨87,[.agg wKnown2,.agg ⟨[vI 0,vI 199999,vI 2200,vI 2200]⟩,.func (.func 128) ⟨[]⟩ ⟨[dptV ⟨[vI 2]⟩ 0]⟩],vF⟩
theorem kKnown145:KKnown145.Ok Try.prog:=CF.of2 noNG mixed (l:=[KKnown144,KKnown125]) (.cons kKnown144 (.cons kKnown125 .nil)) 3000 (by kernel_rfl)
def KKnown146:CF:=⟨89,[.agg wKnown2,.agg ⟨[vI 0,vI 199999,vI 2200,vI 2200]⟩],lstV ⟨[vI 0]⟩ 0 1 1⟩
theorem kKnown146:KKnown146.Ok Try.prog:=CF.of2 noNG mixed (l:=[KKnown132,KKnown133,KKnown139,KKnown140,KKnown145,KKnown127]) (.cons kKnown132 (.cons kKnown133 (.cons kKnown139 (.cons kKnown140 (.cons kKnown145 (.cons kKnown127 .nil)))))) 3000 (by kernel_rfl)
def KKnown147:CF:=⟨38,[.agg wKnown2,vI 0,vI 2200,vI 2200],.tuple ⟨[lstV ⟨[vI 0]⟩ 0 1 1,vF,vI 0]⟩⟩
theorem kKnown147:KKnown147.Ok Try.prog:=CF.of2 noNG mixed (l:=[KKnown33,KKnown146,KKnown76,KKnown126]) (.cons kKnown33 (.cons kKnown146 (.cons kKnown76 (.cons kKnown126 .nil)))) 3000 (by kernel_rfl)
def KKnown148:CF:=⟨78,[.agg wKnown2,.agg ⟨[vI 0,vI 1000,vI 100000,vI 450,vI 0]⟩,.agg ⟨[vI 200000,vI 999999]⟩,vI 2200],vI 290⟩
theorem kKnown148:KKnown148.Ok Try.prog:=CF.of2 noNG mixed (l:=[KKnown104,KKnown105,KKnown106,KKnown79,KKnown80]) (.cons kKnown104 (.cons kKnown105 (.cons kKnown106 (.cons kKnown79 (.cons kKnown80 .nil))))) 3000 (by kernel_rfl)
def KKnown149:CF:=⟨112,[vI 300000,vI 200000],vI 100000⟩
theorem kKnown149:KKnown149.Ok Try.prog:=CF.of2 noNG mixed (l:=[]) .nil 3000 (by kernel_rfl)
def KKnown150:CF:=⟨112,[vI 300000,vI 999999],vI 699999⟩
theorem kKnown150:KKnown150.Ok Try.prog:=CF.of2 noNG mixed (l:=[]) .nil 3000 (by kernel_rfl)
def KKnown151:CF:=⟨111,[vI 699999,vI 100000],vI 7⟩
theorem kKnown151:KKnown151.Ok Try.prog:=CF.of2 noNG mixed (l:=[]) .nil 3000 (by kernel_rfl)
def KKnown152:CF:=⟨78,[.agg wKnown2,.agg ⟨[vI 2,vI 2000,vI 300000,vI 760,vI 0]⟩,.agg ⟨[vI 200000,vI 999999]⟩,vI 2200],vI 250⟩
theorem kKnown152:KKnown152.Ok Try.prog:=CF.of2 noNG mixed (l:=[KKnown119,KKnown149,KKnown150,KKnown151,KKnown118]) (.cons kKnown119 (.cons kKnown149 (.cons kKnown150 (.cons kKnown151 (.cons kKnown118 .nil))))) 3000 (by kernel_rfl)
def KKnown153:CF:=⟨81,[.agg wKnown2,.agg ⟨[vI 200000,vI 999999,vI 2200,vI 2200]⟩,.func (.func 88) ⟨[]⟩ ⟨[]⟩],.tuple ⟨[lstV ⟨[vI 640,vI 740,vJ 109,vI 240]⟩ 0 2 2,vT]⟩⟩
theorem kKnown153:KKnown153.Ok Try.prog:=CF.of2 noNG mixed (l:=[KKnown116,KKnown39,KKnown107,KKnown111,KKnown115,KKnown148,KKnown117,KKnown152]) (.cons kKnown116 (.cons kKnown39 (.cons kKnown107 (.cons kKnown111 (.cons kKnown115 (.cons kKnown148 (.cons kKnown117 (.cons kKnown152 .nil)))))))) 3000 (by kernel_rfl)
def KKnown154:CF:=⟨83,[lstV ⟨[vI 640,vI 740,vJ 109,vI 240]⟩ 0 2 2],vF⟩
theorem kKnown154:KKnown154.Ok Try.prog:=CF.of2 noNG mixed (l:=[]) .nil 3000 (by kernel_rfl)
def KKnown155:CF:=⟨87,[.agg wKnown2,.agg ⟨[vI 200000,vI 999999,vI 2200,vI 2200]⟩,.func (.func 88) ⟨[]⟩ ⟨[]⟩],vT⟩
theorem kKnown155:KKnown155.Ok Try.prog:=CF.of2 noNG mixed (l:=[KKnown153,KKnown154]) (.cons kKnown153 (.cons kKnown154 .nil)) 3000 (by kernel_rfl)
def KKnown156:CF:=⟨38,[.agg wKnown2,vI 1,vI 2200,vI 2200],.tuple ⟨[.slice none 0 0,vT,vI 0]⟩⟩
theorem kKnown156:KKnown156.Ok Try.prog:=CF.of2 noNG mixed (l:=[KKnown33,KKnown155,KKnown103]) (.cons kKnown33 (.cons kKnown155 (.cons kKnown103 .nil))) 3000 (by kernel_rfl)
def KKnown157:CF:=⟨70,[vI 150000],vT⟩
theorem kKnown157:KKnown157.Ok Try.prog:=CF.of2 noNG mixed (l:=[]) .nil 3000 (by kernel_rfl)
def KKnown158:CF:=⟨91,[.agg ⟨[vI 150000,vI 150000,vI 2200,vI 2200]⟩],vT⟩
theorem kKnown158:KKnown158.Ok Try.prog:=CF.of2 noNG mixed (l:=[KKnown38]) (.cons kKnown38 .nil) 3000 (by kernel_rfl)
def KKnown159:CF:=⟨112,[vI 100000,vI 150000],vI 50000⟩
theorem kKnown159:KKnown159.Ok Try.prog:=CF.of2 noNG mixed (l:=[]) .nil 3000 (by kernel_rfl)
def KKnown160:CF:=⟨111,[vI 50000,vI 100000],vI 1⟩
theorem kKnown160:KKnown160.Ok Try.prog:=CF.of2 noNG mixed (l:=[]) .nil 3000 (by kernel_rfl)
def KKnown161:CF:=⟨78,[.agg wKnown2,.agg ⟨[vI 0,vI 1000,vI 100000,vI 450,vI 0]⟩,.agg ⟨[vI 150000,vI 150000]⟩,vI 2200],vI 130⟩
theorem kKnown161:KKnown161.Ok Try.prog:=CF.of2 noNG mixed (l:=[KKnown159,KKnown80,KKnown160,KKnown79]) (.cons kKnown159 (.cons kKnown80 (.cons kKnown160 (.cons kKnown79 .nil)))) 3000 (by kernel_rfl)
def KKnown162:CF:=⟨78,[.agg wKnown2,.agg ⟨[vI 1,vI 1000,vI 100000,vI 600,vJ 99]⟩,.agg ⟨[vI 150000,vI 150000]⟩,vI 2200],vI 180⟩
theorem kKnown162:KKnown162.Ok Try.prog:=CF.of2 noNG mixed (l:=[KKnown159,KKnown80,KKnown160,KKnown79]) (.cons kKnown159 (.cons kKnown80 (.cons kKnown160 (.cons kKnown79 .nil)))) 3000 (by kernel_rfl)
def KKnown163:CF:=⟨112,[vI 600000,vI 150000],vI 450000⟩
theorem kKnown163:KKnown163.Ok Try.prog:=CF.of2 noNG mixed (l:=[]) .nil 3000 (by kernel_rfl)
def KKnown164:CF:=⟨111,[vI 450000,vI 100000],vI 5⟩
theorem kKnown164:KKnown164.Ok Try.prog:=CF.of2 noNG mixed (l:=[]) .nil 3000 (by kernel_rfl)
def KKnown165:CF:=⟨78,[.agg wKnown2,.agg ⟨[vI 1,vI 1600,vI 600000,vI 850,vI 100]⟩,.agg ⟨[vI 150000,vI 150000]⟩,vI 2200],vI 230⟩
theorem kKnown165:KKnown165.Ok Try.prog:=CF.of2 noNG mixed (l:=[KKnown163,KKnown58,KKnown164,KKnown94]) (.cons kKnown163 (.cons kKnown58 (.cons kKnown164 (.cons kKnown94 .nil)))) 3000 (by kernel_rfl)
def KKnown166:CF:=⟨112,[vI 300000,vI 150000],vI 150000⟩
theorem kKnown166:KKnown166.Ok Try.prog:=CF.of2 noNG mixed (l:=[]) .nil 3000 (by kernel_rfl)
def KKnown167:CF:=⟨78,[.agg wKnown2,.agg ⟨[vI 2,vI 2000,vI 300000,vI 760,vI 0]⟩,.agg ⟨[vI 150000,vI 150000]⟩,vI 2200],vI 150⟩
theorem kKnown167:KKnown167.Ok Try.prog:=CF.of2 noNG mixed (l:=[KKnown166,KKnown60,KKnown118,KKnown119]) (.cons kKnown166 (.cons kKnown60 (.cons kKnown118 (.cons kKnown119 .nil)))) 3000 (by kernel_rfl)
def KKnown168:CF:=⟨81,[.agg wKnown2,.agg ⟨[vI 150000,vI 150000,vI 2200,vI 2200]⟩,.func (.func 88) ⟨[]⟩ ⟨[]⟩],.tuple ⟨[lstV ⟨[vI 620,vI 580,vJ 129,vI 80]⟩ 0 2 2,vT]⟩⟩
theorem kKnown168:KKnown168.Ok Try.prog:=CF.of2 noNG mixed (l:=[KKnown116,KKnown161,KKnown162,KKnown165,KKnown39,KKnown167,KKnown115,KKnown117]) (.cons kKnown116 (.cons kKnown161 (.cons kKnown162 (.cons kKnown165 (.cons kKnown39 (.cons kKnown167 (.cons kKnown115 (.cons kKnown117 .nil)))))))) 3000 (by kernel_rfl)
def KKnown169:CF:=⟨83,[lstV ⟨[vI 620,vI 580,vJ 129,vI 80]⟩ 0 2 2],vT⟩
theorem kKnown169:KKnown169.Ok Try.prog:=CF.of2 noNG mixed (l:=[]) .nil 3000 (by kernel_rfl)
def KKnown170:CF:=⟨81,[.agg wKnown2,.agg ⟨[vI 150000,vI 150000,vI 2200,vI 2200]⟩,.func (.func 128) ⟨[]⟩ ⟨[dptV ⟨[vI 0]⟩ 0]⟩],.tuple ⟨[lstV ⟨[vI 620,vI 780,vJ 129,vI 80]⟩ 0 2 2,vT]⟩⟩
theorem kKnown170:KKnown170.Ok Try.prog:=CF.of2 noNG mixed (l:=[KKnown129,KKnown128,KKnown162,KKnown130,KKnown165,KKnown39,KKnown167]) (.cons kKnown129 (.cons kKnown128 (.cons kKnown162 (.cons kKnown130 (.cons kKnown165 (.cons kKnown39 (.cons kKnown167 .nil))))))) 3000 (by kernel_rfl)
def KKnown171:CF:=⟨83,[lstV ⟨[vI 620,vI 780,vJ 129,vI 80]⟩ 0 2 2],vF⟩
theorem kKnown171:KKnown171.Ok Try.prog:=CF.of2 noNG mixed (l:=[]) .nil 3000 (by kernel_rfl)
def KKnown172:CF:=⟨87,[.agg wKnown2,.agg ⟨[vI 150000,vI 150000,vI 2200,vI 2200]⟩,.func (.func 128) ⟨[]⟩ ⟨[dptV ⟨[vI 0]⟩ 0]⟩],vT⟩
theorem kKnown172:KKnown172.Ok Try.prog:=CF.of2 noNG mixed (l:=[KKnown170,KKnown171]) (.cons kKnown170 (.cons kKnown171 .nil)) 3000 (by kernel_rfl)
def KKnown173:CF:=⟨81,[.agg wKnown2,.agg ⟨[vI 150000,vI 150000,vI 2200,vI 2200]⟩,.func (.func 128) ⟨[]⟩ ⟨[dptV ⟨[vI 1]⟩ 0]⟩],.tuple ⟨[lstV ⟨[vI 610,vI 580,vJ 129,vI 130]⟩ 0 2 2,vT]⟩⟩
theorem kKnown173:KKnown173.Ok Try.prog:=CF.of2 noNG mixed (l:=[KKnown135,KKnown161,KKnown134,KKnown136,KKnown39,KKnown167]) (.cons kKnown135 (.cons kKnown161 (.cons kKnown134 (.cons kKnown136 (.cons kKnown39 (.cons kKnown167 .nil)))))) 3000 (by kernel_rfl)
def KKnown174:CF:=⟨83,[lstV ⟨[vI 610,vI 580,vJ 129,vI 130]⟩ 0 2 2],vT⟩
theorem kKnown174:KKnown174.Ok Try.prog:=CF.of2 noNG mixed (l:=[]) .nil 3000 (by kernel_rfl)
def KKnown175:CF:=⟨87,[.agg wKnown2,.agg ⟨[vI 150000,vI 150000,vI 2200,vI 2200]⟩,.func (.func 128) ⟨[]⟩ ⟨[dptV ⟨[vI 1]⟩ 0]⟩],vF⟩
theorem kKnown175:KKnown175.Ok Try.prog:=CF.of2 noNG mixed (l:=[KKnown173,KKnown174]) (.cons kKnown173 (.cons kKnown174 .nil)) 3000 (by kernel_rfl)
def KKnown176:CF:=⟨81,[.agg wKnown2,.agg ⟨[vI 150000,vI 150000,vI 2200,vI 2200]⟩,.func (.func 128) ⟨[]⟩ ⟨[dptV ⟨[vI 2]⟩ 0]⟩],.tuple ⟨[lstV ⟨[vI 620,vI 580,vJ 129,vI 80]⟩ 0 2 2,vT]⟩⟩
theorem kKnown176:KKnown176.Ok Try.prog:=CF.of2 noNG mixed (l:=[KKnown142,KKnown161,KKnown162,KKnown165,KKnown39,KKnown141,KKnown143]) (.cons kKnown142 (.cons kKnown161 (.cons kKnown162 (.cons kKnown165 (.cons kKnown39 (.cons kKnown141 (.cons kKnown143 .nil))))))) 3000 (by kernel_rfl)
def KKnown177:CF:=⟨87,[.agg wKnown2,.agg ⟨[vI 150000,vI 150000,vI 2200,vI 2200]⟩,.func (.func 128) ⟨[]⟩ ⟨[dptV ⟨[vI 2]⟩ 0]⟩],vF⟩
theorem kKnown177:KKnown177.Ok Try.prog:=CF.of2 noNG mixed (l:=[KKnown176,KKnown169]) (.cons kKnown176 (.cons kKnown169 .nil)) 3000 (by kernel_rfl)
def KKnown178:CF:=⟨89,[.agg wKnown2,.agg ⟨[vI 150000,vI 150000,vI 2200,vI 2200]⟩],lstV ⟨[vI 0]⟩ 0 1 1⟩
theorem kKnown178:KKnown178.Ok Try.prog:=CF.of2 noNG mixed (l:=[KKnown133,KKnown172,KKnown140,KKnown175,KKnown177,KKnown127]) (.cons kKnown133 (.cons kKnown172 (.cons kKnown140 (.cons kKnown175 (.cons kKnown177 (.cons kKnown127 .nil)))))) 3000 (by kernel_rfl)
def KKnown179:CF:=⟨92,[.agg wKnown2,.agg ⟨[vI 150000,vI 150000,vI 2200,vI 2200]⟩],.tuple ⟨[.agg ⟨[vI 620,vI 780]⟩,.agg ⟨[vJ 129,vI 80]⟩,vT]⟩⟩
theorem kKnown179:KKnown179.Ok Try.prog:=CF.of2 noNG mixed (l:=[KKnown168,KKnown169,KKnown170,KKnown178,KKnown127]) (.cons kKnown168 (.cons kKnown169 (.cons kKnown170 (.cons kKnown178 (.cons kKnown127 .nil))))) 3000 (by kernel_rfl)
def KKnown180:CF:=⟨40,[.agg wKnown2,vI 150000,vI 2200,vI 2200],.tuple ⟨[.agg ⟨[vI 620,vI 780]⟩,.agg ⟨[vJ 129,vI 80]⟩,vI 0]⟩⟩
theorem kKnown180:KKnown180.Ok Try.prog:=CF.of2 noNG mixed (l:=[KKnown33,KKnown179,KKnown157,KKnown158]) (.cons kKnown33 (.cons kKnown179 (.cons kKnown157 (.cons kKnown158 .nil)))) 3000 (by kernel_rfl)
def KKnown181:CF:=⟨74,[vI 2099],vT⟩
theorem kKnown181:KKnown181.Ok Try.prog:=CF.of2 noNG mixed (l:=[]) .nil 3000 (by kernel_rfl)
def KKnown182:CF:=⟨91,[.agg ⟨[vI 0,vI 0,vI 2200,vI 2099]⟩],vT⟩
theorem kKnown182:KKnown182.Ok Try.prog:=CF.of2 noNG mixed (l:=[KKnown181,KKnown38]) (.cons kKnown181 (.cons kKnown38 .nil)) 3000 (by kernel_rfl)
def KKnown183:CF:=⟨75,[.agg wKnown2,vI 2099],.func (.func 110) ⟨[]⟩ ⟨[dptV wKnown2 0,dptV ⟨[vI 2099]⟩ 0]⟩⟩
theorem kKnown183:KKnown183.Ok Try.prog:=CF.of2 noNG mixed (l:=[]) .nil 3000 (by kernel_rfl)
def KKnown184:CF:=⟨81,[.agg wKnown2,.agg ⟨[vI 0,vI 199999,vI 2200,vI 2099]⟩,.func (.func 88) ⟨[]⟩ ⟨[]⟩],.tuple ⟨[lstV ⟨[vI 420,vI 580,vJ 129,vI 80]⟩ 0 2 2,vT]⟩⟩
theorem kKnown184:KKnown184.Ok Try.prog:=CF.of2 noNG mixed (l:=[KKnown115,KKnown116,KKnown84,KKnown183,KKnown93]) (.cons kKnown115 (.cons kKnown116 (.cons kKnown84 (.cons kKnown183 (.cons kKnown93 .nil))))) 3000 (by kernel_rfl)
def KKnown185:CF:=⟨83,[lstV ⟨[vI 420,vI 580,vJ 129,vI 80]⟩ 0 2 2],vF⟩
theorem kKnown185:KKnown185.Ok Try.prog:=CF.of2 noNG mixed (l:=[]) .nil 3000 (by kernel_rfl)
def KKnown186:CF:=⟨92,[.agg wKnown2,.agg ⟨[vI 0,vI 199999,vI 2200,vI 2099]⟩],.tuple ⟨[.agg ⟨[vI 420,vI 580]⟩,.agg ⟨[vJ 129,vI 80]⟩,vT]⟩⟩
theorem kKnown186:KKnown186.Ok Try.prog:=CF.of2 noNG mixed (l:=[KKnown184,KKnown185]) (.cons kKnown184 (.cons kKnown185 .nil)) 3000 (by kernel_rfl)
def KKnown187:CF:=⟨81,[.agg wKnown2,.agg ⟨[vI 200000,vI 999999,vI 2200,vI 2099]⟩,.func (.func 88) ⟨[]⟩ ⟨[]⟩],.tuple ⟨[lstV ⟨[vI 260,vI 740,vJ 289,vI 240]⟩ 0 2 2,vT]⟩⟩
theorem kKnown187:KKnown187.Ok Try.prog:=CF.of2 noNG mixed (l:=[KKnown107,KKnown115,KKnown116,KKnown148,KKnown183]) (.cons kKnown107 (.cons kKnown115 (.cons kKnown116 (.cons kKnown148 (.cons kKnown183 .nil))))) 3000 (by kernel_rfl)
def KKnown188:CF:=⟨83,[lstV ⟨[vI 260,vI 740,vJ 289,vI 240]⟩ 0 2 2],vF⟩
theorem kKnown188:KKnown188.Ok Try.prog:=CF.of2 noNG mixed (l:=[]) .nil 3000 (by kernel_rfl)
def KKnown189:CF:=⟨92,[.agg wKnown2,.agg ⟨[vI 200000,vI 999999,vI 2200,vI 2099]⟩],.tuple ⟨[.agg ⟨[vI 260,vI 740]⟩,.agg ⟨[vJ 289,vI 240]⟩,vT]⟩⟩
theorem kKnown189:KKnown189.Ok Try.prog:=CF.of2 noNG mixed (l:=[KKnown187,KKnown188]) (.cons kKnown187 (.cons kKnown188 .nil)) 3000 (by kernel_rfl)
def KKnown190:CF:=⟨42,[.agg wKnown2,vI 2200,vI 2099],.tuple ⟨[lstV wKnown3 0 2 6,vI 0]⟩⟩
theorem kKnown190:KKnown190.Ok Try.prog:=CF.of2 noNG mixed (l:=[KKnown33,KKnown101,KKnown74,KKnown182,KKnown186,KKnown189]) (.cons kKnown33 (.cons kKnown101 (.cons kKnown74 (.cons kKnown182 (.cons kKnown186 (.cons kKnown189 .nil)))))) 3000 (by kernel_rfl)
def KKnown191:CF:=⟨52,[vI 620,vI 780],.agg ⟨[vI 620,vI 780]⟩⟩
theorem kKnown191:KKnown191.Ok Try.prog:=CF.of2 noNG mixed (l:=[]) .nil 3000 (by kernel_rfl)
def KKnown192:CF:=⟨52,[vJ 129,vI 80],.agg ⟨[vJ 129,vI 80]⟩⟩
theorem kKnown192:KKnown192.Ok Try.prog:=CF.of2 noNG mixed (l:=[]) .nil 3000 (by kernel_rfl)
def KKnown193:CF:=⟨52,[vI 420,vI 580],.agg ⟨[vI 420,vI 580]⟩⟩
theorem kKnown193:KKnown193.Ok Try.prog:=CF.of2 noNG mixed (l:=[]) .nil 3000 (by kernel_rfl)
def KKnown194:CF:=⟨52,[vI 260,vI 740],.agg ⟨[vI 260,vI 740]⟩⟩
theorem kKnown194:KKnown194.Ok Try.prog:=CF.of2 noNG mixed (l:=[]) .nil 3000 (by kernel_rfl)
def KKnown195:CF:=⟨52,[vJ 289,vI 240],.agg ⟨[vJ 289,vI 240]⟩⟩
theorem kKnown195:KKnown195.Ok Try.prog:=CF.of2 noNG mixed (l:=[]) .nil 3000 (by kernel_rfl)
def KKnown196:CF:=⟨53,[],lstV wKnown4 0 2 6⟩
theorem kKnown196:KKnown196.Ok Try.prog:=CF.of2 noNG mixed (l:=[]) .nil 3000 (by kernel_rfl)
def KKnown197:CF:=⟨105,[vI 780],vT⟩
theorem kKnown197:KKnown197.Ok Try.prog:=CF.of2 noNG mixed (l:=[]) .nil 3000 (by kernel_rfl)
def KKnown198:CF:=⟨108,[.agg ⟨[vI 600,vI 780]⟩],vT⟩
theorem kKnown198:KKnown198.Ok Try.prog:=CF.of2 noNG mixed (l:=[KKnown20,KKnown197]) (.cons kKnown20 (.cons kKnown197 .nil)) 3000 (by kernel_rfl)
def KKnown199:CF:=⟨105,[vJ 149],vT⟩
theorem kKnown199:KKnown199.Ok Try.prog:=CF.of2 noNG mixed (l:=[]) .nil 3000 (by kernel_rfl)
def KKnown200:CF:=⟨105,[vI 80],vT⟩
theorem kKnown200:KKnown200.Ok Try.prog:=CF.of2 noNG mixed (l:=[]) .nil 3000 (by kernel_rfl)
def KKnown201:CF:=⟨108,[.agg ⟨[vJ 149,vI 80]⟩],vT⟩
theorem kKnown201:KKnown201.Ok Try.prog:=CF.of2 noNG mixed (l:=[KKnown200,KKnown199]) (.cons kKnown200 (.cons kKnown199 .nil)) 3000 (by kernel_rfl)
def KKnown202:CF:=⟨68,[.agg ⟨[vI 0,vI 200000,vI 600,vI 780,vJ 149,vI 80]⟩,vI 0],vI 0⟩
theorem kKnown202:KKnown202.Ok Try.prog:=CF.of2 noNG mixed (l:=[KKnown201,KKnown198]) (.cons kKnown201 (.cons kKnown198 .nil)) 3000 (by kernel_rfl)
def KKnown203:CF:=⟨105,[vI 640],vT⟩
theorem kKnown203:KKnown203.Ok Try.prog:=CF.of2 noNG mixed (l:=[]) .nil 3000 (by kernel_rfl)
def KKnown204:CF:=⟨105,[vI 740],vT⟩
theorem kKnown204:KKnown204.Ok Try.prog:=CF.of2 noNG mixed (l:=[]) .nil 3000 (by kernel_rfl)
def KKnown205:CF:=⟨108,[.agg ⟨[vI 640,vI 740]⟩],vT⟩
theorem kKnown205:KKnown205.Ok Try.prog:=CF.of2 noNG mixed (l:=[KKnown203,KKnown204]) (.cons kKnown203 (.cons kKnown204 .nil)) 3000 (by kernel_rfl)
def KKnown206:CF:=⟨105,[vJ 109],vT⟩
theorem kKnown206:KKnown206.Ok Try.prog:=CF.of2 noNG mixed (l:=[]) .nil 3000 (by kernel_rfl)
def KKnown207:CF:=⟨105,[vI 240],vT⟩
theorem kKnown207:KKnown207.Ok Try.prog:=CF.of2 noNG mixed (l:=[]) .nil 3000 (by kernel_rfl)
def KKnown208:CF:=⟨108,[.agg ⟨[vJ 109,vI 240]⟩],vT⟩
theorem kKnown208:KKnown208.Ok Try.prog:=CF.of2 noNG mixed (l:=[KKnown206,KKnown207]) (.cons kKnown206 (.cons kKnown207 .nil)) 3000 (by kernel_rfl)
def KKnown209:CF:=⟨68,[.agg ⟨[vI 200000,vI 1000000,vI 640,vI 740,vJ 109,vI 240]⟩,vI 200000],vI 0⟩
theorem kKnown209:KKnown209.Ok Try.prog:=CF.of2 noNG mixed (l:=[KKnown208,KKnown205]) (.cons kKnown208 (.cons kKnown205 .nil)) 3000 (by kernel_rfl)
def KKnown210:CF:=⟨25,[lstV wKnown4 0 2 6],.tuple ⟨[vI 0,vI 0]⟩⟩
theorem kKnown210:KKnown210.Ok Try.prog:=CF.of2 noNG mixed (l:=[KKnown209,KKnown202]) (.cons kKnown209 (.cons kKnown202 .nil)) 3000 (by kernel_rfl)
def KKnown211:CF:=⟨70,[vI 199999],vT⟩
theorem kKnown211:KKnown211.Ok Try.prog:=CF.of2 noNG mixed (l:=[]) .nil 3000 (by kernel_rfl)
def KKnown212:CF:=⟨27,[lstV wKnown4 0 2 6,vI 199999],.tuple ⟨[.agg ⟨[vI 600,vI 780]⟩,.agg ⟨[vJ 149,vI 80]⟩,vI 0]⟩⟩
theorem kKnown212:KKnown212.Ok Try.prog:=CF.of2 noNG mixed (l:=[KKnown210,KKnown211]) (.cons kKnown210 (.cons kKnown211 .nil)) 3000 (by kernel_rfl)
def KKnown213:CF:=⟨70,[vI 200000],vT⟩
theorem kKnown213:KKnown213.Ok Try.prog:=CF.of2 noNG mixed (l:=[]) .nil 3000 (by kernel_rfl)
def KKnown214:CF:=⟨27,[lstV wKnown4 0 2 6,vI 200000],.tuple ⟨[.agg ⟨[vI 640,vI 740]⟩,.agg ⟨[vJ 109,vI 240]⟩,vI 0]⟩⟩
theorem kKnown214:KKnown214.Ok Try.prog:=CF.of2 noNG mixed (l:=[KKnown210,KKnown213]) (.cons kKnown210 (.cons kKnown213 .nil)) 3000 (by kernel_rfl)
def KKnown215:CF:=⟨70,[vI 1000000],vT⟩
theorem kKnown215:KKnown215.Ok Try.prog:=CF.of2 noNG mixed (l:=[]) .nil 3000 (by kernel_rfl)
def KKnown216:CF:=⟨27,[lstV wKnown4 0 2 6,vI 1000000],.tuple ⟨[.agg ⟨[vI 0,vI 0]⟩,.agg ⟨[vI 0,vI 0]⟩,vI 4]⟩⟩
theorem kKnown216:KKnown216.Ok Try.prog:=CF.of2 noNG mixed (l:=[KKnown210,KKnown215]) (.cons kKnown210 (.cons kKnown215 .nil)) 3000 (by kernel_rfl)
def KKnown217:CF:=⟨52,[vI 640,vI 740],.agg ⟨[vI 640,vI 740]⟩⟩
theorem kKnown217:KKnown217.Ok Try.prog:=CF.of2 noNG mixed (l:=[]) .nil 3000 (by kernel_rfl)
def KKnown218:CF:=⟨45,[.agg wKnown2],.tuple ⟨[lstV wKnown5 0 134 1,vI 0]⟩⟩
theorem kKnown218:KKnown218.Ok Try.prog:=CF.of2 noNG mixed (l:=[KKnown33]) (.cons kKnown33 .nil) 3000 (by kernel_rfl)
def KKnown219:CF:=⟨61,[vI 1000,vI 0],vI 0⟩
theorem kKnown219:KKnown219.Ok Try.prog:=CF.of2 noNG mixed (l:=[]) .nil 3000 (by kernel_rfl)
def KKnown220:CF:=⟨96,[lstV wKnown5 0 132 1],vI 8223⟩
theorem kKnown220:KKnown220.Ok Try.prog:=CF.of2 noNG mixed (l:=[]) .nil 3000 (by kernel_rfl)
def KKnown221:CF:=⟨99,[lstV wKnown5 0 133 1],.tuple wKnown6⟩
theorem kKnown221:KKnown221.Ok Try.prog:=CF.of2 noNG mixed (l:=[KKnown220]) (.cons kKnown220 .nil) 3000 (by kernel_rfl)
def KKnown222:CF:=⟨48,[lstV wKnown5 0 133 1],.tuple wKnown7⟩
theorem kKnown222:KKnown222.Ok Try.prog:=CF.of2 noNG mixed (l:=[KKnown221]) (.cons kKnown221 .nil) 3000 (by kernel_rfl)
def KKnown223:CF:=⟨99,[lstV wKnown5 0 134 1],.tuple ⟨[.agg wKnown2,vT]⟩⟩
theorem kKnown223:KKnown223.Ok Try.prog:=CF.of2 noNG mixed (l:=[KKnown220]) (.cons kKnown220 .nil) 3000 (by kernel_rfl)
def KKnown224:CF:=⟨48,[lstV wKnown5 0 134 1],.tuple ⟨[.agg wKnown2,vI 0]⟩⟩
theorem kKnown224:KKnown224.Ok Try.prog:=CF.of2 noNG mixed (l:=[KKnown33,KKnown223]) (.cons kKnown33 (.cons kKnown223 .nil)) 3000 (by kernel_rfl)
def KKnown225:CF:=⟨33,[lstV ⟨[vI 200000,vI 1000000]⟩ 0 2 1,lstV ⟨[vI 200000,vI 1000000]⟩ 0 2 1],vT⟩
theorem kKnown225:KKnown225.Ok Try.prog:=CF.of2 noNG mixed (l:=[]) .nil 3000 (by kernel_rfl)
def KKnown226:CF:=⟨50,[.agg wKnown2,.agg wKnown2],vT⟩
theorem kKnown226:KKnown226.Ok Try.prog:=CF.of2 noNG mixed (l:=[KKnown225]) (.cons kKnown225 .nil) 3000 (by kernel_rfl)
def KKnown227:CF:=⟨91,[.agg ⟨[vI 0,vI 0,vI 2200,vI 2200]⟩],vT⟩
theorem kKnown227:KKnown227.Ok Try.prog:=CF.of2 noNG mixed (l:=[KKnown38]) (.cons kKnown38 .nil) 3000 (by kernel_rfl)
def KKnown228:CF:=⟨92,[.agg wKnown2,.agg ⟨[vI 0,vI 199999,vI 2200,vI 2200]⟩],.tuple ⟨[.agg ⟨[vI 600,vI 780]⟩,.agg ⟨[vJ 149,vI 80]⟩,vT]⟩⟩
theorem kKnown228:KKnown228.Ok Try.prog:=CF.of2 noNG mixed (l:=[KKnown131,KKnown146,KKnown124,KKnown125,KKnown127]) (.cons kKnown131 (.cons kKnown146 (.cons kKnown124 (.cons kKnown125 (.cons kKnown127 .nil))))) 3000 (by kernel_rfl)
def KKnown229:CF:=⟨92,[.agg wKnown2,.agg ⟨[vI 200000,vI 999999,vI 2200,vI 2200]⟩],.tuple ⟨[.agg ⟨[vI 640,vI 740]⟩,.agg ⟨[vJ 109,vI 240]⟩,vT]⟩⟩
theorem kKnown229:KKnown229.Ok Try.prog:=CF.of2 noNG mixed (l:=[KKnown153,KKnown154]) (.cons kKnown153 (.cons kKnown154 .nil)) 3000 (by kernel_rfl)
def KKnown230:CF:=⟨42,[.agg wKnown2,vI 2200,vI 2200],.tuple ⟨[lstV wKnown4 0 2 6,vI 0]⟩⟩
theorem kKnown230:KKnown230.Ok Try.prog:=CF.of2 noNG mixed (l:=[KKnown33,KKnown227,KKnown228,KKnown101,KKnown229,KKnown74]) (.cons kKnown33 (.cons kKnown227 (.cons kKnown228 (.cons kKnown101 (.cons kKnown229 (.cons kKnown74 .nil)))))) 3000 (by kernel_rfl)
def KKnown231:CF:=⟨70,[vI 700000],vT⟩
theorem kKnown231:KKnown231.Ok Try.prog:=CF.of2 noNG mixed (l:=[]) .nil 3000 (by kernel_rfl)
def KKnown232:CF:=⟨91,[.agg ⟨[vI 700000,vI 700000,vI 2200,vI 2200]⟩],vT⟩
theorem kKnown232:KKnown232.Ok Try.prog:=CF.of2 noNG mixed (l:=[KKnown38]) (.cons kKnown38 .nil) 3000 (by kernel_rfl)
def KKnown233:CF:=⟨112,[vI 100000,vI 700000],vI 600000⟩
theorem kKnown233:KKnown233.Ok Try.prog:=CF.of2 noNG mixed (l:=[]) .nil 3000 (by kernel_rfl)
def KKnown234:CF:=⟨78,[.agg wKnown2,.agg ⟨[vI 0,vI 1000,vI 100000,vI 450,vI 0]⟩,.agg ⟨[vI 700000,vI 700000]⟩,vI 2200],vI 230⟩
theorem kKnown234:KKnown234.Ok Try.prog:=CF.of2 noNG mixed (l:=[KKnown233,KKnown80,KKnown65,KKnown79]) (.cons kKnown233 (.cons kKnown80 (.cons kKnown65 (.cons kKnown79 .nil)))) 3000 (by kernel_rfl)
def KKnown235:CF:=⟨78,[.agg wKnown2,.agg ⟨[vI 1,vI 1000,vI 100000,vI 600,vJ 99]⟩,.agg ⟨[vI 700000,vI 700000]⟩,vI 2200],vI 280⟩
theorem kKnown235:KKnown235.Ok Try.prog:=CF.of2 noNG mixed (l:=[KKnown233,KKnown80,KKnown65,KKnown79]) (.cons kKnown233 (.cons kKnown80 (.cons kKnown65 (.cons kKnown79 .nil)))) 3000 (by kernel_rfl)
def KKnown236:CF:=⟨112,[vI 600000,vI 700000],vI 100000⟩
theorem kKnown236:KKnown236.Ok Try.prog:=CF.of2 noNG mixed (l:=[]) .nil 3000 (by kernel_rfl)
def KKnown237:CF:=⟨78,[.agg wKnown2,.agg ⟨[vI 1,vI 1600,vI 600000,vI 850,vI 100]⟩,.agg ⟨[vI 700000,vI 700000]⟩,vI 2200],vI 150⟩
theorem kKnown237:KKnown237.Ok Try.prog:=CF.of2 noNG mixed (l:=[KKnown236,KKnown58,KKnown83,KKnown94]) (.cons kKnown236 (.cons kKnown58 (.cons kKnown83 (.cons kKnown94 .nil)))) 3000 (by kernel_rfl)
def KKnown238:CF:=⟨112,[vI 300000,vI 700000],vI 400000⟩
theorem kKnown238:KKnown238.Ok Try.prog:=CF.of2 noNG mixed (l:=[]) .nil 3000 (by kernel_rfl)
def KKnown239:CF:=⟨78,[.agg wKnown2,.agg ⟨[vI 2,vI 2000,vI 300000,vI 760,vI 0]⟩,.agg ⟨[vI 700000,vI 700000]⟩,vI 2200],vI 190⟩
theorem kKnown239:KKnown239.Ok Try.prog:=CF.of2 noNG mixed (l:=[KKnown238,KKnown110,KKnown118,KKnown119]) (.cons kKnown238 (.cons kKnown110 (.cons kKnown118 (.cons kKnown119 .nil)))) 3000 (by kernel_rfl)
def KKnown240:CF:=⟨81,[.agg wKnown2,.agg ⟨[vI 700000,vI 700000,vI 2200,vI 2200]⟩,.func (.func 88) ⟨[]⟩ ⟨[]⟩],.tuple ⟨[lstV ⟨[vI 700,vI 680,vJ 49,vI 180]⟩ 0 2 2,vT]⟩⟩
theorem kKnown240:KKnown240.Ok Try.prog:=CF.of2 noNG mixed (l:=[KKnown116,KKnown39,KKnown234,KKnown235,KKnown237,KKnown239,KKnown115,KKnown117]) (.cons kKnown116 (.cons kKnown39 (.cons kKnown234 (.cons kKnown235 (.cons kKnown237 (.cons kKnown239 (.cons kKnown115 (.cons kKnown117 .nil)))))))) 3000 (by kernel_rfl)
def KKnown241:CF:=⟨83,[lstV ⟨[vI 700,vI 680,vJ 49,vI 180]⟩ 0 2 2],vT⟩
theorem kKnown241:KKnown241.Ok Try.prog:=CF.of2 noNG mixed (l:=[]) .nil 3000 (by kernel_rfl)
def KKnown242:CF:=⟨81,[.agg wKnown2,.agg ⟨[vI 700000,vI 700000,vI 2200,vI 2200]⟩,.func (.func 128) ⟨[]⟩ ⟨[dptV ⟨[vI 0]⟩ 0]⟩],.tuple ⟨[lstV ⟨[vI 700,vI 880,vJ 49,vI 180]⟩ 0 2 2,vT]⟩⟩
theorem kKnown242:KKnown242.Ok Try.prog:=CF.of2 noNG mixed (l:=[KKnown129,KKnown128,KKnown130,KKnown39,KKnown235,KKnown237,KKnown239]) (.cons kKnown129 (.cons kKnown128 (.cons kKnown130 (.cons kKnown39 (.cons kKnown235 (.cons kKnown237 (.cons kKnown239 .nil))))))) 3000 (by kernel_rfl)
def KKnown243:CF:=⟨83,[lstV ⟨[vI 700,vI 880,vJ 49,vI 180]⟩ 0 2 2],vF⟩
theorem kKnown243:KKnown243.Ok Try.prog:=CF.of2 noNG mixed (l:=[]) .nil 3000 (by kernel_rfl)
def KKnown244:CF:=⟨87,[.agg wKnown2,.agg ⟨[vI 700000,vI 700000,vI 2200,vI 2200]⟩,.func (.func 128) ⟨[]⟩ ⟨[dptV ⟨[vI 0]⟩ 0]⟩],vT⟩
theorem kKnown244:KKnown244.Ok Try.prog:=CF.of2 noNG mixed (l:=[KKnown242,KKnown243]) (.cons kKnown242 (.cons kKnown243 .nil)) 3000 (by kernel_rfl)
def KKnown245:CF:=⟨81,[.agg wKnown2,.agg ⟨[vI 700000,vI 700000,vI 2200,vI 2200]⟩,.func (.func 128) ⟨[]⟩ ⟨[dptV ⟨[vI 1]⟩ 0]⟩],.tuple ⟨[lstV ⟨[vI 570,vI 680,vJ 189,vI 190]⟩ 0 2 2,vT]⟩⟩
theorem kKnown245:KKnown245.Ok Try.prog:=CF.of2 noNG mixed (l:=[KKnown135,KKnown134,KKnown136,KKnown39,KKnown234,KKnown239]) (.cons kKnown135 (.cons kKnown134 (.cons kKnown136 (.cons kKnown39 (.cons kKnown234 (.cons kKnown239 .nil)))))) 3000 (by kernel_rfl)
def KKnown246:CF:=⟨83,[lstV ⟨[vI 570,vI 680,vJ 189,vI 190]⟩ 0 2 2],vF⟩
theorem kKnown246:KKnown246.Ok Try.prog:=CF.of2 noNG mixed (l:=[]) .nil 3000 (by kernel_rfl)
def KKnown247:CF:=⟨87,[.agg wKnown2,.agg ⟨[vI 700000,vI 700000,vI 2200,vI 2200]⟩,.func (.func 128) ⟨[]⟩ ⟨[dptV ⟨[vI 1]⟩ 0]⟩],vT⟩
theorem kKnown247:KKnown247.Ok Try.prog:=CF.of2 noNG mixed (l:=[KKnown245,KKnown246]) (.cons kKnown245 (.cons kKnown246 .nil)) 3000 (by kernel_rfl)
def KKnown248:CF:=⟨81,[.agg wKnown2,.agg ⟨[vI 700000,vI 700000,vI 2200,vI 2200]⟩,.func (.func 128) ⟨[]⟩ ⟨[dptV ⟨[vI 2]⟩ 0]⟩],.tuple ⟨[lstV ⟨[vI 700,vI 680,vJ 49,vI 180]⟩ 0 2 2,vT]⟩⟩
theorem kKnown248:KKnown248.Ok Try.prog:=CF.of2 noNG mixed (l:=[KKnown142,KKnown39,KKnown234,KKnown235,KKnown141,KKnown237,KKnown143]) (.cons kKnown142 (.cons kKnown39 (.cons kKnown234 (.cons kKnown235 (.cons kKnown141 (.cons kKnown237 (.cons kKnown143 .nil))))))) 3000 (by kernel_rfl)
def KKnown249:CF:=⟨87,[.agg wKnown2,.agg ⟨[vI 700000,vI 700000,vI 2200,vI 2200]⟩,.func (.func 128) ⟨[]⟩ ⟨[dptV ⟨[vI 2]⟩ 0]⟩],vF⟩
theorem kKnown249:KKnown249.Ok Try.prog:=CF.of2 noNG mixed (l:=[KKnown248,KKnown241]) (.cons kKnown248 (.cons kKnown241 .nil)) 3000 (by kernel_rfl)
def KKnown250:CF:=⟨89,[.agg wKnown2,.agg ⟨[vI 700000,vI 700000,vI 2200,vI 2200]⟩],lstV ⟨[vI 0,vI 1]⟩ 0 2 1⟩
theorem kKnown250:KKnown250.Ok Try.prog:=CF.of2 noNG mixed (l:=[KKnown133,KKnown140,KKnown244,KKnown247,KKnown249,KKnown127]) (.cons kKnown133 (.cons kKnown140 (.cons kKnown244 (.cons kKnown247 (.cons kKnown249 (.cons kKnown127 .nil)))))) 3000 (by kernel_rfl)
def KKnown251:CF:=⟨92,[.agg wKnown2,.agg ⟨[vI 700000,vI 700000,vI 2200,vI 2200]⟩],.tuple ⟨[.agg ⟨[vI 0,vI 0]⟩,.agg ⟨[vI 0,vI 0]⟩,vF]⟩⟩
theorem kKnown251:KKnown251.Ok Try.prog:=CF.of2 noNG mixed (l:=[KKnown240,KKnown241,KKnown250]) (.cons kKnown240 (.cons kKnown241 (.cons kKnown250 .nil))) 3000 (by kernel_rfl)
def KKnown252:CF:=⟨40,[.agg wKnown2,vI 700000,vI 2200,vI 2200],.tuple ⟨[.agg ⟨[vI 0,vI 0]⟩,.agg ⟨[vI 0,vI 0]⟩,vI 9]⟩⟩
theorem kKnown252:KKnown252.Ok Try.prog:=CF.of2 noNG mixed (l:=[KKnown232,KKnown33,KKnown251,KKnown231]) (.cons kKnown232 (.cons kKnown33 (.cons kKnown251 (.cons kKnown231 .nil)))) 3000 (by kernel_rfl)
def KKnown253:CF:=⟨99,[.slice none 0 0],.tuple wKnown6⟩
theorem kKnown253:KKnown253.Ok Try.prog:=CF.of2 noNG mixed (l:=[]) .nil 3000 (by kernel_rfl)
def KKnown254:CF:=⟨48,[.slice none 0 0],.tuple wKnown7⟩
theorem kKnown254:KKnown254.Ok Try.prog:=CF.of2 noNG mixed (l:=[KKnown253]) (.cons kKnown253 .nil) 3000 (by kernel_rfl)
def KKnown255:CF:=⟨44,[lstV wKnown4 0 2 6,lstV wKnown4 0 2 6],vT⟩
theorem kKnown255:KKnown255.Ok Try.prog:=CF.of2 noNG mixed (l:=[]) .nil 3000 (by kernel_rfl)
def KKnown256:CF:=⟨66,[.int .u8 (.ofNat 77)],vF⟩
theorem kKnown256:KKnown256.Ok Try.prog:=CF.of2 noNG mixed (l:=[]) .nil 3000 (by kernel_rfl)
def KKnown257:CF:=⟨22,[.string ⟨⟨[77,97,115,116]⟩⟩],vF⟩
theorem kKnown257:KKnown257.Ok Try.prog:=CF.of2 noNG mixed (l:=[KKnown256]) (.cons kKnown256 .nil) 3000 (by kernel_rfl)
def KKnown258:CF:=⟨24,[],vT⟩
theorem kKnown258:KKnown258.Ok Try.prog:=CF.of2 noNG mixed (l:=[KKnown0,KKnown257,KKnown67,KKnown196,KKnown5,KKnown230,KKnown252,KKnown254,KKnown255]) (.cons kKnown0 (.cons kKnown257 (.cons kKnown67 (.cons kKnown196 (.cons kKnown5 (.cons kKnown230 (.cons kKnown252 (.cons kKnown254 (.cons kKnown255 .nil))))))))) 3000 (by kernel_rfl)
def KKnown259:CF:=⟨10,[],vT⟩
theorem kKnown259:KKnown259.Ok Try.prog:=CF.of2 noNG mixed (l:=[KKnown196,KKnown192,KKnown70,KKnown0,KKnown258,KKnown147,KKnown156,KKnown31,KKnown32,KKnown35,KKnown37,KKnown40,KKnown43,KKnown50,KKnown180,KKnown55,KKnown62,KKnown190,KKnown191,KKnown193,KKnown67,KKnown68,KKnown69,KKnown71,KKnown72,KKnown73,KKnown194,KKnown195,KKnown212,KKnown214,KKnown216,KKnown89,KKnown217,KKnown218,KKnown219,KKnown222,KKnown224,KKnown226,KKnown100,KKnown114]) (.cons kKnown196 (.cons kKnown192 (.cons kKnown70 (.cons kKnown0 (.cons kKnown258 (.cons kKnown147 (.cons kKnown156 (.cons kKnown31 (.cons kKnown32 (.cons kKnown35 (.cons kKnown37 (.cons kKnown40 (.cons kKnown43 (.cons kKnown50 (.cons kKnown180 (.cons kKnown55 (.cons kKnown62 (.cons kKnown190 (.cons kKnown191 (.cons kKnown193 (.cons kKnown67 (.cons kKnown68 (.cons kKnown69 (.cons kKnown71 (.cons kKnown72 (.cons kKnown73 (.cons kKnown194 (.cons kKnown195 (.cons kKnown212 (.cons kKnown214 (.cons kKnown216 (.cons kKnown89 (.cons kKnown217 (.cons kKnown218 (.cons kKnown219 (.cons kKnown222 (.cons kKnown224 (.cons kKnown226 (.cons kKnown100 (.cons kKnown114 .nil)))))))))))))))))))))))))))))))))))))))) 3000 (by kernel_rfl)
end
end Go.Proofs.Ytgchppegdeoflaa
namespace Go.Proofs.Ytgchppegdeoflaa
open Go.ChangeShapes Go.WideShapes Go.ChangeAt Go.RowKit Go.Gi
set_option maxRecDepth 100000
theorem own:ownKnob Try.prog.godebug=none:=by kernel_rfl
theorem law10:Fact Try.prog (.call 10 ⟨[]⟩ ⟨[],0,[]⟩) (.ret (.bool true) ⟨[],0,[]⟩):=kKnown259 _
theorem lifted10 (os:Os)(started:os.Started)(H:Type)(enc:TypeId×Value→H) :
    ReturnsInHanded {} Try.checked os 10 .any (Rows.windKnownSpec.pre6 enc Try.prog Try.f10 Rows.windKnownRow.domain false) (Rows.windKnownSpec.post enc Try.prog Try.f10 false true false false):=by
  refine returnsInHanded_of_change (C:=Try.checked) own started (by kernel_rfl) Try.func10
    (ChangeSpec.witness6 (enc:=enc) (C:=Try.checked) false ⟨#[],#[],[]⟩ 20 (by kernel_rfl) (by kernel_rfl) (by kernel_rfl) (by kernel_rfl)) ?_
  intro W base args ds gs before hval0 hW hcnd _
  have hW':=hW
  obtain ⟨p,q,hA0,hV,rfl,hfz,hnd⟩:=hW
  have hA:DataW.TrodAll enc Try.prog W 0 (fun _=>true) true Try.f10.params.toList args.toList ds p:=hA0
  rw [Try.params10]at hA
  obtain ⟨hargs,rfl,rfl⟩:=trodAll_nil hA
  obtain rfl:args=#[]:=by cases args;simp_all
  obtain ⟨rfl,rfl⟩:=trodVars_none hV
  refine (calls_frozen law10 rfl (VRs.nil _)).mono fun e W' ⟨he,bel⟩=>?_
  subst he
  exact ⟨_,rfl,_,_,_,[],_,[],hW',trodAll_mk1 (shut_bool Try.underlying4 _),trodAll_mk0,rfl,bel.frame _,fun h=>by cases h⟩
theorem over10:Rows.windKnownRow.holds Try.pinned (OpenSpec.ofChange Rows.windKnownSpec) :=
  OpenClaim.holds_of_wide 10 Try.f10 rfl rfl rfl rfl rfl rfl rfl ⟨rfl,rfl,rfl,rfl,rfl⟩ rfl rfl rfl rfl rfl (by kernel_rfl) Try.func10 (by kernel_rfl)
    (of_decide_eq_true (by kernel_rfl)) (by unfold Func.isWrapper;first | (rw [if_pos (by decide +kernel)];kernel_rfl) | (rw [if_neg (by decide +kernel)];exact ⟨rfl,rfl⟩))
    (fun os started H enc _=>lifted10 os started H enc)
theorem windKnownProved:Rows.WindKnownSaid:=over10
end Go.Proofs.Ytgchppegdeoflaa
