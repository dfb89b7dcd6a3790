/- Part 11 of the texts below the claim. Conditions: none. -/
import Derived.Test.YtoojllndfjamgaaMg6
import Derived.Test.YtoojllndfjamgaaMg10
import Derived.Test.YtoojllndfjamgaaMg7
import Derived.Test.YtoojllndfjamgaaMg8
import Derived.Test.YtoojllndfjamgaaMg9
set_option linter.unusedVariables false
set_option linter.unusedSimpArgs false
namespace Go.Gi
open Go.RowKit
noncomputable section
abbrev vT:Value:=.bool true
abbrev vF:Value:=.bool false
abbrev vI (n:Nat):Value:=.int .i64 (.ofNat n)
abbrev vJ (n:Nat):Value:=.int .i64 (.negSucc n)
structure CF where
  g:Nat
  args:List Value
  u:Value
def CF.Ok (P:Program)(c:CF):Prop:=∀h,Fact P (.call c.g ⟨c.args⟩ h) (.ret c.u h)
def lookCF (f:Nat)(vs:List Value)(h:Hp):List CF→Option AT
  | []=>none
  | c::r=>match Nat.beq f c.g with
    | true=>(match eqLs (eqVn 8) vs c.args with
      | true=>some (.leaf (.ret c.u h))
      | false=>lookCF f vs h r)
    | false=>lookCF f vs h r
def tabA (l:List CF):Ans:=fun t=>match t with
  | .call f vs h=>lookCF f vs.toList h l
  | _=>none
inductive CFs (P:Program):List CF→Prop
  | nil:CFs P []
  | cons {c:CF} {l:List CF} (h:c.Ok P) (r:CFs P l):CFs P (c::l)
theorem lookCF_ok {P:Program}{f:Nat}{vs:List Value}{h:Hp}:∀{l:List CF},CFs P l→∀{x:AT}{o:Out},lookCF f vs h l=some x→x.out=some o→Fact P (.call f ⟨vs⟩ h) o
  | [],_,x,o,hx,_=>by cases hx
  | c::r,hl,x,o,hx,ho=>by
    cases hl with
    | cons hc hr =>
      unfold lookCF at hx
      split at hx
      · rename_i hf
        split at hx
        · rename_i ha
          simp only [Option.some.injEq]at hx
          subst hx
          simp only [AT.out,Option.some.injEq]at ho
          subst ho
          rw [Nat.eq_of_beq_eq_true hf,eqLs_eq (fun _ _ h=>eqVn_eq h) ha]
          exact hc h
        · exact lookCF_ok hr hx ho
      · exact lookCF_ok hr hx ho
theorem tabA_ok {P:Program}{l:List CF}(hl:CFs P l):Known P (tabA l):=by
  intro t x o h ho
  unfold tabA at h
  split at h
  · rename_i f vs hh
    exact lookCF_ok hl h ho
  · cases h
def frDs (f:Value→Option Value):List Value→Option (List Value)
  | []=>some []
  | v::r=>match f v with
    | some u=>(match frDs f r with
      | some l=>some (u::l)
      | none=>none)
    | none=>none
def frC (f:Value→Option Value)(v:Value):Option Value:=match v with
  | .slice none 0 0=>some (lstV ⟨[]⟩ 0 0 1)
  | v=>f v
def frD (bl:List Ob):Nat→Value→Option Value
  | 0,_=>none
  | n+1,v=>match v with
    | .slice (some ⟨b,off,none⟩) len sz=>(match nthO bl b with
      | some (.cells c false)=>(match frDs (frC (frD bl n)) c.toList with
        | some l=>if off+len*sz≤c.size then some (lstV ⟨l⟩ off len sz) else none
        | none=>none)
      | _=>none)
    | .pointer (some ⟨b,off,none⟩)=>(match nthO bl b with
      | some (.cells c false)=>(match frDs (frC (frD bl n)) c.toList with
        | some l=>some (dptV ⟨l⟩ off)
        | none=>none)
      | _=>none)
    | .agg ⟨l⟩=>(match frDs (frD bl n) l with
      | some l=>some (.agg ⟨l⟩)
      | none=>none)
    | .iface t v=>(match frD bl n v with
      | some v=>some (.iface t v)
      | none=>none)
    | .func (.func g) ⟨l⟩ ⟨m⟩=>(match frDs (frD bl n) l,frDs (frD bl n) m with
      | some l,some m=>some (.func (.func g) ⟨l⟩ ⟨m⟩)
      | _,_=>none)
    | v=>if fz0 v then some v else none
def frDV (bl:List Ob)(v:Value):Option Value:=match v with
  | .tuple ⟨x::l⟩=>(match frDs (frD bl 8) (x::l) with
    | some l=>some (.tuple ⟨l⟩)
    | none=>none)
  | v=>frD bl 8 v
def frDK:Kn
  | .ret v h=>(match frDV h.bl v with
    | some v=>some (.ret v ⟨[],0,[]⟩)
    | none=>none)
  | _=>none
section
variable {K:Nat→Prop}{w0 w:World} {φ:Phi}{X:List Ob}{z:Nat→Option Obj}
theorem frDs_ok {f:Value→Option Value}(hf:∀v u v',f v=some u→VR φ v v'→FR z u v'):∀{l us l':List Value},frDs f l=some us→VRl φ l l'→FRl z us l'
  | [],us,_,h,hv=>by
    cases hv
    simp only [frDs,Option.some.injEq]at h
    subst h;exact .nil
  | v::r,us,_,h,hv=>by
    cases hv with
    | cons h1 h2 =>
      simp only [frDs]at h
      split at h
      · rename_i u hu
        split at h
        · rename_i l hl
          simp only [Option.some.injEq]at h
          subst h
          exact .cons (hf _ _ _ hu h1) (frDs_ok hf hl h2)
        · cases h
      · cases h
theorem FRl.fn {z:Nat→Option Obj} {l l' m m':List Value}(g:FuncId) (h:FRl z l l') (h2:FRl z m m'):FR z (.func (.func g) ⟨l⟩ ⟨m⟩) (.func (.func g) ⟨l'⟩ ⟨m'⟩):=by
  have hh:∀{us ys:List Value},FRl z us ys→(⟨us⟩:Array Value).size=(⟨ys⟩:Array Value).size∧∀i,i<(⟨us⟩:Array Value).size→FR z ((⟨us⟩:Array Value).getD i undef) ((⟨ys⟩:Array Value).getD i undef):=by
    intro us ys hf
    refine ⟨by simpa using hf.agg.1,fun i hi=>?_⟩
    rcases hf.agg.2 i with h5 | h5
    · exact h5
    · simp at hi;omega
  exact .fn (hh h).1 (hh h).2 (hh h2).1 (hh h2).2
theorem cells_frl {c C:Array Value}{base:Nat}(hC:base+c.size≤C.size) (h2:∀(i:Nat) (v:Value),c[i]?=some v→∃v',C[base+i]?=some v'∧VR φ v v'):VRl φ c.toList ((C.toList.drop base).take c.size):=by
  have key:∀(l:List Value) (m:List Value),l.length=m.length→(∀(i:Nat) (v:Value),l[i]?=some v→∃v',m[i]?=some v'∧VR φ v v')→VRl φ l m:=by
    intro l
    induction l with
    | nil=>intro m hl _;cases m with
      | nil=>exact .nil
      | cons _ _=>simp at hl
    | cons x r ih=>intro m hl hh;cases m with
      | nil=>simp at hl
      | cons y s =>
        refine .cons ?_ (ih s (by simpa using hl) fun i v hv=>by simpa using hh (i+1) v (by simpa using hv))
        obtain ⟨v',h3,h4⟩:=hh 0 x rfl
        simp only [List.getElem?_cons_zero,Option.some.injEq]at h3
        rw [h3];exact h4
  refine key _ _ (by simp;omega) fun i v hv=>?_
  have hv2:c[i]?=some v:=by rw [← Array.getElem?_toList];exact hv
  obtain ⟨v',h3,h4⟩:=h2 i v hv2
  refine ⟨v',?_,h4⟩
  have hi:i<c.size:=by rw [Array.getElem?_eq_some_iff]at hv2;exact hv2.1
  rw [List.getElem?_take,if_pos hi,List.getElem?_drop,Array.getElem?_toList]
  exact h3
theorem FRl.cells {l:List Value}{C:Array Value}{base n:Nat}(h:FRl z l ((C.toList.drop base).take n)) (hC:base+n≤C.size):l.length=n∧∀i,i<(⟨l⟩:Array Value).size→FR z ((⟨l⟩:Array Value).getD i undef) (C.getD (base+i) undef):=by
  have hn:l.length=n:=by rw [h.agg.1];simp;omega
  refine ⟨hn,fun i hi=>?_⟩
  have hi':i<n:=by simpa [hn] using hi
  rcases h.agg.2 i with h1 | h1
  · have e:(⟨(C.toList.drop base).take n⟩:Array Value).getD i undef=C.getD (base+i) undef:=by
      rw [Array.getD_eq_getD_getElem?,Array.getD_eq_getD_getElem?]
      have:(⟨(C.toList.drop base).take n⟩:Array Value)[i]?=C[base+i]?:=by
        rw [← Array.getElem?_toList,List.getElem?_take,if_pos hi',List.getElem?_drop,Array.getElem?_toList]
      rw [this]
    rw [← e];exact h1
  · omega
theorem frC_ok {f:Value→Option Value}(hf:∀v u v',f v=some u→VR φ v v'→FR z u v'):∀v u v',frC f v=some u→VR φ v v'→FR z u v':=by
  intro v u v' h hv
  unfold frC at h
  split at h
  · cases h;cases hv;exact .lstZ _ _ _ _
  · exact hf _ _ _ h hv
theorem frD_ok (h:Made 0 z φ X w):∀{n:Nat} {v u v':Value},frD X n v=some u→VR φ v v'→FR z u v'
  | 0,_,_,_,hk,_=>by cases hk
  | n+1,v,u,v',hk,hv=>by
    have ih:∀v u v',frD X n v=some u→VR φ v v'→FR z u v':=fun v u v' h1 h2=>frD_ok h h1 h2
    unfold frD at hk
    split at hk
    · rename_i b off len sz
      rw [nthO_eq]at hk
      split at hk
      · rename_i c hb
        split at hk
        · rename_i l hl
          split at hk
          · rename_i hle
            simp only [Option.some.injEq]at hk
            subst hk
            obtain ⟨B,base,tot,C,el,fr,h3,hz,h8,h6⟩:=h.obs b _ hb (Nat.zero_le _)
            cases hv with
            | sliceZ _ a' k'=>exact .lstZ _ _ _ _
            | slice hφ hl1 hc =>
              rw [h3]at hφ;cases hφ
              obtain ⟨k1,k2⟩:=(frDs_ok (frC_ok ih) hl (cells_frl h8 h6)).cells h8
              exact .lst hz (by simpa [k1] using h8) k2 hl1 (by simpa [k1] using hle)
          · cases hk
        · cases hk
      · cases hk
    · rename_i b off
      rw [nthO_eq]at hk
      split at hk
      · rename_i c hb
        split at hk
        · rename_i l hl
          simp only [Option.some.injEq]at hk
          subst hk
          obtain ⟨B,base,tot,C,el,fr,h3,hz,h8,h6⟩:=h.obs b _ hb (Nat.zero_le _)
          cases hv with
          | ptr hφ =>
            rw [h3]at hφ;cases hφ
            obtain ⟨k1,k2⟩:=(frDs_ok (frC_ok ih) hl (cells_frl h8 h6)).cells h8
            exact .dpt hz (by simpa [k1] using h8) k2
        · cases hk
      · cases hk
    · rename_i l
      split at hk
      · rename_i us hl
        simp only [Option.some.injEq]at hk
        subst hk
        obtain ⟨⟨ys⟩,rfl,hs⟩:=hv.agg_inv
        exact (frDs_ok ih hl hs.toList).fr
      · cases hk
    · rename_i t x
      split at hk
      · rename_i y hy
        simp only [Option.some.injEq]at hk
        subst hk
        cases hv with
        | iface _ hv=>exact .iface _ (ih _ _ _ hy hv)
      · cases hk
    · rename_i g l m
      split at hk
      · rename_i us ws hl hm
        simp only [Option.some.injEq]at hk
        subst hk
        cases hv with
        | @fn _ _ first' _ cap' hg h1 h2 h3 h4 =>
          obtain ⟨first'⟩:=first'
          obtain ⟨cap'⟩:=cap'
          exact FRl.fn g (frDs_ok ih hl (VRs.toList (VRs.of h1 h2))) (frDs_ok ih hm (VRs.toList (VRs.of h3 h4)))
      · cases hk
    · split at hk
      · rename_i hf
        simp only [Option.some.injEq]at hk
        subst hk
        exact fz0_fr h hf hv
      · cases hk
theorem FRl.vrl {ψ:Phi} {l l':List Value}(h:FRl ψ.z l l'):VRl ψ l l':=by
  induction h with
  | nil=>exact .nil
  | cons h _ ih=>exact .cons h.vr ih
theorem frDV_ok {ψ:Phi}(h:Made 0 ψ.z φ X w) {v u v':Value}(hk:frDV X v=some u) (hv:VR φ v v'):VR ψ u v':=by
  unfold frDV at hk
  split at hk
  · rename_i x l
    split at hk
    · rename_i us hl
      simp only [Option.some.injEq]at hk
      subst hk
      obtain ⟨⟨ys⟩,rfl,hs⟩:=hv.tuple_inv rfl
      exact (frDs_ok (fun _ _ _ h1 h2=>frD_ok h h1 h2) hl hs.toList).vrl.vrs.tuple
    · cases hk
  · exact (frD_ok h hk hv).vr
end
section
variable {P:Program}
theorem Fact.liftD {f:FuncId}{args:Array Value}{v u:Value}{h1:Hp}(hf:Fact P (.call f args ⟨[],0,[]⟩) (.ret v h1)) (hfz:frDV h1.bl v=some u)
    (ha:args.toList.all pureA=true) (h:Hp):Fact P (.call f args h) (.ret u h):=by
  obtain ⟨_,hh⟩:=hf.1 (Nat.le_refl _)
  refine ⟨fun hb=>⟨Pres.refl _,?_⟩,trivial⟩
  intro K w0 φ w args' n hI hA
  have hI':Inv K w0 φ ([]++h.bl) w:=hI
  have hN:=hI'.narrow (H0:=[]) (fun b ob h=>by simp at h)
  have hA1:VRs (cut φ ([]:List Ob).length) args args':=VRs.of hA.size fun i hi=>scT_cut (all_getD (p:=pureA) ha hi) (hA.getD i)
  refine (hh _ w _ w args' n hN hA1).mono ?_
  intro e w' he
  cases e with
  | returned v' =>
    obtain ⟨φ',hle,hv',hF⟩:=he
    have hZ:=hF.freeze (H1:=[]) (k:=0) (fun b ob h=>by simp at h)
    have k1:=frDV_ok (ψ:=⟨fun b=>if b<([]:List Ob).length+0 then φ' b else none,zF φ' h1.bl 0 w'⟩) (zF_made hF 0) hfz hv'
    have hle2:le (cut φ ([]:List Ob).length) ⟨fun b=>if b<([]:List Ob).length+0 then φ' b else none,zF φ' h1.bl 0 w'⟩:=by
      refine ⟨fun b x hx=>?_,fun B o hB=>(zF_made hF 0).le B o (hle.zz B o hB)⟩
      rw [cut_ge (show ([]:List Ob).length≤b from Nat.zero_le b)]at hx;cases hx
    obtain ⟨φ'',q1,q2,q3⟩:=hI'.widen (H1:=[]) (X:=[]) hZ hle2 .nil
    refine ⟨φ'',q1,?_,q3⟩
    have hc:cut ⟨fun b=>if b<([]:List Ob).length+0 then φ' b else none,zF φ' h1.bl ([]:List Ob).length w'⟩ ([]:List Ob).length=⟨fun b=>if b<([]:List Ob).length+0 then φ' b else none,zF φ' h1.bl 0 w'⟩:=by
      unfold cut
      simp
    rw [hc]at q2
    exact k1.mono q2
  | panicked ch=>exact he.elim
  | outgrown=>exact he.elim
end
def hasApp (os:Array Oper):Bool:=os.toList.any fun o=>match o.op with
  | .call { callee:=.builtin b,.. }=>(match b with | .append | .copy=>true | _=>false)
  | _=>false
def forceK (k:Kn):Kn:=fun o=>match o with
  | .ex e s=>forceE s.h.bl fun bl=>k (.ex e ⟨s.t,s.d,⟨bl,s.h.base,s.h.wr⟩⟩)
  | o=>k o
theorem forceK_eq (k:Kn):forceK k=k:=by
  funext o
  cases o with
  | ex e s=>simp only [forceK,forceE_eq]
  | _=>rfl
def catL:List Value→Nat→Nat→List Value→List Value
  | [],_,_,m=>m
  | x::r,off,n,m=>match off with
    | o+1=>catL r o n m
    | 0=>(match n with
      | k+1=>x::catL r 0 k m
      | 0=>m)
theorem catL_eq:∀(l:List Value) (off n:Nat) (m:List Value),catL l off n m=(l.drop off).take n++m
  | [],off,n,m=>by simp [catL]
  | x::r,0,0,m=>by simp [catL]
  | x::r,0,k+1,m=>by simp [catL,catL_eq r 0 k m]
  | x::r,o+1,n,m=>by simp [catL,catL_eq r o n m]
theorem catA_eq (c:Array Value)(off n:Nat)(m:Array Value):(⟨catL c.toList off n m.toList⟩:Array Value)=c.extract off (off+n)++m:=by
  apply Array.ext'
  rw [catL_eq,Array.toList_append,Array.toList_extract,List.extract]
  simp
def appendZ (P:Program)(h:Hp)(ts tx:TypeId)(s x:Value)(k:Value→Hp→Option Out):Option Out :=
  match P.underlying ts,P.underlying tx with
  | some (.slice e),some d =>
    if intB d=true then none else
    match P.info? e,zeroB P e with
    | some inf,some z =>
      natF inf.size fun isz=>natF inf.bytes fun iby =>
      match s,lenB x with
      | .slice base sl sz,some n =>
        natF n fun n =>
        cond (decide (n=0)) (k (.slice base sl sz) h)
        (newC h.bl isz n x fun news =>
          cond (decide (news.size=n*isz)&&(oneAll news&&decide (z.cells.size=isz))) (cond (decide ((sl+n)*iby≤140737488355328)&&decide (sl+n≤4611686018427387904))
            (match base with
            | none=>cond (decide (sl=0)) (k (.slice (some ⟨h.bl.length,0,none⟩) n isz) (h.push (.cells news false))) none
            | some ⟨b,off,none⟩ =>
              match nthO h.bl b with
              | some (.cells c false) =>
                cond (decide (sz=isz)) (cond (decide (off+sl*isz≤c.size))
                  (k (.slice (some ⟨h.bl.length,0,none⟩) (sl+n) isz) ((h.put b .dead).push (.cells ⟨catL c.toList off (sl*isz) news.toList⟩ false))) none) none
              | _=>none
            | _=>none) none) none)
      | _,_=>none
    | _,_=>none
  | _,_=>none
theorem appendZ_eq:appendZ=appendC:=by
  funext P h ts tx s x k
  simp only [appendZ,appendC,catA_eq]
  rfl
def loudZ (P:Program) (ρ:Operand→Value)(h:Hp)(o:Oper)(k:Ends):Option Out :=
  match o.op with
  | .call { callee:=.builtin .append,args,argTypes } =>
    match args.toList,argTypes.toList with
    | [s,x],[ts,tx]=>if okO s&&okO x then appendZ P h ts tx (ρ s) (ρ x) k.val else none
    | _,_=>none
  | _=>loudC P ρ h o k
theorem loudZ_eq:loudZ=loudC:=by
  funext P ρ h o k
  unfold loudZ
  split
  · rename_i args ts ho
    unfold loudC
    simp only [ho,appendZ_eq]
    rfl
  · rfl
def opDZ (P:Program)(self:SelfC)(T:List Value)(h:Hp)(o:Oper)(k:Value→Hp→Bool→Option Out):Option Out :=
  match o.op with
  | .pick c a b=>if okO c&&okO a&&okO b then (match evalT T c with | .bool t=>cond t (k (evalT T a) h false) (k (evalT T b) h false) | _=>none) else none
  | _ =>
    match symR P (evalT T) h.bl o with
    | some (b,v)=>cond b (k v h false) none
    | none=>match aread P (evalT T) h.bl o with
      | some v=>k v h false
      | none=>loudZ P (evalT T) h o {
        val:=fun v h'=>heapK h' fun h'=>k v h' true
        enter:=fun f args=>headsK args fun args=>self (.call f ⟨args⟩ h) fun | .ret v h'=>k v h' true | _=>none
        yield:=fun l args=>headsK args fun args=>self (.round l ⟨args⟩ h) fun | .ret v h'=>k v h' true | _=>none
        defer:=fun _=>none
        panic:=fun _=>none }
theorem opDZ_eq:opDZ=opD:=by
  funext P self T h o k
  simp only [opDZ,loudZ_eq]
  rfl
def drunZ (P:Program)(self:SelfC)(os:Array Oper):List Nat→List Value→Hp→(List Rec→List Value→Hp→Option Out)→Option Out
  | [],T,h,k=>k [] T h
  | i::r,T,h,k =>
    match os[i]? with
    | none=>none
    | some o =>
      guardC os o T
        (fun T=>opDZ P self T h o fun v h' loud=>headK v fun v=>setK' T o.dst v fun T'=>drunZ P self os r T' h' fun l T2 h2=>k (⟨i,o,T,v,h,h',loud⟩::l) T2 h2)
        (fun T=>setK' T o.dst undef fun T'=>drunZ P self os r T' h fun l T2 h2=>k (⟨i,o,T,undef,h,h,false⟩::l) T2 h2)
theorem drunZ_eq (P:Program)(self:SelfC)(os:Array Oper):∀l,drunZ P self os l=drunC P self os l
  | []=>rfl
  | i::r=>by
    funext T h k
    simp only [drunZ,drunC,drunZ_eq P self os r,opDZ_eq]
    rfl
def drawnFZ (P:Program)(self:SelfC)(os:Array Oper)(s:St)(k:Ex→St→Option Out):Option Out :=
  if planOk os (late os) (mkClo os (late os) (List.replicate os.size 0)) then
    drunZ P self os (late os) s.t s.h fun recs T h =>
      if floatOk (mkClo os (late os) (List.replicate os.size 0)) [] recs&&recs.all fun r=>!(r.loud&&isAl r.o)||r.o.dst.all fun t=>decide (t<s.t.length) then
        fchkC P os (mkClo os (late os) (List.replicate os.size 0)) recs (k .normal { t:=T,d:=s.d,h:=h })
      else none
  else none
def drawnNZ (P:Program)(self:SelfC)(os:Array Oper)(s:St)(k:Ex→St→Option Out):Option Out :=
  if planOk os (Region.linearise .any os 0) (mkClo os (Region.linearise .any os 0) (List.replicate os.size 0)) then
    drunZ P self os (Region.linearise .any os 0) s.t s.h fun recs T h =>
      chkC P os (mkClo os (Region.linearise .any os 0) (List.replicate os.size 0)) recs (k .normal { t:=T,d:=s.d,h:=h })
  else none
def drawnXZ (P:Program)(self:SelfC)(os:Array Oper)(s:St)(k:Ex→St→Option Out):Option Out :=
  match floaty os (mkClo os (Region.linearise .any os 0) (List.replicate os.size 0)) with
  | true=>drawnFZ P self os s k
  | false=>drawnNZ P self os s k
theorem drawnXZ_eq:drawnXZ=drawnXC:=by
  funext P self os s k
  simp only [drawnXZ,drawnXC,drawnFZ,drawnFC,drawnNZ,drawnC,drunZ_eq]
  rfl
def opZ (P:Program) (ρ:Operand→Value)(h:Hp)(o:Oper)(k:Ends):Option Out :=
  match o.op with
  | .pick c a b=>if okO c&&okO a&&okO b then (match ρ c with | .bool t=>cond t (k.val (ρ a) h) (k.val (ρ b) h) | _=>none) else none
  | _ =>
    match symR P ρ h.bl o with
    | some (b,v)=>cond b (k.val v h) none
    | none=>match aread P ρ h.bl o with
      | some v=>k.val v h
      | none=>loudZ P ρ h o k.heap
theorem opZ_eq:opZ=opC:=by
  funext P ρ h o k
  simp only [opZ,loudZ_eq]
  rfl
def runOpsZ (P:Program)(self:SelfC)(rd:Option Nat)(os:Array Oper):List Nat→St→(Ex→St→Option Out)→Option Out
  | [],s,k=>k .normal s
  | i::r,s,k =>
    match os[i]? with
    | none=>runOpsZ P self rd os r s k
    | some o =>
      guardC os o s.t
        (fun t=>opZ P (evalT t) s.h o {
          val:=fun v h=>setK' t o.dst v fun t=>runOpsZ P self rd os r { t:=t,d:=s.d,h:=h } k
          enter:=fun f args=>headsK args fun args=>self (.call f ⟨args⟩ s.h) fun
            | .ret v h=>setK' t o.dst v fun t=>runOpsZ P self rd os r { t:=t,d:=s.d,h:=h } k
            | .pan v h=>k (.panic v) { t:=t,d:=s.d,h:=h }
            | _=>none
          yield:=fun l args=>headsK args fun args=>self (.round l ⟨args⟩ s.h) fun
            | .ret v h=>setK' t o.dst v fun t=>runOpsZ P self rd os r { t:=t,d:=s.d,h:=h } k
            | _=>none
          defer:=fun d=>if rd.isNone then setK' t o.dst undef fun t=>runOpsZ P self rd os r { t:=t,d:=d::s.d,h:=s.h } k else none
          panic:=fun v=>k (.panic v) { t:=t,d:=s.d,h:=s.h } })
        (fun t=>setK' t o.dst undef fun t=>runOpsZ P self rd os r { t:=t,d:=s.d,h:=s.h } k)
theorem runOpsZ_eq (P:Program)(self:SelfC)(rd:Option Nat)(os:Array Oper):∀l,runOpsZ P self rd os l=runOpsC P self rd os l
  | []=>rfl
  | i::r=>by
    funext s k
    simp only [runOpsZ,runOpsC,runOpsZ_eq P self rd os r,opZ_eq]
    rfl
def drawnWZ (P:Program)(self:SelfC)(rd:Option Nat)(os:Array Oper)(s:St)(k:Ex→St→Option Out):Option Out :=
  match waits os (os.size-1)&&Nat.blt 0 os.size with
  | true=>drawnXZ P self os.pop s fun e s'=>(match e with
    | .normal=>runOpsZ P self rd os [os.size-1] s' k
    | _=>none)
  | false=>drawnXZ P self os s k
theorem drawnWZ_ok {P:Program}{self:SelfC}{sd:Self}(hs:CpsOk self sd) {rd:Option Nat}{id:Nat}{os:Array Oper}{s:St}{k:Ex→St→Option Out}{r:Out}(hc:drawnWZ P self rd os s k=some r) :
    ∃e s',drawnW P sd rd id os s=some (.ex e s')∧k e s'=some r:=by
  unfold drawnWZ at hc
  unfold drawnW
  by_cases hw:(waits os (os.size-1)&&Nat.blt 0 os.size)=true
  · rw [hw]at hc ⊢
    simp only [drawnXZ_eq]at hc
    obtain ⟨e,s',h1,h2⟩:=drawnXC_ok (rd:=rd) (id:=id) hs hc
    simp only [h1]
    cases e with
    | normal =>
      simp only at h2 ⊢
      rw [runOpsZ_eq]at h2
      exact runOpsC_ok hs h2
    | _=>cases h2
  · rw [Bool.eq_false_iff.2 hw]at hc ⊢
    simp only [drawnXZ_eq]at hc
    exact drawnXC_ok hs hc
def stepZ (P:Program)(self:SelfC):SelfC:=fun t k=>match t with
  | .code rd (.region id os dr) s=>(match dr with
    | true=>drawnWZ P self rd os s fun e s'=>(match hasApp os with
      | true=>forceK k (.ex e s')
      | false=>k (.ex e s'))
    | false=>(match hasApp os with
      | true=>runOpsZ P self rd os (List.range os.size) s fun e s'=>forceK k (.ex e s')
      | false=>stepC P self (.code rd (.region id os false) s) k))
  | t=>stepC P self t k
theorem stepF_drawn {P:Program}{sd:Self}{t:Task}{d1 d2:Program→Self→Option Nat→Nat→Array Oper→St→Option Out}(h:∀rd id os s,t≠.code rd (.region id os true) s):stepF d1 P sd t=stepF d2 P sd t:=by
  cases t with
  | code rd c s =>
    cases c with
    | region id os dr =>
      cases dr with
      | true=>exact (h rd id os s rfl).elim
      | false=>rfl
    | _=>rfl
  | _=>rfl
theorem stepZ_ok {P:Program}{self:SelfC}{sd:Self}(hs:CpsOk self sd):CpsOk (stepZ P self) (stepF drawnW P sd):=by
  intro t k r hc
  unfold stepZ at hc
  split at hc
  · rename_i rd id os dr s
    cases dr with
    | true =>
      simp only at hc
      obtain ⟨e,s',h1,h2⟩:=drawnWZ_ok (id:=id) hs hc
      refine ⟨.ex e s',by simpa only [stepF,if_true] using h1,?_⟩
      split at h2
      · rw [forceK_eq]at h2;exact h2
      · exact h2
    | false =>
      simp only at hc
      split at hc
      · rw [runOpsZ_eq,forceK_eq]at hc
        obtain ⟨o,h1,h2⟩:=stepC_ok hs (.code rd (.region id os false) s) k r hc
        exact ⟨o,(stepF_drawn (fun _ _ _ _ h=>by cases h)).trans h1,h2⟩
      · obtain ⟨o,h1,h2⟩:=stepC_ok hs (.code rd (.region id os false) s) k r hc
        exact ⟨o,(stepF_drawn (fun _ _ _ _ h=>by cases h)).trans h1,h2⟩
  · rename_i hn
    obtain ⟨o,h1,h2⟩:=stepC_ok hs _ k r hc
    exact ⟨o,(stepF_drawn (fun rd id os s h=>hn rd id os true s h)).trans h1,h2⟩
def evZ (P:Program)(oc:Task→Kn→Option (Option Out)):Nat→SelfC
  | 0,_,_=>none
  | n+1,t,k=>match oc t k with
    | some r=>r
    | none=>stepZ P (evZ P oc n) t k
theorem evZ_ok {P:Program}{oc:Task→Kn→Option (Option Out)}{orc:Self}(ho:OcOk oc orc):∀n,CpsOk (evZ P oc n) (iterO orc drawnW P n)
  | 0=>fun _ _ _ h=>by cases h
  | n+1=>by
    intro t k r h
    simp only [evZ]at h
    simp only [iterO]
    split at h
    · rename_i r' hr
      subst h
      obtain ⟨o,h1,h2⟩:=ho.1 _ _ _ hr
      rw [h1];exact ⟨_,rfl,h2⟩
    · rename_i hr
      rw [ho.2 _ _ hr]
      exact stepZ_ok (evZ_ok ho n) t k r h
theorem Known.factZ {P:Program}(hN:NoNG P) (hm:P.follows .mixedOrders=true) {a:Ans}(hk:Known P a) {n:Nat}{t:Task}{k:Kn}{r:Out}(h:evZ P a.c n t k=some r):∃o,k o=some r∧Fact P t o:=by
  obtain ⟨o',h1,h2⟩:=evZ_ok (P:=P) a.oc n t k r h
  have hh:=iterO_ok (drawn:=drawnW) hN (drawnW_ok hN hm) hk.selfOk hk.loopOk n
  refine ⟨o',h2,hh.1 _ _ h1,?_⟩
  unfold LoopFact
  split
  · exact fun hb=>hh.2 _ _ _ _ _ h1 hb
  · trivial
def CF.chk (P:Program)(l:List CF)(n:Nat)(c:CF):Bool:=match evZ P (tabA l).c n (.call c.g ⟨c.args⟩ ⟨[],0,[]⟩) frDK with
  | some (.ret u ⟨[],0,[]⟩)=>(match eqVn 12 u c.u with
    | true=>c.args.all pureA
    | false=>false)
  | _=>false
section
variable {P:Program}(hN:NoNG P) (hm:P.follows .mixedOrders=true)
include hN hm
theorem CF.of2 {l:List CF}(hl:CFs P l) (n:Nat) {c:CF}(h:c.chk P l n=true):c.Ok P:=by
  unfold CF.chk at h
  split at h
  · rename_i u he
    split at h
    · rename_i hu
      have e:=eqVn_eq hu
      subst e
      intro hp
      obtain ⟨o,h3,hf⟩:=(tabA_ok hl).factZ hN hm he
      cases o with
      | ret v h' =>
        simp only [frDK]at h3
        split at h3
        · rename_i u hu
          simp only [Option.some.injEq,Out.ret.injEq,and_true]at h3
          subst h3
          exact hf.liftD hu h hp
        · cases h3
      | _=>cases h3
    · cases h
  · cases h
end
end
end Go.Gi
namespace Go.Proofs.Ytoojllndfjamgaa
open Go.Gi Go.RowKit
noncomputable section
set_option maxRecDepth 100000
set_option maxHeartbeats 4000000
def wAwake0:Array Value:=⟨[.string ⟨⟨[65]⟩⟩,vI 1,vI 2,lstV ⟨[.string ⟨⟨[97]⟩⟩,vI 0,vI 2,vI 0,.string ⟨⟨[98]⟩⟩,vI 0,vI 2,vI 1]⟩ 0 2 4]⟩
def wAwake1:Array Value:=⟨[.int .u8 (.ofNat 65),.int .u8 (.ofNat 1),.int .u8 (.ofNat 1),.int .u8 (.ofNat 2),.int .u8 (.ofNat 184),.int .u8 (.ofNat 171)]⟩
def KAwake0:CF:=⟨56,[],.agg wAwake0⟩
theorem kAwake0:KAwake0.Ok Try.prog:=CF.of2 noNG mixed (l:=[]) .nil 3000 (by kernel_rfl)
def KAwake1:CF:=⟨42,[vI 1,vI 1,vI 4],vT⟩
theorem kAwake1:KAwake1.Ok Try.prog:=CF.of2 noNG mixed (l:=[]) .nil 3000 (by kernel_rfl)
def KAwake2:CF:=⟨42,[vI 1,vI 1,vI 32],vT⟩
theorem kAwake2:KAwake2.Ok Try.prog:=CF.of2 noNG mixed (l:=[]) .nil 3000 (by kernel_rfl)
def KAwake3:CF:=⟨101,[.int .u8 (.ofNat 97)],vT⟩
theorem kAwake3:KAwake3.Ok Try.prog:=CF.of2 noNG mixed (l:=[]) .nil 3000 (by kernel_rfl)
def KAwake4:CF:=⟨79,[.string ⟨⟨[97]⟩⟩],vT⟩
theorem kAwake4:KAwake4.Ok Try.prog:=CF.of2 noNG mixed (l:=[KAwake3]) (.cons kAwake3 .nil) 3000 (by kernel_rfl)
def KAwake5:CF:=⟨42,[vI 0,vI 0,vI 0],vT⟩
theorem kAwake5:KAwake5.Ok Try.prog:=CF.of2 noNG mixed (l:=[]) .nil 3000 (by kernel_rfl)
def KAwake6:CF:=⟨82,[vI 2,vI 2],vT⟩
theorem kAwake6:KAwake6.Ok Try.prog:=CF.of2 noNG mixed (l:=[]) .nil 3000 (by kernel_rfl)
def KAwake7:CF:=⟨42,[vI 0,vI 0,vI 1],vT⟩
theorem kAwake7:KAwake7.Ok Try.prog:=CF.of2 noNG mixed (l:=[]) .nil 3000 (by kernel_rfl)
def KAwake8:CF:=⟨44,[.agg wAwake0,.agg ⟨[.string ⟨⟨[97]⟩⟩,vI 0,vI 2,vI 0]⟩,lstV ⟨[.string ⟨⟨[97]⟩⟩,vI 0,vI 2,vI 0,.string ⟨⟨[98]⟩⟩,vI 0,vI 2,vI 1]⟩ 0 0 4],vI 0⟩
theorem kAwake8:KAwake8.Ok Try.prog:=CF.of2 noNG mixed (l:=[KAwake4,KAwake5,KAwake6,KAwake7]) (.cons kAwake4 (.cons kAwake5 (.cons kAwake6 (.cons kAwake7 .nil)))) 3000 (by kernel_rfl)
def KAwake9:CF:=⟨101,[.int .u8 (.ofNat 98)],vT⟩
theorem kAwake9:KAwake9.Ok Try.prog:=CF.of2 noNG mixed (l:=[]) .nil 3000 (by kernel_rfl)
def KAwake10:CF:=⟨79,[.string ⟨⟨[98]⟩⟩],vT⟩
theorem kAwake10:KAwake10.Ok Try.prog:=CF.of2 noNG mixed (l:=[KAwake9]) (.cons kAwake9 .nil) 3000 (by kernel_rfl)
def KAwake11:CF:=⟨42,[vI 1,vI 0,vI 1],vT⟩
theorem kAwake11:KAwake11.Ok Try.prog:=CF.of2 noNG mixed (l:=[]) .nil 3000 (by kernel_rfl)
def KAwake12:CF:=⟨84,[.agg ⟨[.string ⟨⟨[97]⟩⟩,vI 0,vI 2,vI 0]⟩,.agg ⟨[.string ⟨⟨[98]⟩⟩,vI 0,vI 2,vI 1]⟩],vF⟩
theorem kAwake12:KAwake12.Ok Try.prog:=CF.of2 noNG mixed (l:=[]) .nil 3000 (by kernel_rfl)
def KAwake13:CF:=⟨44,[.agg wAwake0,.agg ⟨[.string ⟨⟨[98]⟩⟩,vI 0,vI 2,vI 1]⟩,lstV ⟨[.string ⟨⟨[97]⟩⟩,vI 0,vI 2,vI 0,.string ⟨⟨[98]⟩⟩,vI 0,vI 2,vI 1]⟩ 0 1 4],vI 0⟩
theorem kAwake13:KAwake13.Ok Try.prog:=CF.of2 noNG mixed (l:=[KAwake5,KAwake6,KAwake10,KAwake11,KAwake12]) (.cons kAwake5 (.cons kAwake6 (.cons kAwake10 (.cons kAwake11 (.cons kAwake12 .nil))))) 3000 (by kernel_rfl)
def KAwake14:CF:=⟨15,[.agg wAwake0],.tuple ⟨[vI 0,vI 0,vI 0]⟩⟩
theorem kAwake14:KAwake14.Ok Try.prog:=CF.of2 noNG mixed (l:=[KAwake8,KAwake1,KAwake2,KAwake13]) (.cons kAwake8 (.cons kAwake1 (.cons kAwake2 (.cons kAwake13 .nil)))) 3000 (by kernel_rfl)
def KAwake15:CF:=⟨42,[vI 1,vI 0,vI 1000000],vT⟩
theorem kAwake15:KAwake15.Ok Try.prog:=CF.of2 noNG mixed (l:=[]) .nil 3000 (by kernel_rfl)
def KAwake16:CF:=⟨87,[vI 1],vT⟩
theorem kAwake16:KAwake16.Ok Try.prog:=CF.of2 noNG mixed (l:=[KAwake15]) (.cons kAwake15 .nil) 3000 (by kernel_rfl)
def KAwake17:CF:=⟨42,[vI 258,vI 0,vI 65535],vT⟩
theorem kAwake17:KAwake17.Ok Try.prog:=CF.of2 noNG mixed (l:=[]) .nil 3000 (by kernel_rfl)
def KAwake18:CF:=⟨89,[vI 258],vT⟩
theorem kAwake18:KAwake18.Ok Try.prog:=CF.of2 noNG mixed (l:=[KAwake17]) (.cons kAwake17 .nil) 3000 (by kernel_rfl)
def KAwake19:CF:=⟨58,[.int .u16 (.ofNat 65535),.int .u8 (.ofNat 65)],.int .u16 (.ofNat 47381)⟩
theorem kAwake19:KAwake19.Ok Try.prog:=CF.of2 noNG mixed (l:=[]) .nil 3000 (by kernel_rfl)
def KAwake20:CF:=⟨58,[.int .u16 (.ofNat 47381),.int .u8 (.ofNat 1)],.int .u16 (.ofNat 13267)⟩
theorem kAwake20:KAwake20.Ok Try.prog:=CF.of2 noNG mixed (l:=[]) .nil 3000 (by kernel_rfl)
def KAwake21:CF:=⟨58,[.int .u16 (.ofNat 13267),.int .u8 (.ofNat 1)],.int .u16 (.ofNat 50449)⟩
theorem kAwake21:KAwake21.Ok Try.prog:=CF.of2 noNG mixed (l:=[]) .nil 3000 (by kernel_rfl)
def KAwake22:CF:=⟨58,[.int .u16 (.ofNat 50449),.int .u8 (.ofNat 2)],.int .u16 (.ofNat 47275)⟩
theorem kAwake22:KAwake22.Ok Try.prog:=CF.of2 noNG mixed (l:=[]) .nil 3000 (by kernel_rfl)
def KAwake23:CF:=⟨57,[],lstV wAwake1 0 6 1⟩
theorem kAwake23:KAwake23.Ok Try.prog:=CF.of2 noNG mixed (l:=[]) .nil 3000 (by kernel_rfl)
def KAwake24:CF:=⟨42,[vI 0,vI 0,vI 1000000],vT⟩
theorem kAwake24:KAwake24.Ok Try.prog:=CF.of2 noNG mixed (l:=[]) .nil 3000 (by kernel_rfl)
def KAwake25:CF:=⟨87,[vI 0],vT⟩
theorem kAwake25:KAwake25.Ok Try.prog:=CF.of2 noNG mixed (l:=[KAwake24]) (.cons kAwake24 .nil) 3000 (by kernel_rfl)
def KAwake26:CF:=⟨71,[.agg wAwake0,.agg ⟨[lstV wAwake1 0 6 1,vI 0]⟩],vI 0⟩
theorem kAwake26:KAwake26.Ok Try.prog:=CF.of2 noNG mixed (l:=[KAwake25,KAwake14]) (.cons kAwake25 (.cons kAwake14 .nil)) 3000 (by kernel_rfl)
def KAwake27:CF:=⟨68,[.agg wAwake0,lstV wAwake1 0 6 1],.func (.func 90) ⟨[]⟩ ⟨[dptV wAwake0 0,dptV ⟨[lstV wAwake1 0 6 1]⟩ 0]⟩⟩
theorem kAwake27:KAwake27.Ok Try.prog:=CF.of2 noNG mixed (l:=[]) .nil 3000 (by kernel_rfl)
def KAwake28:CF:=⟨69,[.agg wAwake0],vI 6⟩
theorem kAwake28:KAwake28.Ok Try.prog:=CF.of2 noNG mixed (l:=[]) .nil 3000 (by kernel_rfl)
def KAwake29:CF:=⟨104,[lstV wAwake1 0 6 1,vI 4],vI 47275⟩
theorem kAwake29:KAwake29.Ok Try.prog:=CF.of2 noNG mixed (l:=[]) .nil 3000 (by kernel_rfl)
def KAwake30:CF:=⟨20,[lstV wAwake1 0 4 1],vI 47275⟩
theorem kAwake30:KAwake30.Ok Try.prog:=CF.of2 noNG mixed (l:=[KAwake19,KAwake20,KAwake21,KAwake22]) (.cons kAwake19 (.cons kAwake20 (.cons kAwake21 (.cons kAwake22 .nil)))) 3000 (by kernel_rfl)
def KAwake31:CF:=⟨91,[.agg wAwake0,lstV wAwake1 0 6 1],vT⟩
theorem kAwake31:KAwake31.Ok Try.prog:=CF.of2 noNG mixed (l:=[KAwake29,KAwake30]) (.cons kAwake29 (.cons kAwake30 .nil)) 3000 (by kernel_rfl)
def KAwake32:CF:=⟨104,[lstV wAwake1 1 5 1,vI 1],vI 258⟩
theorem kAwake32:KAwake32.Ok Try.prog:=CF.of2 noNG mixed (l:=[]) .nil 3000 (by kernel_rfl)
def KAwake33:CF:=⟨92,[.agg wAwake0,lstV wAwake1 0 6 1,vI 0],.agg ⟨[vI 0,vI 1,lstV ⟨[vI 258]⟩ 0 1 1]⟩⟩
theorem kAwake33:KAwake33.Ok Try.prog:=CF.of2 noNG mixed (l:=[KAwake32]) (.cons kAwake32 .nil) 3000 (by kernel_rfl)
def KAwake34:CF:=⟨93,[vI 1,vI 256],vI 1⟩
theorem kAwake34:KAwake34.Ok Try.prog:=CF.of2 noNG mixed (l:=[]) .nil 3000 (by kernel_rfl)
def KAwake35:CF:=⟨95,[.agg ⟨[vI 1,lstV ⟨[vI 258]⟩ 0 1 1]⟩],vT⟩
theorem kAwake35:KAwake35.Ok Try.prog:=CF.of2 noNG mixed (l:=[KAwake16]) (.cons kAwake16 .nil) 3000 (by kernel_rfl)
def KAwake36:CF:=⟨72,[.agg wAwake0,.agg ⟨[lstV wAwake1 0 6 1,vI 0]⟩],.tuple ⟨[lstV ⟨[vI 1,lstV ⟨[vI 258]⟩ 0 1 1]⟩ 0 1 2,vI 0]⟩⟩
theorem kAwake36:KAwake36.Ok Try.prog:=CF.of2 noNG mixed (l:=[KAwake28,KAwake33,KAwake34,KAwake35,KAwake27,KAwake31]) (.cons kAwake28 (.cons kAwake33 (.cons kAwake34 (.cons kAwake35 (.cons kAwake27 (.cons kAwake31 .nil)))))) 3000 (by kernel_rfl)
def KAwake37:CF:=⟨31,[.agg wAwake0,.agg ⟨[lstV wAwake1 0 6 1,vI 0]⟩],.tuple ⟨[lstV ⟨[vI 1]⟩ 0 1 1,vI 0]⟩⟩
theorem kAwake37:KAwake37.Ok Try.prog:=CF.of2 noNG mixed (l:=[KAwake26,KAwake36]) (.cons kAwake26 (.cons kAwake36 .nil)) 3000 (by kernel_rfl)
def KAwake38:CF:=⟨42,[vJ 0,vI 0,vI 1000000],vF⟩
theorem kAwake38:KAwake38.Ok Try.prog:=CF.of2 noNG mixed (l:=[]) .nil 3000 (by kernel_rfl)
def KAwake39:CF:=⟨87,[vJ 0],vF⟩
theorem kAwake39:KAwake39.Ok Try.prog:=CF.of2 noNG mixed (l:=[KAwake38]) (.cons kAwake38 .nil) 3000 (by kernel_rfl)
def KAwake40:CF:=⟨59,[.agg wAwake0,vJ 0,.slice none 0 0,vI 1],vI 7⟩
theorem kAwake40:KAwake40.Ok Try.prog:=CF.of2 noNG mixed (l:=[KAwake14,KAwake39]) (.cons kAwake14 (.cons kAwake39 .nil)) 3000 (by kernel_rfl)
def KAwake41:CF:=⟨25,[.agg wAwake0,vJ 0,.slice none 0 0],.tuple ⟨[.slice none 0 0,vI 7]⟩⟩
theorem kAwake41:KAwake41.Ok Try.prog:=CF.of2 noNG mixed (l:=[KAwake40]) (.cons kAwake40 .nil) 3000 (by kernel_rfl)
def KAwake42:CF:=⟨58,[.int .u16 (.ofNat 65535),.int .u8 (.ofNat 49)],.int .u16 (.ofNat 51074)⟩
theorem kAwake42:KAwake42.Ok Try.prog:=CF.of2 noNG mixed (l:=[]) .nil 3000 (by kernel_rfl)
def KAwake43:CF:=⟨58,[.int .u16 (.ofNat 51074),.int .u8 (.ofNat 50)],.int .u16 (.ofNat 15802)⟩
theorem kAwake43:KAwake43.Ok Try.prog:=CF.of2 noNG mixed (l:=[]) .nil 3000 (by kernel_rfl)
def KAwake44:CF:=⟨58,[.int .u16 (.ofNat 15802),.int .u8 (.ofNat 51)],.int .u16 (.ofNat 23502)⟩
theorem kAwake44:KAwake44.Ok Try.prog:=CF.of2 noNG mixed (l:=[]) .nil 3000 (by kernel_rfl)
def KAwake45:CF:=⟨58,[.int .u16 (.ofNat 23502),.int .u8 (.ofNat 52)],.int .u16 (.ofNat 21321)⟩
theorem kAwake45:KAwake45.Ok Try.prog:=CF.of2 noNG mixed (l:=[]) .nil 3000 (by kernel_rfl)
def KAwake46:CF:=⟨58,[.int .u16 (.ofNat 21321),.int .u8 (.ofNat 53)],.int .u16 (.ofNat 17760)⟩
theorem kAwake46:KAwake46.Ok Try.prog:=CF.of2 noNG mixed (l:=[]) .nil 3000 (by kernel_rfl)
def KAwake47:CF:=⟨58,[.int .u16 (.ofNat 17760),.int .u8 (.ofNat 54)],.int .u16 (.ofNat 12020)⟩
theorem kAwake47:KAwake47.Ok Try.prog:=CF.of2 noNG mixed (l:=[]) .nil 3000 (by kernel_rfl)
def KAwake48:CF:=⟨58,[.int .u16 (.ofNat 12020),.int .u8 (.ofNat 55)],.int .u16 (.ofNat 30488)⟩
theorem kAwake48:KAwake48.Ok Try.prog:=CF.of2 noNG mixed (l:=[]) .nil 3000 (by kernel_rfl)
def KAwake49:CF:=⟨58,[.int .u16 (.ofNat 30488),.int .u8 (.ofNat 56)],.int .u16 (.ofNat 41259)⟩
theorem kAwake49:KAwake49.Ok Try.prog:=CF.of2 noNG mixed (l:=[]) .nil 3000 (by kernel_rfl)
def KAwake50:CF:=⟨58,[.int .u16 (.ofNat 41259),.int .u8 (.ofNat 57)],.int .u16 (.ofNat 10673)⟩
theorem kAwake50:KAwake50.Ok Try.prog:=CF.of2 noNG mixed (l:=[]) .nil 3000 (by kernel_rfl)
def KAwake51:CF:=⟨19,[],vT⟩
theorem kAwake51:KAwake51.Ok Try.prog:=CF.of2 noNG mixed (l:=[KAwake0,KAwake23,KAwake14,KAwake16,KAwake18,KAwake19,KAwake20,KAwake21,KAwake22,KAwake37,KAwake41,KAwake42,KAwake43,KAwake44,KAwake45,KAwake46,KAwake47,KAwake48,KAwake49,KAwake50]) (.cons kAwake0 (.cons kAwake23 (.cons kAwake14 (.cons kAwake16 (.cons kAwake18 (.cons kAwake19 (.cons kAwake20 (.cons kAwake21 (.cons kAwake22 (.cons kAwake37 (.cons kAwake41 (.cons kAwake42 (.cons kAwake43 (.cons kAwake44 (.cons kAwake45 (.cons kAwake46 (.cons kAwake47 (.cons kAwake48 (.cons kAwake49 (.cons kAwake50 .nil)))))))))))))))))))) 3000 (by kernel_rfl)
end
end Go.Proofs.Ytoojllndfjamgaa
namespace Go.Proofs.Ytoojllndfjamgaa
open Go.Gi Go.RowKit
noncomputable section
structure R19 where
  r0:Bool
structure A19 where
def rt19:RT R19:=.leaf ⟨true⟩
def F19:Option R19:=rt19.val
def F19_ok:Bool:=F19.isSome
def F19_0:Bool:=match F19 with | some r=>r.r0 | none=>false
def dec19:Task→Option (A19×Hp)
  | .call g ⟨[]⟩ h=>(match Nat.beq g 19 with | true=>some (⟨⟩,h) | false=>none)
  | _=>none
def alt19 (_x:A19)(h:Hp):AT:=.br F19_ok (.leaf (.ret (.bool F19_0) h)) .no
def p19:Ans:=fnAns dec19 alt19
theorem hd19:∀(t:Task) (x:A19)(h:Hp),dec19 t=some (x,h)→t=.call 19 ⟨[]⟩ h:=by
  intro t x h e
  unfold dec19 at e
  split at e
  case h_2=>cases e
  split at e
  case h_2=>cases e
  rename_i hg
  simp only [Option.some.injEq,Prod.mk.injEq]at e
  obtain ⟨_,rfl⟩:=e
  rw [Nat.eq_of_beq_eq_true hg]
theorem known19:Known Try.prog p19:=by
  intro t x o h ho
  unfold p19 fnAns at h
  split at h
  · rename_i x' hp hd
    simp only [Option.some.injEq]at h
    subst h
    obtain rfl:=hd19 _ _ _ hd
    have h2:(alt19 x' hp).out=some (.ret (.bool true) hp):=rfl
    rw [h2]at ho
    cases ho
    exact kAwake51 hp
  · cases h
end
end Go.Proofs.Ytoojllndfjamgaa
namespace Go.Proofs.Ytoojllndfjamgaa
open Go.Gi Go.RowKit Go.Proofs.Ytoojllndfjamgaa.Old
noncomputable section
set_option maxRecDepth 100000
set_option maxHeartbeats 4000000
structure R3 where
  r0:Bool
structure A3 where
  a0:ByteArray
  a1:Int
  a2:Int
  a3:Array Value
  a4:Nat
  a5:Nat
  a6:Array Value
  a7:Nat
  a8:Nat
  a9:Int
  a10:Array Value
  a11:Nat
  a12:Nat
def rt3 (a0:ByteArray)(a1:Int)(a2:Int)(a3:Array Value)(a4:Nat)(a5:Nat)(a6:Array Value)(a7:Nat)(a8:Nat)(a9:Int)(a10:Array Value)(a11:Nat)(a12:Nat):RT R3 :=
  .br (F15_ok a0 a1 a2 (a3) a4 a5) (.br (F16_ok a0 a1 a2 (a3) a4 a5) (.br (not (decide ((F15_0 a0 a1 a2 (a3) a4 a5)=(F16_0 a0 a1 a2 (a3) a4 a5)))) (.leaf ⟨false⟩) (.br (not (decide ((F15_1 a0 a1 a2 (a3) a4 a5)=(F16_1 a0 a1 a2 (a3) a4 a5)))) (.leaf ⟨false⟩) (.br (not (decide ((F15_2 a0 a1 a2 (a3) a4 a5)=(F16_2 a0 a1 a2 (a3) a4 a5)))) (.leaf ⟨false⟩) (.br (F17_ok a0 a1 a2 (a3) a4 a5 (a6) a7 a8 a9 (a10) a11 a12) (.br (F18_ok a0 a1 a2 (a3) a4 a5 (a6) a7 a8 a9 (a10) a11 a12) (.br (decide ((F17_0 a0 a1 a2 (a3) a4 a5 (a6) a7 a8 a9 (a10) a11 a12)=(F18_0 a0 a1 a2 (a3) a4 a5 (a6) a7 a8 a9 (a10) a11 a12))) (.br (decide ((F17_1 a0 a1 a2 (a3) a4 a5 (a6) a7 a8 a9 (a10) a11 a12)=(F18_1 a0 a1 a2 (a3) a4 a5 (a6) a7 a8 a9 (a10) a11 a12))) (.leaf ⟨true⟩) (.leaf ⟨false⟩)) (.leaf ⟨false⟩)) (.no)) (.no))))) (.no)) (.no)
def en3 (r:R3):Value:=(.bool r.r0)
theorem T3  (a0:ByteArray) (a1:Int) (a2:Int) (a3:Array Value) (a4:Nat) (a5:Nat) (a6:Array Value) (a7:Nat) (a8:Nat) (a9:Int) (a10:Array Value) (a11:Nat) (a12:Nat):evC Try.prog (Ans.c (p15.or (p16.or (p17.or (p18.or p19))))) 60 (.call 3 ⟨[(.agg ⟨[(.string a0),(.int .i64 a1),(.int .i64 a2),(lstV a3 a4 a5 4)]⟩),(.agg ⟨[(lstV a6 a7 a8 3),(.int .i64 a9),(lstV a10 a11 a12 7)]⟩)]⟩ ⟨[],0,[]⟩) (frzK [0])=(rt3 a0 a1 a2 a3 a4 a5 a6 a7 a8 a9 a10 a11 a12).out (fun r=>.ret (en3 r) ⟨[],0,[]⟩):=by kernel_rfl
def F3 (a0:ByteArray)(a1:Int)(a2:Int)(a3:Array Value)(a4:Nat)(a5:Nat)(a6:Array Value)(a7:Nat)(a8:Nat)(a9:Int)(a10:Array Value)(a11:Nat)(a12:Nat):Option R3:=(rt3 a0 a1 a2 a3 a4 a5 a6 a7 a8 a9 a10 a11 a12).val
section
variable (a0:ByteArray) (a1:Int) (a2:Int) (a3:Array Value) (a4:Nat) (a5:Nat) (a6:Array Value) (a7:Nat) (a8:Nat) (a9:Int) (a10:Array Value) (a11:Nat) (a12:Nat)
def F3_ok:Bool:=(F3 a0 a1 a2 a3 a4 a5 a6 a7 a8 a9 a10 a11 a12).isSome
def F3_0:Bool:=match F3 a0 a1 a2 a3 a4 a5 a6 a7 a8 a9 a10 a11 a12 with | some r=>r.r0 | none=>false
end
def dec3:Task→Option (A3×Hp)
  | .call g ⟨[(.agg ⟨[(.string a0),(.int .i64 a1),(.int .i64 a2),(.func (.via 0 ⟨[]⟩ 0 true) a3 ⟨[.slice (some ⟨0,a4,none⟩) a5 4]⟩)]⟩),(.agg ⟨[(.func (.via 0 ⟨[]⟩ 0 true) a6 ⟨[.slice (some ⟨0,a7,none⟩) a8 3]⟩),(.int .i64 a9),(.func (.via 0 ⟨[]⟩ 0 true) a10 ⟨[.slice (some ⟨0,a11,none⟩) a12 7]⟩)]⟩)]⟩ h=>(match Nat.beq g 3 with | true=>some (⟨a0,a1,a2,a3,a4,a5,a6,a7,a8,a9,a10,a11,a12⟩,h) | false=>none)
  | _=>none
def alt3 (x:A3)(h:Hp):AT:=.br (F3_ok x.a0 x.a1 x.a2 x.a3 x.a4 x.a5 x.a6 x.a7 x.a8 x.a9 x.a10 x.a11 x.a12) (.leaf (.ret (.bool (F3_0 x.a0 x.a1 x.a2 x.a3 x.a4 x.a5 x.a6 x.a7 x.a8 x.a9 x.a10 x.a11 x.a12)) h)) .no
def p3:Ans:=fnAns dec3 alt3
theorem ha3:∀(x:A3) (h:Hp)(o:Out),(alt3 x h).out=some o→∃r,(rt3 x.a0 x.a1 x.a2 x.a3 x.a4 x.a5 x.a6 x.a7 x.a8 x.a9 x.a10 x.a11 x.a12).val=some r∧o=.ret (en3 r) h:=by
  intro x h o e
  unfold alt3 at e
  simp only [AT.out]at e
  obtain ⟨g,e⟩:=cond_some e
  unfold F3_ok at g
  obtain ⟨r,hF⟩:=Option.isSome_iff_exists.1 g
  have hv:F3 x.a0 x.a1 x.a2 x.a3 x.a4 x.a5 x.a6 x.a7 x.a8 x.a9 x.a10 x.a11 x.a12=(rt3 x.a0 x.a1 x.a2 x.a3 x.a4 x.a5 x.a6 x.a7 x.a8 x.a9 x.a10 x.a11 x.a12).val:=by delta F3;exact rfl
  refine ⟨r,hv.symm.trans hF,?_⟩
  simp only [Option.some.injEq]at e
  rw [← e]
  have k0:F3_0 x.a0 x.a1 x.a2 x.a3 x.a4 x.a5 x.a6 x.a7 x.a8 x.a9 x.a10 x.a11 x.a12=r.r0:=by
    show (match F3 x.a0 x.a1 x.a2 x.a3 x.a4 x.a5 x.a6 x.a7 x.a8 x.a9 x.a10 x.a11 x.a12 with | some r=>r.r0 | none=>false)=r.r0
    rw [hF]
  rw [k0]<;>rfl
theorem hd3:∀(t:Task) (x:A3)(h:Hp),dec3 t=some (x,h)→t=.call 3 ⟨[(.agg ⟨[(.string x.a0),(.int .i64 x.a1),(.int .i64 x.a2),(lstV x.a3 x.a4 x.a5 4)]⟩),(.agg ⟨[(lstV x.a6 x.a7 x.a8 3),(.int .i64 x.a9),(lstV x.a10 x.a11 x.a12 7)]⟩)]⟩ h:=by
  intro t x h e
  unfold dec3 at e
  split at e
  case h_2=>cases e
  split at e
  case h_2=>cases e
  rename_i hg
  simp only [Option.some.injEq,Prod.mk.injEq]at e
  obtain ⟨rfl,rfl⟩:=e
  rw [Nat.eq_of_beq_eq_true hg]
theorem known3:Known Try.prog p3:=by
  exact Known.fn noNG mixed (Known.or known15 (Known.or known16 (Known.or known17 (Known.or known18 known19)))) (n:=60) (zs:=[0]) 3 (fun x:A3=>[(.agg ⟨[(.string x.a0),(.int .i64 x.a1),(.int .i64 x.a2),(lstV x.a3 x.a4 x.a5 4)]⟩),(.agg ⟨[(lstV x.a6 x.a7 x.a8 3),(.int .i64 x.a9),(lstV x.a10 x.a11 x.a12 7)]⟩)]) (fun x=>rt3 x.a0 x.a1 x.a2 x.a3 x.a4 x.a5 x.a6 x.a7 x.a8 x.a9 x.a10 x.a11 x.a12) en3 (fun x=>T3  x.a0 x.a1 x.a2 x.a3 x.a4 x.a5 x.a6 x.a7 x.a8 x.a9 x.a10 x.a11 x.a12) (fun x=>rfl) dec3 alt3 hd3 ha3
end
end Go.Proofs.Ytoojllndfjamgaa
namespace Go.Proofs.Ytoojllndfjamgaa
open Go.ChangeShapes Go.WideShapes Go.ChangeAt Go.RowKit Go.Gi
def True3:Prop:=∀(s:ByteArray) (ws:Int)(dp:Int)(cc:Array Value)(nc:Nat)(cd:Array Value)(nd:Nat)(tu:Int)(cs:Array Value)(ns:Nat),s.size≤maxLen→(Lit.int .i64 ws).wf=true→(Lit.int .i64 dp).wf=true→GL C4 4 cc nc→GL D3 3 cd nd→(Lit.int .i64 tu).wf=true→GL S7 7 cs ns→(rt3 s ws dp cc 0 nc cd 0 nd tu cs 0 ns).val=some ⟨true⟩
theorem law3 (hm:True3) {s:ByteArray}{ws:Int}{dp:Int}{cc:Array Value}{nc:Nat}{cd:Array Value}{nd:Nat}{tu:Int}{cs:Array Value}{ns:Nat}(hy0:s.size≤maxLen) (hy1:(Lit.int .i64 ws).wf=true) (hy2:(Lit.int .i64 dp).wf=true) (hy3:GL C4 4 cc nc) (hy4:GL D3 3 cd nd) (hy5:(Lit.int .i64 tu).wf=true) (hy6:GL S7 7 cs ns) :
    Fact Try.prog (.call 3 ⟨[(.agg ⟨[.string s,.int .i64 ws,.int .i64 dp,lstV cc 0 nc 4]⟩),(.agg ⟨[lstV cd 0 nd 3,.int .i64 tu,lstV cs 0 ns 7]⟩)]⟩ ⟨[],0,[]⟩) (.ret (.bool true) ⟨[],0,[]⟩):=by
  have hv:=hm s ws dp cc nc cd nd tu cs ns hy0 hy1 hy2 hy3 hy4 hy5 hy6
  refine known3 _ (alt3 ⟨s,ws,dp,cc,0,nc,cd,0,nd,tu,cs,0,ns⟩ ⟨[],0,[]⟩) _ rfl ?_
  have e1:F3 s ws dp cc 0 nc cd 0 nd tu cs 0 ns=some ⟨true⟩:=hv
  have k0:F3_ok s ws dp cc 0 nc cd 0 nd tu cs 0 ns=true:=by unfold F3_ok;rw [e1];rfl
  have k1:F3_0 s ws dp cc 0 nc cd 0 nd tu cs 0 ns=true:=by
    show (match F3 s ws dp cc 0 nc cd 0 nd tu cs 0 ns with | some r=>r.r0 | none=>false)=true
    rw [e1]
  simp only [alt3,k0,k1,AT.out,cond_true]
set_option maxRecDepth 100000 in
theorem lifted3 (hm:True3)(os:Os)(started:os.Started)(H:Type)(enc:TypeId×Value→H) :
    ReturnsInHanded {} Try.checked os 3 .any (Rows.frameChecksSpec.pre6 enc Try.prog Try.f3 Rows.frameChecksRow.domain false) (Rows.frameChecksSpec.post enc Try.prog Try.f3 false true false false):=by
  refine returnsInHanded_of_change (C:=Try.checked) own started (by kernel_rfl) Try.func3
    (ChangeSpec.witness6 (enc:=enc) (C:=Try.checked) false ⟨#[],#[.agg #[.string .empty,.int .i64 0,.int .i64 0,.slice none 0 0],.agg #[.slice none 0 0,.int .i64 0,.slice none 0 0]],[]⟩ 20 (by kernel_rfl) (by kernel_rfl) (by kernel_rfl) (by kernel_rfl)) ?_
  intro W base args ds gs before hval0 hW hcnd _
  have hval:∀(j:Nat) t v,Try.f3.params[j]?=some t→args[j]?=some v→Value.okWide Try.prog W .any base t v:=hval0
  have hW':=hW
  obtain ⟨p,q,hA0,hV,rfl,hfz,hnd⟩:=hW
  have hA:DataW.TrodAll enc Try.prog W 0 (fun _=>true) true Try.f3.params.toList args.toList ds p:=hA0
  rw [Try.params3]at hA hval
  obtain ⟨v0,vs0,d0,ds0,p0,q0,hargs,rfl,rfl,h0,r0⟩:=trodAll_cons hA
  obtain ⟨v1,vs1,d1,ds1,p1,q1,rfl,rfl,rfl,h1,r1⟩:=trodAll_cons r0
  obtain ⟨rfl,rfl,rfl⟩:=trodAll_nil r1
  obtain rfl:args=#[v0,v1]:=by cases args;simp_all
  obtain ⟨rfl,rfl⟩:=trodVars_none hV
  have k0:=h0
  have k1:=h1
  have lt0:∀x∈p0,x.block<W.heap.size:=by obtain ⟨m,hm⟩:=k0;exact DataW.trod_lt m _ _ _ hm
  have lt1:∀x∈p1,x.block<W.heap.size:=by obtain ⟨m,hm⟩:=k1;exact DataW.trod_lt m _ _ _ hm
  obtain ⟨s,ws,dp,cc,nc,u0,hy0,hy1,hy2,hy3⟩:=fmtArg (hval 0 24 v0 rfl rfl) h0
  obtain ⟨cd,nd,tu,cs,ns,u1,hy4,hy5,hy6⟩:=skyArg (hval 1 28 v1 rfl rfl) h1
  clear hA0 hval0
  refine (calls_frozen (law3 hm (s:=s) (ws:=ws) (dp:=dp) (cc:=cc) (nc:=nc) (cd:=cd) (nd:=nd) (tu:=tu) (cs:=cs) (ns:=ns) hy0 hy1 hy2 hy3 hy4 hy5 hy6) rfl (((VRs.nil _).push u0).push u1)).mono fun e W' ⟨he,bel⟩=>?_
  subst he
  exact ⟨_,rfl,_,_,_,[],_,[],hW',trodAll_mk1 (shut_bool Try.underlying4 _),(trodAll_cons_mk (Below.trod laidOut (by kernel_rfl) (of_decide_eq_true (by kernel_rfl)) k0 bel lt0) (trodAll_cons_mk (Below.trod laidOut (by kernel_rfl) (of_decide_eq_true (by kernel_rfl)) k1 bel lt1) trodAll_mk0)),rfl,bel.frame _,fun h=>by cases h⟩
theorem over3 (hm:True3):Rows.frameChecksRow.holds Try.pinned (OpenSpec.ofChange Rows.frameChecksSpec) :=
  OpenClaim.holds_of_wide 3 Try.f3 rfl rfl rfl rfl rfl rfl rfl ⟨rfl,rfl,rfl,rfl,rfl⟩ rfl rfl rfl rfl rfl (by kernel_rfl) Try.func3 (by kernel_rfl)
    (of_decide_eq_true (by kernel_rfl)) (by unfold Func.isWrapper;first | (rw [if_pos (by decide +kernel)];kernel_rfl) | (rw [if_neg (by decide +kernel)];exact ⟨rfl,rfl⟩))
    (fun os started H enc _=>lifted3 hm os started H enc)
theorem said3 (hm:True3):Rows.FrameChecksSaid:=over3 hm
end Go.Proofs.Ytoojllndfjamgaa
namespace Go.Gi
noncomputable section
def fst1 (E:Nat→Int):Nat→Nat→Option (Nat×Int)
  | 0,_=>none
  | m+1,k=>if E k=0 then fst1 E m (k+1) else some (k,E k)
theorem fst1_congr {E E':Nat→Int}{n:Nat}(h:∀k,k<n→E k=E' k):∀m k,k+m=n→fst1 E m k=fst1 E' m k
  | 0,_,_=>rfl
  | m+1,k,e=>by
    unfold fst1
    rw [h k (by omega),fst1_congr h m (k+1) (by omega)]
theorem loop_fst {X D:Type}{rd:X→RT (Sum X D)}{S:Nat→X}{E:Nat→Int}{n:Nat}{err:Nat→Int→D}{fin:D}
    (hs:∀k,k<n→(rd (S k)).val=some (if E k=0 then .inl (S (k+1)) else .inr (err k (E k)))) (hf:(rd (S n)).val=some (.inr fin)) :
    ∀m k,k+m=n→loopR rd (S k)=some (match fst1 E m k with | some (i,r)=>err i r | none=>fin)
  | 0,k,e=>by
    obtain rfl:k=n:=by omega
    exact loopR_done hf
  | m+1,k,e=>by
    have h:=hs k (by omega)
    unfold fst1
    by_cases he:E k=0
    · rw [if_pos he]at h ⊢
      exact (loopR_next h).trans (loop_fst hs hf m (k+1) (by omega))
    · rw [if_neg he]at h ⊢
      exact loopR_done h
end
end Go.Gi
namespace Go.Proofs.Ytoojllndfjamgaa
open Go.Gi Go.RowKit
noncomputable section
set_option maxRecDepth 100000
def smB (c:Int):Bool:=decide (97≤c)&&decide (c≤122)
def dgB (c:Int):Bool:=decide (48≤c)&&decide (c≤57)
def nmC (c:Int)(k:Nat):Int:=if smB c=true then 0 else if k=0 then 1 else if dgB c=true then 0 else if c=45 then 0 else 1
def nmE (s:ByteArray)(k:Nat):Int:=nmC (getByte s k) k
def nmB (s:ByteArray):Bool:=decide (1≤s.size)&&(decide (s.size≤24)&&(fst1 (nmE s) s.size 0).isNone)
theorem F101_of (c:Int):F101_ok c=true∧F101_0 c=smB c:=by
  have q:F101 c=some ⟨smB c⟩:=by
    unfold F101 rt101 smB
    by_cases h:(97:Int)≤c<;>simp [RT.val,h]
  exact ⟨by simp only [F101_ok,q];rfl,by simp only [F101_0,q]⟩
theorem F102_of (c:Int):F102_ok c=true∧F102_0 c=dgB c:=by
  have q:F102 c=some ⟨dgB c⟩:=by
    unfold F102 rt102 dgB
    by_cases h:(48:Int)≤c<;>simp [RT.val,h]
  exact ⟨by simp only [F102_ok,q];rfl,by simp only [F102_0,q]⟩
theorem nm79 (c:Int)(k:Nat)(hk0:¬k=0)(S:X79_0)(D:D79_0):(cond (!smB c) (cond (!dgB c) (cond (!decide (c=45)) (some (Sum.inr D)) (some (Sum.inl S))) (some (Sum.inl S))) (some (Sum.inl S)))=some (if nmC c k=0 then Sum.inl S else Sum.inr D):=by
  unfold nmC
  cases smB c<;>cases dgB c<;>by_cases hc:c=45<;>simp [hc,hk0]
theorem nm85 (c:Int)(k:Nat)(S:X85_0)(D:D85_0):(cond (decide (97≤c)) (cond (!decide (c≤122)) (cond (decide (k=0)) (some (Sum.inr D)) (cond (decide (48≤c)) (cond (decide (c≤57)) (some (Sum.inl S)) (cond (!decide (c=45)) (some (Sum.inr D)) (some (Sum.inl S)))) (cond (!decide (c=45)) (some (Sum.inr D)) (some (Sum.inl S))))) (some (Sum.inl S)))
 (cond (decide (k=0)) (some (Sum.inr D)) (cond (decide (48≤c)) (cond (decide (c≤57)) (some (Sum.inl S)) (cond (!decide (c=45)) (some (Sum.inr D)) (some (Sum.inl S)))) (cond (!decide (c=45)) (some (Sum.inr D)) (some (Sum.inl S))))))=some (if nmC c k=0 then Sum.inl S else Sum.inr D):=by
  unfold nmC smB dgB
  by_cases q6:k=0<;>by_cases q1:(97:Int)≤c<;>by_cases q2:c≤122<;>by_cases q3:(48:Int)≤c<;>by_cases q4:c≤57<;>by_cases q5:c=45<;>simp [q1,q2,q3,q4,q5,q6]
section
variable {s:ByteArray}
theorem step79 (hn:s.size≤1000)(k:Nat)(h1:1≤k)(hk:k<s.size):(rd79_0 ⟨s,(k:Int)⟩).val=some (if nmE s k=0 then .inl ⟨s,((k+1:Nat):Int)⟩ else .inr (.k0 false)):=by
  have hki:(k:Int)<(s.size:Int):=by omega
  have h0:(0:Int)≤(k:Int):=by omega
  have h3:IntKind.wrap .i64 ((k:Int)+1)=((k+1:Nat):Int):=by rw [wrap64_id (by omega) (by omega)];omega
  have hk0:¬k=0:=by omega
  show _=some (if nmC (getByte s k) k=0 then _ else _)
  simp only [rd79_0,RT.val,hki,h0,h3,(F101_of _).1,(F101_of _).2,(F102_of _).1,(F102_of _).2,Int.toNat_natCast,Int.ofNat_eq_natCast,decide_true,Bool.and_self,cond_true]
  exact nm79 _ _ hk0 _ _
theorem step85 (hn:s.size≤1000)(k:Nat)(hk:k<s.size):(rd85_0 ⟨s,(k:Int)⟩).val=some (if nmE s k=0 then .inl ⟨s,((k+1:Nat):Int)⟩ else .inr (.k0 false)):=by
  have hki:(k:Int)<(s.size:Int):=by omega
  have h0:(0:Int)≤(k:Int):=by omega
  have h3:IntKind.wrap .i64 ((k:Int)+1)=((k+1:Nat):Int):=by rw [wrap64_id (by omega) (by omega)];omega
  have hd:decide ((k:Int)=0)=decide (k=0):=by
    by_cases h:k=0<;>simp [h]
  show _=some (if nmC (getByte s k) k=0 then _ else _)
  simp only [rd85_0,RT.val,hki,h0,h3,hd,Int.toNat_natCast,Int.ofNat_eq_natCast,decide_true,Bool.and_self,cond_true]
  exact nm85 _ _ _ _
theorem F85_of:F85_ok s=true∧F85_0 s=nmB s:=by
  have q:F85 s=some ⟨nmB s⟩:=by
    unfold F85 rt85 nmB
    by_cases a1:s.size<1
    · have i1:(s.size:Int)<1:=by omega
      have i2:¬1≤s.size:=by omega
      simp only [RT.val,i1,i2,Int.ofNat_eq_natCast,decide_true,decide_false,cond_true,Bool.false_and]
    by_cases a2:24<s.size
    · have i1:¬(s.size:Int)<1:=by omega
      have i2:(24:Int)<(s.size:Int):=by omega
      have i3:¬s.size≤24:=by omega
      simp only [RT.val,i1,i2,i3,Int.ofNat_eq_natCast,decide_true,decide_false,cond_true,cond_false,Bool.false_and,Bool.and_false]
    have i1:¬(s.size:Int)<1:=by omega
    have i2:¬(24:Int)<(s.size:Int):=by omega
    have i3:s.size≤24:=by omega
    have i4:1≤s.size:=by omega
    have h1:¬(s.size:Int)<(s.size:Int):=by omega
    have l:L85_0 (X85_0.mk s 0)=some (match fst1 (nmE s) s.size 0 with | some (i,r)=>.k0 false | none=>.k1) :=
      loop_fst (rd:=rd85_0) (S:=fun k=>⟨s,(k:Int)⟩) (E:=nmE s) (n:=s.size) (err:=fun _ _=>.k0 false) (fin:=.k1) (fun k hk=>step85 (by omega) k hk)
        (by simp only [rd85_0,RT.val,h1,Int.ofNat_eq_natCast,decide_false,cond_false]) s.size 0 (by omega)
    cases hf:fst1 (nmE s) s.size 0 with
    | none =>
      rw [hf]at l
      simp only [RT.val,i1,i2,i3,i4,Int.ofNat_eq_natCast,L85_0_k0,L85_0_k1,Qe0,l,Option.isNone_none,decide_true,decide_false,cond_true,cond_false,Bool.and_self]
    | some p =>
      rw [hf]at l
      simp only [RT.val,i1,i2,i3,i4,Int.ofNat_eq_natCast,L85_0_k0,L85_0_k1,Qe0,l,Option.isNone_some,decide_true,decide_false,cond_true,cond_false,Bool.and_self,Bool.and_false]
  exact ⟨by simp only [F85_ok,q];rfl,by simp only [F85_0,q]⟩
theorem F79_of:F79_ok s=true∧F79_0 s=nmB s:=by
  have q:F79 s=some ⟨nmB s⟩:=by
    unfold F79 rt79 nmB
    by_cases a1:s.size<1
    · have i1:(s.size:Int)<1:=by omega
      have i2:¬1≤s.size:=by omega
      simp only [RT.val,i1,i2,Int.ofNat_eq_natCast,decide_true,decide_false,cond_true,Bool.false_and]
    by_cases a2:24<s.size
    · have i1:¬(s.size:Int)<1:=by omega
      have i2:(24:Int)<(s.size:Int):=by omega
      have i3:¬s.size≤24:=by omega
      simp only [RT.val,i1,i2,i3,Int.ofNat_eq_natCast,decide_true,decide_false,cond_true,cond_false,Bool.false_and,Bool.and_false]
    have i1:¬(s.size:Int)<1:=by omega
    have i2:¬(24:Int)<(s.size:Int):=by omega
    have i3:s.size≤24:=by omega
    have i4:1≤s.size:=by omega
    have i5:(0:Int)<(s.size:Int):=by omega
    have h1:¬(s.size:Int)<(s.size:Int):=by omega
    obtain ⟨m,hm⟩:∃m,s.size=m+1:=⟨s.size-1,by omega⟩
    have l:L79_0 (X79_0.mk s 1)=some (match fst1 (nmE s) m 1 with | some (i,r)=>.k0 false | none=>.k1):=by
      have:=loop_fst (rd:=rd79_0) (S:=fun k=>⟨s,((k+1:Nat):Int)⟩) (E:=fun k=>nmE s (k+1)) (n:=m) (err:=fun _ _=>.k0 false) (fin:=.k1) (fun k hk=>step79 (by omega) (k+1) (by omega) (by omega))
        (by rw [← hm];simp only [rd79_0,RT.val,h1,Int.ofNat_eq_natCast,decide_false,cond_false]) m 0 (by omega)
      have sh:∀m k,(fst1 (fun k=>nmE s (k+1)) m k).isNone=(fst1 (nmE s) m (k+1)).isNone:=by
        intro m
        induction m with
        | zero=>intro k;rfl
        | succ m ih =>
          intro k
          unfold fst1
          split
          · exact ih (k+1)
          · rfl
      have sh0:=sh m 0
      refine Eq.trans this ?_
      cases x1:fst1 (fun k=>nmE s (k+1)) m 0<;>cases x2:fst1 (nmE s) m (0+1)<;>rw [x1,x2]at sh0<;>first | rfl | cases sh0
    have e0:fst1 (nmE s) s.size 0=if smB (getByte s 0)=true then fst1 (nmE s) m 1 else some (0,1):=by
      rw [hm]
      show (if nmE s 0=0 then fst1 (nmE s) m 1 else some (0,nmE s 0))=_
      have e1:nmE s 0=if smB (getByte s 0)=true then 0 else 1:=by unfold nmE nmC;simp
      rw [e1]
      cases smB (getByte s 0)<;>rfl
    rw [e0]
    cases hs:smB (getByte s 0) with
    | false=>simp only [RT.val,i1,i2,i3,i4,i5,(F101_of _).1,(F101_of _).2,hs,Int.ofNat_eq_natCast,Bool.false_eq_true,if_false,Option.isNone_some,decide_true,decide_false,cond_true,cond_false,Bool.and_self,Bool.and_false,Bool.not_false]
    | true =>
      rw [if_pos rfl]
      cases hf:fst1 (nmE s) m 1 with
      | none =>
        rw [hf]at l
        simp only [RT.val,i1,i2,i3,i4,i5,(F101_of _).1,(F101_of _).2,hs,Int.ofNat_eq_natCast,L79_0_k0,L79_0_k1,Qb0,l,Option.isNone_none,decide_true,decide_false,cond_true,cond_false,Bool.and_self,Bool.not_true]
      | some p =>
        rw [hf]at l
        simp only [RT.val,i1,i2,i3,i4,i5,(F101_of _).1,(F101_of _).2,hs,Int.ofNat_eq_natCast,L79_0_k0,L79_0_k1,Qb0,l,Option.isNone_some,decide_true,decide_false,cond_true,cond_false,Bool.and_self,Bool.and_false,Bool.not_true]
  exact ⟨by simp only [F79_ok,q];rfl,by simp only [F79_0,q]⟩
end
end
end Go.Proofs.Ytoojllndfjamgaa
namespace Go.Proofs.Ytoojllndfjamgaa
open Go.Gi Go.RowKit
noncomputable section
set_option maxRecDepth 100000
set_option maxHeartbeats 1000000
def inB (n lo hi:Int):Bool:=decide (lo≤n)&&decide (n≤hi)
def twE (c:Array Value)(s:ByteArray)(j:Nat):Int:=if strEq (getStr c (0+j*4)) s=true then 5 else 0
def rgB (ws dp w e p:Int):Bool:=inB w 0 (IntKind.wrap .i64 (ws-1))&&((decide (1≤e)&&decide (Int.tmod dp e=0))&&inB p 0 (IntKind.wrap .i64 (e-1)))
def coI (wj ej pj w e p:Int):Int:=if wj=w then (if Int.tmod pj (min ej e)=Int.tmod p (min ej e) then 2 else 0) else 0
def coN (wj ej pj w e p:Int)(n:Nat):Int:=if wj=w then (if Int.tmod (n:Int) ej=pj then (if Int.tmod (n:Int) e=p then 2 else 0) else 0) else 0
def coP (c:Array Value)(w e p:Int)(j:Nat):Int:=coI (getInt c (0+j*4+1)) (getInt c (0+j*4+1+1)) (getInt c (0+j*4+1+1+1)) w e p
def coR (c:Array Value)(w e p:Int)(j:Nat):Int:=if (fst1 (coN (getInt c (0+j*4+1)) (getInt c (0+j*4+1+1)) (getInt c (0+j*4+1+1+1)) w e p) 16 0).isSome=true then 2 else 0
def chX (co:Array Value→Int→Int→Int→Nat→Int)(ws dp:Int)(c:Array Value)(k:Nat):Int :=
  if nmB (getStr c (0+k*4))=true then (if (fst1 (twE c (getStr c (0+k*4))) k 0).isSome=true then 5 else
    (if rgB ws dp (getInt c (0+k*4+1)) (getInt c (0+k*4+1+1)) (getInt c (0+k*4+1+1+1))=true then
      (if (fst1 (co c (getInt c (0+k*4+1)) (getInt c (0+k*4+1+1)) (getInt c (0+k*4+1+1+1))) k 0).isSome=true then 2 else 0) else 7)) else 6
def dpB (dp:Int):Bool:=decide (dp=1)||(decide (dp=2)||(decide (dp=4)||(decide (dp=8)||decide (dp=16))))
def pw (i:Nat):Nat:=2 ^ i
def anyN (E P e p:Nat):Bool:=(List.range 16).any fun n=>n % E == P&&n % e == p
def anyAll:Bool:=(List.range 5).all fun i=>(List.range 5).all fun j=>(List.range 16).all fun P=>(List.range 16).all fun p=>!(decide (P<pw i)&&decide (p<pw j))||(anyN (pw i) P (pw j) p == (P % min (pw i) (pw j) == p % min (pw i) (pw j)))
theorem anyAll_ok:anyAll=true:=by decide +kernel
theorem any_eq (i:Nat)(hi:i<5)(j:Nat)(hj:j<5)(P:Nat)(hP:P<16)(p:Nat)(hp:p<16)(h1:P<pw i)(h2:p<pw j):anyN (pw i) P (pw j) p=(P % min (pw i) (pw j) == p % min (pw i) (pw j)):=by
  have h:=anyAll_ok
  unfold anyAll at h
  simp only [List.all_eq_true,List.mem_range]at h
  have:=h i hi j hj P hP p hp
  simpa [h1,h2] using this
theorem pow_of (k:Nat)(hk:k<5)(x:Nat)(hx:x<17)(h1:1≤x)(h2:pw k % x=0):∃i,i<5∧x=pw i:=by
  have h:((List.range 5).all fun k=>(List.range 17).all fun x=>!(decide (1≤x)&&decide (pw k % x=0))||(List.range 5).any fun i=>x == pw i)=true:=by decide +kernel
  simp only [List.all_eq_true,List.mem_range]at h
  have:=h k hk x hx
  simp only [h1,h2,decide_true,Bool.and_self,Bool.not_true,Bool.false_or,List.any_eq_true,List.mem_range,beq_iff_eq]at this
  exact this
theorem dp_pw {dp:Int}(h:dpB dp=true):∃k,k<5∧dp=(pw k:Int):=by
  simp only [dpB,Bool.or_eq_true,decide_eq_true_eq]at h
  rcases h with h | h | h | h | h
  · exact ⟨0,by omega,by rw [h];rfl⟩
  · exact ⟨1,by omega,by rw [h];rfl⟩
  · exact ⟨2,by omega,by rw [h];rfl⟩
  · exact ⟨3,by omega,by rw [h];rfl⟩
  · exact ⟨4,by omega,by rw [h];rfl⟩
theorem pw_le {i:Nat}(h:i<5):1≤pw i∧pw i≤16:=by
  have:∀i<5,1≤pw i∧pw i≤16:=by decide
  exact this i h
theorem ev_pw {dp e:Int}(h:dpB dp=true) (he:1≤e) (hm:Int.tmod dp e=0):∃i,i<5∧e=(pw i:Int):=by
  obtain ⟨k,hk,rfl⟩:=dp_pw h
  have hp:=pw_le hk
  rw [Int.tmod_eq_emod_of_nonneg (by omega)]at hm
  obtain ⟨m,rfl⟩:∃m:Nat,e=(m:Int):=⟨e.toNat,by omega⟩
  have hm2:pw k % m=0:=by exact_mod_cast hm
  have hle:m≤pw k:=Nat.le_of_dvd (by omega) (Nat.dvd_of_mod_eq_zero hm2)
  obtain ⟨i,hi,e1⟩:=pow_of k hk m (by omega) (by omega) hm2
  exact ⟨i,hi,by rw [e1]⟩
theorem wrap_pred {e:Int}(h1:1≤e) (h2:e≤16):IntKind.wrap .i64 (e-1)=e-1:=wrap64_id (by omega) (by omega)
theorem fst1_isSome {E:Nat→Int}:∀m k,(fst1 E m k).isSome=(List.range m).any fun i=>decide (E (k+i)≠0)
  | 0,k=>rfl
  | m+1,k=>by
    unfold fst1
    rw [List.range_succ_eq_map,List.any_cons,List.any_map]
    have hc:((fun i=>decide (E (k+i)≠0)) ∘ Nat.succ)=fun i=>decide (E (k+1+i)≠0):=by
      funext i;simp only [Function.comp];rw [show k+Nat.succ i=k+1+i by omega]
    rw [hc]
    by_cases h:E k=0
    · rw [if_pos h,fst1_isSome m (k+1)];simp [h]
    · rw [if_neg h];simp [h]
theorem co_same {dp ws wj ej pj w e p:Int}(hd:dpB dp=true) (h1:rgB ws dp wj ej pj=true) (h2:rgB ws dp w e p=true) :
    (if (fst1 (coN wj ej pj w e p) 16 0).isSome=true then (2:Int) else 0)=coI wj ej pj w e p:=by
  simp only [rgB,inB,Bool.and_eq_true,decide_eq_true_eq]at h1 h2
  obtain ⟨_,⟨a1,a2⟩,a3,a4⟩:=h1
  obtain ⟨_,⟨b1,b2⟩,b3,b4⟩:=h2
  obtain ⟨i,hi,rfl⟩:=ev_pw hd a1 a2
  obtain ⟨j,hj,rfl⟩:=ev_pw hd b1 b2
  have hpi:=pw_le hi
  have hpj:=pw_le hj
  rw [wrap_pred (by omega) (by omega)]at a4 b4
  obtain ⟨P,rfl⟩:∃P:Nat,pj=(P:Int):=⟨pj.toNat,by omega⟩
  obtain ⟨q,rfl⟩:∃q:Nat,p=(q:Int):=⟨p.toNat,by omega⟩
  have key:=any_eq i hi j hj P (by omega) q (by omega) (by omega) (by omega)
  rw [fst1_isSome]
  unfold coI
  by_cases hw:wj=w
  · have e1:((List.range 16).any fun n=>decide (coN wj (pw i) P w (pw j) q (0+n)≠0))=anyN (pw i) P (pw j) q:=by
      unfold anyN
      congr 1
      funext n
      unfold coN
      rw [if_pos hw,Nat.zero_add]
      rw [Int.tmod_eq_emod_of_nonneg (by omega),Int.tmod_eq_emod_of_nonneg (by omega)]
      by_cases c1:n % pw i=P
      · have d1:(n:Int) % (pw i:Int)=(P:Int):=by exact_mod_cast c1
        by_cases c2:n % pw j=q
        · have d2:(n:Int) % (pw j:Int)=(q:Int):=by exact_mod_cast c2
          simp [c1,c2,d1,d2]
        · have d2:¬(n:Int) % (pw j:Int)=(q:Int):=by exact_mod_cast c2
          simp [c1,c2,d1,d2]
      · have d1:¬(n:Int) % (pw i:Int)=(P:Int):=by exact_mod_cast c1
        simp [c1,d1]
    rw [e1,key,if_pos hw]
    have hmin:min (pw i:Int) (pw j:Int)=((min (pw i) (pw j):Nat):Int):=by omega
    rw [hmin,Int.tmod_eq_emod_of_nonneg (by omega),Int.tmod_eq_emod_of_nonneg (by omega)]
    by_cases c:P % min (pw i) (pw j)=q % min (pw i) (pw j)
    · have d:(P:Int) % ((min (pw i) (pw j):Nat):Int)=(q:Int) % ((min (pw i) (pw j):Nat):Int):=by exact_mod_cast c
      rw [if_pos (by simpa using c),if_pos d]
    · have d:¬(P:Int) % ((min (pw i) (pw j):Nat):Int)=(q:Int) % ((min (pw i) (pw j):Nat):Int):=by exact_mod_cast c
      rw [if_neg (by simpa using c),if_neg d]
  · have e1:((List.range 16).any fun n=>decide (coN wj (pw i) P w (pw j) q (0+n)≠0))=false:=by
      rw [List.any_eq_false]
      intro n _
      simp [coN,hw]
    rw [e1,if_neg hw];rfl
theorem ch_rg {co:Array Value→Int→Int→Int→Nat→Int}{ws dp:Int}{c:Array Value}{k:Nat}(h:chX co ws dp c k=0):rgB ws dp (getInt c (0+k*4+1)) (getInt c (0+k*4+1+1)) (getInt c (0+k*4+1+1+1))=true:=by
  unfold chX at h
  split at h
  · split at h
    · cases h
    · split at h
      · assumption
      · cases h
  · cases h
theorem ch_same {ws dp:Int}{c:Array Value}(hd:dpB dp=true) {k:Nat}(h:∀j,j<k→chX coP ws dp c j=0):chX coR ws dp c k=chX coP ws dp c k:=by
  unfold chX
  by_cases hr:rgB ws dp (getInt c (0+k*4+1)) (getInt c (0+k*4+1+1)) (getInt c (0+k*4+1+1+1))=true
  · rw [fst1_congr (E:=coR c (getInt c (0+k*4+1)) (getInt c (0+k*4+1+1)) (getInt c (0+k*4+1+1+1))) (E':=coP c (getInt c (0+k*4+1)) (getInt c (0+k*4+1+1)) (getInt c (0+k*4+1+1+1))) (n:=k)
      (fun j hj=>co_same hd (ch_rg (h j hj)) hr) k 0 (by omega)]
  · simp only [if_neg hr]
def ckF (s:ByteArray)(ws dp:Int)(c:Array Value)(n:Nat):Int×Int×Int :=
  if inB (s.size:Int) 1 4=true then (if 12<n then (1,0,3) else
    (if inB ws 1 32=true then (if dpB dp=true then
      (match fst1 (chX coP ws dp c) n 0 with | some (i,r)=>(2,(i:Int),r) | none=>(0,0,0)) else (1,0,7)) else (1,0,7))) else (1,0,3)
theorem loop_fst2 {X D:Type}{rd:X→RT (Sum X D)}{S:Nat→X}{E:Nat→Int}{n:Nat}{err:Nat→Int→D}{fin:D}
    (hs:∀k,k<n→(∀j,j<k→E j=0)→(rd (S k)).val=some (if E k=0 then .inl (S (k+1)) else .inr (err k (E k)))) (hf:(rd (S n)).val=some (.inr fin)) :
    ∀m k,k+m=n→(∀j,j<k→E j=0)→loopR rd (S k)=some (match fst1 E m k with | some (i,r)=>err i r | none=>fin)
  | 0,k,e,h0=>by
    obtain rfl:k=n:=by omega
    exact loopR_done hf
  | m+1,k,e,h0=>by
    have h:=hs k (by omega) h0
    unfold fst1
    by_cases he:E k=0
    · rw [if_pos he]at h
      rw [loopR_next h,if_pos he]
      exact loop_fst2 hs hf m (k+1) (by omega) (fun j hj=>by
        rcases Nat.lt_or_ge j k with h1 | h1
        · exact h0 j h1
        · obtain rfl:j=k:=by omega
          exact he)
    · rw [if_neg he]at h
      rw [loopR_done h,if_neg he]
end
end Go.Proofs.Ytoojllndfjamgaa
namespace Go.Proofs.Ytoojllndfjamgaa
open Go.Gi Go.RowKit
noncomputable section
set_option maxRecDepth 100000
set_option maxHeartbeats 2000000
theorem F42_of (n lo hi:Int):F42_ok n lo hi=true∧F42_0 n lo hi=inB n lo hi:=by
  have q:F42 n lo hi=some ⟨inB n lo hi⟩:=by
    unfold F42 rt42 inB
    by_cases h:lo≤n<;>simp [RT.val,h]
  exact ⟨by simp only [F42_ok,q];rfl,by simp only [F42_0,q]⟩
theorem F82_of (n m:Int):F82_ok n m=true∧F82_0 n m=(decide (1≤n)&&decide (Int.tmod m n=0)):=by
  have q:F82 n m=some ⟨decide (1≤n)&&decide (Int.tmod m n=0)⟩:=by
    unfold F82 rt82
    by_cases h:(1:Int)≤n
    · have h0:¬n=0:=by omega
      simp [RT.val,h,h0]
    · simp [RT.val,h]
  exact ⟨by simp only [F82_ok,q];rfl,by simp only [F82_0,q]⟩
theorem row4 {c:Array Value}{n k:Nat}(h:GL C4 4 c n) (hk:k<n):rdOk c C4 (0+k*4)=true:=h.good.2 k hk
section
variable {cc:Array Value}{nc k:Nat}{s nm:ByteArray}{ws dp w e p:Int}
theorem step44a (g:GL C4 4 cc nc)(few:nc≤1000)(hk:k≤nc)(j:Nat)(hj:j<k):(rd44_103x0a ⟨2,[],cc,0,k,(k:Int),(j:Int),s,ws,dp,cc,0,nc,nm,w,e,p⟩).val =
    some (if twE cc nm j=0 then .inl ⟨2,[],cc,0,k,(k:Int),((j+1:Nat):Int),s,ws,dp,cc,0,nc,nm,w,e,p⟩ else .inr (.k0 (j:Int) s ws dp cc 0 nc nm w e p)):=by
  have hji:(j:Int)<(k:Int):=by omega
  have h0:(0:Int)≤(j:Int):=by omega
  have h3:IntKind.wrap .i64 ((j:Int)+1)=((j+1:Nat):Int):=by rw [wrap64_id (by omega) (by omega)];omega
  have hr:rdOk cc C4 (0+j*4)=true:=row4 g (by omega)
  unfold C4 at hr
  unfold twE
  simp only [rd44_103x0a,RT.val,hji,h0,h3,hr,Int.toNat_natCast,Int.ofNat_eq_natCast,decide_true,Bool.and_self,cond_true]
  cases strEq (getStr cc (0+j*4)) nm<;>rfl
theorem step44b (g:GL C4 4 cc nc)(few:nc≤1000)(hk:k≤nc)(he:1≤e)(hv:∀j,j<k→1≤getInt cc (0+j*4+1+1))(j:Nat)(hj:j<k):(rd44_103x0b ⟨2,[],cc,0,k,(k:Int),(j:Int),s,ws,dp,cc,0,nc,nm,w,e,p⟩).val =
    some (if coP cc w e p j=0 then .inl ⟨2,[],cc,0,k,(k:Int),((j+1:Nat):Int),s,ws,dp,cc,0,nc,nm,w,e,p⟩ else .inr (.k0 (j:Int) s ws dp cc 0 nc nm w e p)):=by
  have hji:(j:Int)<(k:Int):=by omega
  have h0:(0:Int)≤(j:Int):=by omega
  have h3:IntKind.wrap .i64 ((j:Int)+1)=((j+1:Nat):Int):=by rw [wrap64_id (by omega) (by omega)];omega
  have hr:rdOk cc C4 (0+j*4)=true:=row4 g (by omega)
  unfold C4 at hr
  have hE:=hv j hj
  have hm:¬min (getInt cc (0+j*4+1+1)) e=0:=by omega
  unfold coP coI
  simp only [rd44_103x0b,RT.val,hji,h0,h3,hr,hm,Int.toNat_natCast,Int.ofNat_eq_natCast,decide_true,decide_false,Bool.not_false,Bool.and_self,cond_true]
  by_cases c1:getInt cc (0+j*4+1)=w
  · by_cases c2:Int.tmod (getInt cc (0+j*4+1+1+1)) (min (getInt cc (0+j*4+1+1)) e)=Int.tmod p (min (getInt cc (0+j*4+1+1)) e)
    · simp only [c1,c2,if_true,decide_true,cond_true];rfl
    · simp only [c1,c2,if_true,if_false,decide_true,decide_false,cond_true,cond_false]
  · simp only [c1,if_true,if_false,decide_false,cond_false]
theorem F44_of (g:GL C4 4 cc nc)(few:nc≤1000)(hkn:k<nc)(hv:∀j,j<k→chX coP ws dp cc j=0) :
    F44_ok s ws dp cc 0 nc (getStr cc (0+k*4)) (getInt cc (0+k*4+1)) (getInt cc (0+k*4+1+1)) (getInt cc (0+k*4+1+1+1)) cc 0 k=true ∧
    F44_0 s ws dp cc 0 nc (getStr cc (0+k*4)) (getInt cc (0+k*4+1)) (getInt cc (0+k*4+1+1)) (getInt cc (0+k*4+1+1+1)) cc 0 k=chX coP ws dp cc k:=by
  have hv2:∀j,j<k→1≤getInt cc (0+j*4+1+1):=fun j hj=>by
    have:=ch_rg (hv j hj)
    simp only [rgB,Bool.and_eq_true,decide_eq_true_eq]at this
    exact this.2.1.1
  have q:F44 s ws dp cc 0 nc (getStr cc (0+k*4)) (getInt cc (0+k*4+1)) (getInt cc (0+k*4+1+1)) (getInt cc (0+k*4+1+1+1)) cc 0 k=some ⟨chX coP ws dp cc k⟩:=by
    unfold F44 rt44 chX
    generalize getStr cc (0+k*4)=nm
    generalize getInt cc (0+k*4+1)=w
    generalize getInt cc (0+k*4+1+1)=e
    generalize getInt cc (0+k*4+1+1+1)=p
    have i2:¬(k:Int)<(k:Int):=by omega
    have la:L44_103x0a (X44_103x0a.mk 2 [] cc 0 k (k:Int) 0 s ws dp cc 0 nc nm w e p)=some (match fst1 (twE cc nm) k 0 with | some (i,r)=>.k0 (i:Int) s ws dp cc 0 nc nm w e p | none=>.k1 s ws dp cc 0 nc nm w e p) :=
      loop_fst (rd:=rd44_103x0a) (S:=fun j=>X44_103x0a.mk 2 [] cc 0 k (k:Int) (j:Int) s ws dp cc 0 nc nm w e p) (E:=twE cc nm) (n:=k) (err:=fun i _=>.k0 (i:Int) s ws dp cc 0 nc nm w e p) (fin:=.k1 s ws dp cc 0 nc nm w e p)
        (fun j hj=>step44a g few (by omega) j hj) (by simp only [rd44_103x0a,RT.val,i2,decide_false,cond_false]) k 0 (by omega)
    simp only [RT.val,(F79_of).1,(F79_of).2,Int.ofNat_eq_natCast,cond_true]
    cases nmB nm with
    | false=>rfl
    | true =>
    simp only [Bool.not_true,cond_false,if_true]
    cases ha:fst1 (twE cc nm) k 0 with
    | some ir =>
      obtain ⟨i,r⟩:=ir
      rw [ha]at la
      have i3:(0:Int)≤(i:Int):=by omega
      simp only [L44_103x0a_k0,L44_103x0a_k0_0,la,i3,Option.isSome_some,decide_true,cond_true,if_true]
    | none =>
    rw [ha]at la
    simp only [L44_103x0a_k0,L44_103x0a_k1,L44_103x0a_k1_0,L44_103x0a_k1_1,L44_103x0a_k1_2,L44_103x0a_k1_3,L44_103x0a_k1_4,L44_103x0a_k1_5,L44_103x0a_k1_6,L44_103x0a_k1_7,L44_103x0a_k1_8,L44_103x0a_k1_9,la,(F42_of _ _ _).1,(F42_of _ _ _).2,(F82_of _ _).1,(F82_of _ _).2,Option.isSome_none,Bool.false_eq_true,if_false,cond_true,cond_false]
    unfold rgB
    cases h1:inB w 0 (IntKind.wrap .i64 (ws-1)) with
    | false=>rfl
    | true =>
    cases h2:(decide (1≤e)&&decide (Int.tmod dp e=0)) with
    | false=>rfl
    | true =>
    cases h3:inB p 0 (IntKind.wrap .i64 (e-1)) with
    | false=>rfl
    | true =>
    simp only [Bool.not_true,Bool.and_self,cond_false,if_true]
    rw [Bool.and_eq_true,decide_eq_true_eq]at h2
    have lb:L44_103x0b (X44_103x0b.mk 2 [] cc 0 k (k:Int) 0 s ws dp cc 0 nc nm w e p)=some (match fst1 (coP cc w e p) k 0 with | some (i,r)=>.k0 (i:Int) s ws dp cc 0 nc nm w e p | none=>.k1 s ws dp cc 0 nc nm w e p) :=
      loop_fst (rd:=rd44_103x0b) (S:=fun j=>X44_103x0b.mk 2 [] cc 0 k (k:Int) (j:Int) s ws dp cc 0 nc nm w e p) (E:=coP cc w e p) (n:=k) (err:=fun i _=>.k0 (i:Int) s ws dp cc 0 nc nm w e p) (fin:=.k1 s ws dp cc 0 nc nm w e p)
        (fun j hj=>step44b g few (by omega) h2.1 hv2 j hj) (by simp only [rd44_103x0b,RT.val,i2,decide_false,cond_false]) k 0 (by omega)
    cases hb:fst1 (coP cc w e p) k 0 with
    | some ir =>
      obtain ⟨i,r⟩:=ir
      rw [hb]at lb
      have i3:(0:Int)≤(i:Int):=by omega
      simp only [L44_103x0b_k0,L44_103x0b_k0_0,lb,i3,Option.isSome_some,decide_true,cond_true,if_true]
    | none =>
      rw [hb]at lb
      simp only [L44_103x0b_k0,L44_103x0b_k1,lb,Option.isSome_none,Bool.false_eq_true,if_false,cond_true,cond_false]
  exact ⟨by simp only [F44_ok,q];rfl,by simp only [F44_0,q]⟩
theorem step15 (g:GL C4 4 cc nc)(few:nc≤1000)(k:Nat)(hk:k<nc)(hv:∀j,j<k→chX coP ws dp cc j=0) :
    (rd15_0 ⟨cc,0,nc,(nc:Int),(k:Int),s,ws,dp,cc,0,nc,1,2,4,8,16⟩).val =
    some (if chX coP ws dp cc k=0 then .inl ⟨cc,0,nc,(nc:Int),((k+1:Nat):Int),s,ws,dp,cc,0,nc,1,2,4,8,16⟩ else .inr (.k0 2 (k:Int) (chX coP ws dp cc k) s ws dp cc 0 nc 1 2 4 8 16)):=by
  have hki:(k:Int)<(nc:Int):=by omega
  have h0:(0:Int)≤(k:Int):=by omega
  have h4:(0:Nat)≤k:=by omega
  have h5:k≤nc:=by omega
  have h3:IntKind.wrap .i64 ((k:Int)+1)=((k+1:Nat):Int):=by rw [wrap64_id (by omega) (by omega)];omega
  have hr:rdOk cc C4 (0+k*4)=true:=row4 g hk
  unfold C4 at hr
  obtain ⟨o,e⟩:=F44_of (s:=s) g few hk hv
  simp only [rd15_0,RT.val,hki,h0,h3,h4,h5,hr,o,e,Int.toNat_natCast,Int.ofNat_eq_natCast,Nat.add_zero,Nat.sub_zero,decide_true,Bool.and_self,Bool.true_and,cond_true]
  by_cases hz:chX coP ws dp cc k=0
  · simp only [hz,decide_true,Bool.not_true,cond_false,if_true]
  · simp only [hz,decide_false,Bool.not_false,cond_true,if_false]
theorem F15_eq (g:GL C4 4 cc nc):F15 s ws dp cc 0 nc=some ⟨(ckF s ws dp cc nc).1,(ckF s ws dp cc nc).2.1,(ckF s ws dp cc nc).2.2⟩:=by
  unfold F15 rt15 ckF
  simp only [RT.val,(F42_of _ _ _).1,(F42_of _ _ _).2,Int.ofNat_eq_natCast,cond_true]
  cases inB (s.size:Int) 1 4 with
  | false=>rfl
  | true =>
  simp only [Bool.not_true,cond_false,if_true]
  by_cases h2:12<nc
  · have i2:(12:Int)<(nc:Int):=by omega
    rw [if_pos h2]
    simp only [i2,decide_true,cond_true]
  have i2:¬(12:Int)<(nc:Int):=by omega
  rw [if_neg h2]
  simp only [i2,decide_false,cond_false]
  cases inB ws 1 32 with
  | false=>rfl
  | true =>
  simp only [Bool.not_true,cond_false,if_true]
  have z1:¬(nc:Int)<(nc:Int):=by omega
  have l0:L15_0 (X15_0.mk cc 0 nc (nc:Int) 0 s ws dp cc 0 nc 1 2 4 8 16)=some (match fst1 (chX coP ws dp cc) nc 0 with | some (i,r)=>.k0 2 (i:Int) r s ws dp cc 0 nc 1 2 4 8 16 | none=>.k1 s ws dp cc 0 nc 1 2 4 8 16) :=
    loop_fst2 (rd:=rd15_0) (S:=fun k=>X15_0.mk cc 0 nc (nc:Int) (k:Int) s ws dp cc 0 nc 1 2 4 8 16) (E:=chX coP ws dp cc) (n:=nc) (err:=fun i r=>.k0 2 (i:Int) r s ws dp cc 0 nc 1 2 4 8 16) (fin:=.k1 s ws dp cc 0 nc 1 2 4 8 16)
      (fun k hk h=>step15 g (by omega) k hk h) (by simp only [rd15_0,RT.val,z1,decide_false,cond_false]) nc 0 (by omega) (fun j hj=>absurd hj (Nat.not_lt_zero _))
  unfold dpB
  generalize decide (dp=1)=d1
  generalize decide (dp=2)=d2
  generalize decide (dp=4)=d3
  generalize decide (dp=8)=d4
  generalize decide (dp=16)=d5
  cases d1<;>cases d2<;>cases d3<;>cases d4<;>cases d5
  all_goals
    cases hf:fst1 (chX coP ws dp cc) nc 0 with
    | some ir =>
      obtain ⟨i,r⟩:=ir
      rw [hf]at l0
      simp only [hf,L15_0_k0,Qc0,Qc1,Qc2,l0,decide_true,decide_false,Bool.true_or,Bool.or_true,Bool.false_or,Bool.or_false,Bool.or_self,Bool.false_eq_true,if_true,if_false,cond_true,cond_false]
    | none =>
      rw [hf]at l0
      simp only [hf,L15_0_k0,L15_0_k1,l0,decide_true,decide_false,Bool.true_or,Bool.or_true,Bool.false_or,Bool.or_false,Bool.or_self,Bool.false_eq_true,if_true,if_false,cond_true,cond_false]
end
theorem F45_of (n lo hi:Int):F45_ok n lo hi=true∧F45_0 n lo hi=inB n lo hi:=by
  have q:F45 n lo hi=some ⟨inB n lo hi⟩:=by
    unfold F45 rt45 inB
    by_cases h:lo≤n<;>simp [RT.val,h]
  exact ⟨by simp only [F45_ok,q];rfl,by simp only [F45_0,q]⟩
theorem row4r {c:Array Value}{n k:Nat}(h:GL C4 4 c n) (hk:k<n):rdOk c C4 (0+k*4)=true:=h.good.2 k hk
theorem rd_and {c:Array Value}{l:Leaf}{L:List Leaf}{i:Nat}(h:rdOk c (l::L) i=true):(rdLeaf c l i).1=true∧rdOk c L (i+1)=true:=by
  simpa only [rdOk,Bool.and_eq_true] using h
section
variable {cc:Array Value}{nc k:Nat}{s nm nmj:ByteArray}{ws dp w e p wj ej pj:Int}
theorem step46a (g:GL C4 4 cc nc)(few:nc≤1000)(hk:k≤nc)(j:Nat)(hj:j<k):(rd46_0 ⟨(k:Int),(j:Int),s,ws,dp,cc,0,nc,nm,w,e,p⟩).val =
    some (if twE cc nm j=0 then .inl ⟨(k:Int),((j+1:Nat):Int),s,ws,dp,cc,0,nc,nm,w,e,p⟩ else .inr (.k0 5 s ws dp cc 0 nc nm w e p)):=by
  have hji:(j:Int)<(k:Int):=by omega
  have hjn:(j:Int)<(nc:Int):=by omega
  have h0:(0:Int)≤(j:Int):=by omega
  have h3:IntKind.wrap .i64 ((j:Int)+1)=((j+1:Nat):Int):=by rw [wrap64_id (by omega) (by omega)];omega
  have hr:isStr cc (0+j*4)=true:=(rd_and (row4r g (by omega))).1
  unfold twE
  simp only [rd46_0,RT.val,hji,hjn,h0,h3,hr,Int.toNat_natCast,Int.ofNat_eq_natCast,Nat.add_zero,decide_true,Bool.and_self,cond_true]
  cases strEq (getStr cc (0+j*4)) nm<;>rfl
theorem step46c (j:Nat)(hE:1≤ej)(he:1≤e)(n:Nat)(hn:n<16):(rd46_2 ⟨(k:Int),(j:Int),(n:Int),s,ws,dp,cc,0,nc,nm,w,e,p,nmj,wj,ej,pj⟩).val =
    some (if coN wj ej pj w e p n=0 then .inl ⟨(k:Int),(j:Int),((n+1:Nat):Int),s,ws,dp,cc,0,nc,nm,w,e,p,nmj,wj,ej,pj⟩ else .inr (.k0 2 s ws dp cc 0 nc nm w e p nmj wj ej pj)):=by
  have hn2:(n:Int)<16:=by omega
  have h3:IntKind.wrap .i64 ((n:Int)+1)=((n+1:Nat):Int):=by rw [wrap64_id (by omega) (by omega)];omega
  have m1:¬ej=0:=by omega
  have m2:¬e=0:=by omega
  unfold coN
  simp only [rd46_2,RT.val,hn2,h3,m1,m2,decide_true,decide_false,Bool.not_false,cond_true]
  by_cases c1:wj=w
  · by_cases c2:Int.tmod (n:Int) ej=pj
    · by_cases c3:Int.tmod (n:Int) e=p
      · simp only [c1,c2,c3,if_true,decide_true,cond_true];rfl
      · simp only [c1,c2,c3,if_true,if_false,decide_true,decide_false,cond_true,cond_false]
    · simp only [c1,c2,if_true,if_false,decide_true,decide_false,cond_true,cond_false]
  · simp only [c1,if_true,if_false,decide_false,cond_false]
theorem step46b (g:GL C4 4 cc nc)(few:nc≤1000)(hk:k≤nc)(he:1≤e)(hv:∀j,j<k→1≤getInt cc (0+j*4+1+1))(j:Nat)(hj:j<k):(rd46_1 ⟨(k:Int),(j:Int),s,ws,dp,cc,0,nc,nm,w,e,p⟩).val =
    some (if coR cc w e p j=0 then .inl ⟨(k:Int),((j+1:Nat):Int),s,ws,dp,cc,0,nc,nm,w,e,p⟩ else .inr (.k0 2 s ws dp cc 0 nc nm w e p)):=by
  have hji:(j:Int)<(k:Int):=by omega
  have hjn:(j:Int)<(nc:Int):=by omega
  have h0:(0:Int)≤(j:Int):=by omega
  have h3:IntKind.wrap .i64 ((j:Int)+1)=((j+1:Nat):Int):=by rw [wrap64_id (by omega) (by omega)];omega
  have hr:rdOk cc C4 (0+j*4)=true:=row4r g (by omega)
  unfold C4 at hr
  have hE:=hv j hj
  unfold coR
  simp only [rd46_1,RT.val,hji,hjn,h0,hr,Int.toNat_natCast,Int.ofNat_eq_natCast,decide_true,Bool.and_self,cond_true]
  generalize getStr cc (0+j*4)=nmj
  generalize getInt cc (0+j*4+1)=wj
  generalize getInt cc (0+j*4+1+1+1)=pj
  revert hE
  generalize getInt cc (0+j*4+1+1)=ej
  intro hE
  have l:L46_2 (X46_2.mk (k:Int) (j:Int) 0 s ws dp cc 0 nc nm w e p nmj wj ej pj)=some (match fst1 (coN wj ej pj w e p) 16 0 with | some (i,r)=>.k0 2 s ws dp cc 0 nc nm w e p nmj wj ej pj | none=>.k1 (k:Int) (j:Int) s ws dp cc 0 nc nm w e p nmj wj ej pj) :=
    loop_fst (rd:=rd46_2) (S:=fun n=>X46_2.mk (k:Int) (j:Int) (n:Int) s ws dp cc 0 nc nm w e p nmj wj ej pj) (E:=coN wj ej pj w e p) (n:=16) (err:=fun _ _=>.k0 2 s ws dp cc 0 nc nm w e p nmj wj ej pj) (fin:=.k1 (k:Int) (j:Int) s ws dp cc 0 nc nm w e p nmj wj ej pj)
      (fun n hn=>step46c j hE he n hn) (by
        have h1:¬((16:Nat):Int)<16:=by omega
        simp only [rd46_2,RT.val,h1,decide_false,cond_false]) 16 0 (by omega)
  cases hf:fst1 (coN wj ej pj w e p) 16 0 with
  | some ir =>
    rw [hf]at l
    simp only [L46_2_k0,Qh0,Qh1,Qh2,Qh3,Qh4,Qh5,Qh6,Qh7,Qh8,Qh9,Qh10,l,Option.isSome_some,if_true,cond_true]
    rfl
  | none =>
    rw [hf]at l
    simp only [L46_2_k0,L46_2_k1,Qi0,Qi1,Qi2,Qi3,Qi4,Qi5,Qi6,Qi7,Qi8,Qi9,Qi10,Qi11,l,h3,Option.isSome_none,Bool.false_eq_true,if_true,if_false,cond_true,cond_false]
theorem F46_of (g:GL C4 4 cc nc)(few:nc≤1000)(hkn:k<nc)(hv:∀j,j<k→chX coR ws dp cc j=0) :
    F46_ok s ws dp cc 0 nc (k:Int)=true∧F46_0 s ws dp cc 0 nc (k:Int)=chX coR ws dp cc k:=by
  have hv2:∀j,j<k→1≤getInt cc (0+j*4+1+1):=fun j hj=>by
    have:=ch_rg (hv j hj)
    simp only [rgB,Bool.and_eq_true,decide_eq_true_eq]at this
    exact this.2.1.1
  have hki:(k:Int)<(nc:Int):=by omega
  have h0:(0:Int)≤(k:Int):=by omega
  have hr:rdOk cc C4 (0+k*4)=true:=row4r g hkn
  unfold C4 at hr
  have q:F46 s ws dp cc 0 nc (k:Int)=some ⟨chX coR ws dp cc k⟩:=by
    unfold F46 rt46 chX
    simp only [RT.val,hki,h0,hr,(F85_of).1,(F85_of).2,Int.toNat_natCast,Int.ofNat_eq_natCast,decide_true,Bool.and_self,cond_true]
    obtain ⟨nm,hnm⟩:∃x,getStr cc (0+k*4)=x:=⟨_,rfl⟩
    obtain ⟨w,hw⟩:∃x,getInt cc (0+k*4+1)=x:=⟨_,rfl⟩
    obtain ⟨e,he⟩:∃x,getInt cc (0+k*4+1+1)=x:=⟨_,rfl⟩
    obtain ⟨p,hp⟩:∃x,getInt cc (0+k*4+1+1+1)=x:=⟨_,rfl⟩
    simp only [hnm,hw,he,hp]
    have i2:¬(k:Int)<(k:Int):=by omega
    have la:L46_0 (X46_0.mk (k:Int) 0 s ws dp cc 0 nc nm w e p)=some (match fst1 (twE cc nm) k 0 with | some (i,r)=>.k0 5 s ws dp cc 0 nc nm w e p | none=>.k1 (k:Int) s ws dp cc 0 nc nm w e p) :=
      loop_fst (rd:=rd46_0) (S:=fun j=>X46_0.mk (k:Int) (j:Int) s ws dp cc 0 nc nm w e p) (E:=twE cc nm) (n:=k) (err:=fun _ _=>.k0 5 s ws dp cc 0 nc nm w e p) (fin:=.k1 (k:Int) s ws dp cc 0 nc nm w e p)
        (fun j hj=>step46a g few (by omega) j hj) (by simp only [rd46_0,RT.val,i2,decide_false,cond_false]) k 0 (by omega)
    cases nmB nm with
    | false=>rfl
    | true =>
    simp only [Bool.not_true,cond_false,if_true]
    cases ha:fst1 (twE cc nm) k 0 with
    | some ir =>
      obtain ⟨i,r⟩:=ir
      rw [ha]at la
      simp only [L46_0_k0,Qf0,la,Option.isSome_some,cond_true,if_true]
    | none =>
    rw [ha]at la
    simp only [L46_0_k0,L46_0_k1,Qg0,Qg1,Qg2,Qg3,Qg4,Qg5,Qg6,Qg7,Qg8,Qg9,Qg10,la,(F45_of _ _ _).1,(F45_of _ _ _).2,Option.isSome_none,Bool.false_eq_true,if_false,cond_true,cond_false]
    unfold rgB
    cases h1:inB w 0 (IntKind.wrap .i64 (ws-1)) with
    | false=>rfl
    | true =>
    simp only [Bool.not_true,Bool.true_and,cond_false]
    by_cases e1:e<1
    · have e2:¬1≤e:=by omega
      simp only [e1,e2,decide_true,decide_false,Bool.false_and,Bool.false_eq_true,if_false,cond_true]
    have e2:1≤e:=by omega
    have e3:¬e=0:=by omega
    simp only [e1,e2,e3,decide_true,decide_false,Bool.true_and,Bool.not_false,cond_true,cond_false]
    by_cases e4:Int.tmod dp e=0
    case neg=>simp only [e4,decide_false,Bool.false_and,Bool.not_false,Bool.false_eq_true,if_false,cond_true]
    simp only [e4,decide_true,Bool.true_and,Bool.not_true,cond_false]
    cases h3:inB p 0 (IntKind.wrap .i64 (e-1)) with
    | false=>rfl
    | true =>
    simp only [Bool.not_true,cond_false,if_true]
    have lb:L46_1 (X46_1.mk (k:Int) 0 s ws dp cc 0 nc nm w e p)=some (match fst1 (coR cc w e p) k 0 with | some (i,r)=>.k0 2 s ws dp cc 0 nc nm w e p | none=>.k1 s ws dp cc 0 nc nm w e p) :=
      loop_fst (rd:=rd46_1) (S:=fun j=>X46_1.mk (k:Int) (j:Int) s ws dp cc 0 nc nm w e p) (E:=coR cc w e p) (n:=k) (err:=fun _ _=>.k0 2 s ws dp cc 0 nc nm w e p) (fin:=.k1 s ws dp cc 0 nc nm w e p)
        (fun j hj=>step46b g few (by omega) e2 hv2 j hj) (by simp only [rd46_1,RT.val,i2,decide_false,cond_false]) k 0 (by omega)
    cases hb:fst1 (coR cc w e p) k 0 with
    | some ir =>
      obtain ⟨i,r⟩:=ir
      rw [hb]at lb
      simp only [L46_1_k0,Qj0,lb,Option.isSome_some,cond_true,if_true]
    | none =>
      rw [hb]at lb
      simp only [L46_1_k0,L46_1_k1,lb,Option.isSome_none,Bool.false_eq_true,if_false,cond_true,cond_false]
  exact ⟨by simp only [F46_ok,q];rfl,by simp only [F46_0,q]⟩
theorem step16 (g:GL C4 4 cc nc)(few:nc≤1000)(hd:dpB dp=true)(k:Nat)(hk:k<nc)(hv:∀j,j<k→chX coP ws dp cc j=0) :
    (rd16_0 ⟨(k:Int),s,ws,dp,cc,0,nc⟩).val =
    some (if chX coP ws dp cc k=0 then .inl ⟨((k+1:Nat):Int),s,ws,dp,cc,0,nc⟩ else .inr (.k0 2 (k:Int) (chX coP ws dp cc k) s ws dp cc 0 nc)):=by
  have hki:(k:Int)<(nc:Int):=by omega
  have h3:IntKind.wrap .i64 ((k:Int)+1)=((k+1:Nat):Int):=by rw [wrap64_id (by omega) (by omega)];omega
  have hv2:∀j,j<k→chX coR ws dp cc j=0:=fun j hj=>by rw [ch_same hd (fun i hi=>hv i (by omega))];exact hv j hj
  obtain ⟨o,e⟩:=F46_of (s:=s) g few hk hv2
  rw [ch_same hd hv]at e
  simp only [rd16_0,RT.val,hki,h3,o,e,Int.ofNat_eq_natCast,decide_true,cond_true]
  by_cases hz:chX coP ws dp cc k=0
  · simp only [hz,decide_true,Bool.not_true,cond_false,if_true]
  · simp only [hz,decide_false,Bool.not_false,cond_true,if_false]
theorem F16_eq (g:GL C4 4 cc nc):F16 s ws dp cc 0 nc=some ⟨(ckF s ws dp cc nc).1,(ckF s ws dp cc nc).2.1,(ckF s ws dp cc nc).2.2⟩:=by
  unfold F16 rt16 ckF
  simp only [RT.val,(F45_of _ _ _).1,(F45_of _ _ _).2,Int.ofNat_eq_natCast,cond_true]
  cases inB (s.size:Int) 1 4 with
  | false=>rfl
  | true =>
  simp only [Bool.not_true,cond_false,if_true]
  by_cases h2:12<nc
  · have i2:(12:Int)<(nc:Int):=by omega
    rw [if_pos h2]
    simp only [i2,decide_true,cond_true]
  have i2:¬(12:Int)<(nc:Int):=by omega
  rw [if_neg h2]
  simp only [i2,decide_false,cond_false]
  have z1:¬(nc:Int)<(nc:Int):=by omega
  have l0:dpB dp=true→L16_0 (X16_0.mk 0 s ws dp cc 0 nc)=some (match fst1 (chX coP ws dp cc) nc 0 with | some (i,r)=>.k0 2 (i:Int) r s ws dp cc 0 nc | none=>.k1 s ws dp cc 0 nc):=fun hd =>
    loop_fst2 (rd:=rd16_0) (S:=fun k=>X16_0.mk (k:Int) s ws dp cc 0 nc) (E:=chX coP ws dp cc) (n:=nc) (err:=fun i r=>.k0 2 (i:Int) r s ws dp cc 0 nc) (fin:=.k1 s ws dp cc 0 nc)
      (fun k hk h=>step16 g (by omega) hd k hk h) (by simp only [rd16_0,RT.val,z1,Int.ofNat_eq_natCast,decide_false,cond_false]) nc 0 (by omega) (fun j hj=>absurd hj (Nat.not_lt_zero _))
  revert l0
  unfold dpB
  generalize decide (dp=1)=d1
  generalize decide (dp=2)=d2
  generalize decide (dp=4)=d3
  generalize decide (dp=8)=d4
  generalize decide (dp=16)=d5
  intro l0
  cases inB ws 1 32<;>cases d1<;>cases d2<;>cases d3<;>cases d4<;>cases d5
  all_goals first | rfl | skip
  all_goals
    have l0:=l0 rfl
    cases hf:fst1 (chX coP ws dp cc) nc 0 with
    | some ir =>
      obtain ⟨i,r⟩:=ir
      rw [hf]at l0
      simp only [hf,L16_0_k0,Ql0,Ql1,Ql2,l0,Bool.not_true,Bool.not_false,Bool.true_or,Bool.or_true,Bool.false_or,Bool.or_false,Bool.or_self,Bool.false_eq_true,if_true,if_false,cond_true,cond_false]
    | none =>
      rw [hf]at l0
      simp only [hf,L16_0_k0,L16_0_k1,l0,Bool.not_true,Bool.not_false,Bool.true_or,Bool.or_true,Bool.false_or,Bool.or_false,Bool.or_self,Bool.false_eq_true,if_true,if_false,cond_true,cond_false]
end
end
end Go.Proofs.Ytoojllndfjamgaa
