/- Part 11 of the texts below the claim. Conditions: none. -/
import Derived.Test.YtggaomgopenkfaaMg10
import Derived.Test.YtggaomgopenkfaaMg7
import Derived.Test.YtggaomgopenkfaaMg6
set_option linter.unusedVariables false
set_option linter.unusedSimpArgs false
namespace Go.Gi
open Go.RowKit
noncomputable section
abbrev vT:Value:=.bool true
abbrev vF:Value:=.bool false
abbrev vI (n:Nat):Value:=.int .i64 (.ofNat n)
abbrev vJ (n:Nat):Value:=.int .i64 (.negSucc n)
structure CF where
  g:Nat
  args:List Value
  u:Value
def CF.Ok (P:Program)(c:CF):Prop:=∀h,Fact P (.call c.g ⟨c.args⟩ h) (.ret c.u h)
def lookCF (f:Nat)(vs:List Value)(h:Hp):List CF→Option AT
  | []=>none
  | c::r=>match Nat.beq f c.g with
    | true=>(match eqLs (eqVn 8) vs c.args with
      | true=>some (.leaf (.ret c.u h))
      | false=>lookCF f vs h r)
    | false=>lookCF f vs h r
def tabA (l:List CF):Ans:=fun t=>match t with
  | .call f vs h=>lookCF f vs.toList h l
  | _=>none
inductive CFs (P:Program):List CF→Prop
  | nil:CFs P []
  | cons {c:CF} {l:List CF} (h:c.Ok P) (r:CFs P l):CFs P (c::l)
theorem lookCF_ok {P:Program}{f:Nat}{vs:List Value}{h:Hp}:∀{l:List CF},CFs P l→∀{x:AT}{o:Out},lookCF f vs h l=some x→x.out=some o→Fact P (.call f ⟨vs⟩ h) o
  | [],_,x,o,hx,_=>by cases hx
  | c::r,hl,x,o,hx,ho=>by
    cases hl with
    | cons hc hr =>
      unfold lookCF at hx
      split at hx
      · rename_i hf
        split at hx
        · rename_i ha
          simp only[Option.some.injEq]at hx;subst hx;simp only[AT.out,Option.some.injEq]at ho;subst ho
          rw[Nat.eq_of_beq_eq_true hf,eqLs_eq (fun _ _ h=>eqVn_eq h) ha]
          exact hc h
        · exact lookCF_ok hr hx ho
      · exact lookCF_ok hr hx ho
theorem tabA_ok {P:Program}{l:List CF}(hl:CFs P l):Known P (tabA l):=by
  intro t x o h ho;unfold tabA at h
  split at h
  · rename_i f vs hh
    exact lookCF_ok hl h ho
  · cases h
def frDs (f:Value→Option Value):List Value→Option (List Value)
  | []=>some []
  | v::r=>match f v with
    | some u=>(match frDs f r with
      | some l=>some (u::l)
      | none=>none)
    | none=>none
def frC (f:Value→Option Value)(v:Value):Option Value:=match v with
  | .slice none 0 0=>some (lstV ⟨[]⟩ 0 0 1)
  | v=>f v
def frD (bl:List Ob):Nat→Value→Option Value
  | 0,_=>none
  | n+1,v=>match v with
    | .slice (some ⟨b,off,none⟩) len sz=>(match nthO bl b with
      | some (.cells c false)=>(match frDs (frC (frD bl n)) c.toList with
        | some l=>if off+len*sz≤c.size then some (lstV ⟨l⟩ off len sz) else none
        | none=>none)
      | _=>none)
    | .pointer (some ⟨b,off,none⟩)=>(match nthO bl b with
      | some (.cells c false)=>(match frDs (frC (frD bl n)) c.toList with
        | some l=>some (dptV ⟨l⟩ off)
        | none=>none)
      | _=>none)
    | .agg ⟨l⟩=>(match frDs (frD bl n) l with
      | some l=>some (.agg ⟨l⟩)
      | none=>none)
    | .iface t v=>(match frD bl n v with
      | some v=>some (.iface t v)
      | none=>none)
    | .func (.func g) ⟨l⟩ ⟨m⟩=>(match frDs (frD bl n) l,frDs (frD bl n) m with
      | some l,some m=>some (.func (.func g) ⟨l⟩ ⟨m⟩)
      | _,_=>none)
    | v=>if fz0 v then some v else none
def frDV (bl:List Ob)(v:Value):Option Value:=match v with
  | .tuple ⟨x::l⟩=>(match frDs (frD bl 8) (x::l) with
    | some l=>some (.tuple ⟨l⟩)
    | none=>none)
  | v=>frD bl 8 v
def frDK:Kn
  | .ret v h=>(match frDV h.bl v with
    | some v=>some (.ret v ⟨[],0,[]⟩)
    | none=>none)
  | _=>none
section
variable {K:Nat→Prop}{w0 w:World} {φ:Phi}{X:List Ob}{z:Nat→Option Obj}
theorem frDs_ok {f:Value→Option Value}(hf:∀v u v',f v=some u→VR φ v v'→FR z u v'):∀{l us l':List Value},frDs f l=some us→VRl φ l l'→FRl z us l'
  | [],us,_,h,hv=>by
    cases hv
    simp only[frDs,Option.some.injEq]at h;subst h;exact .nil
  | v::r,us,_,h,hv=>by
    cases hv with
    | cons h1 h2 =>
      simp only[frDs]at h
      split at h
      · rename_i u hu
        split at h
        · rename_i l hl
          simp only[Option.some.injEq]at h;subst h;exact .cons (hf _ _ _ hu h1) (frDs_ok hf hl h2)
        · cases h
      · cases h
theorem FRl.fn {z:Nat→Option Obj} {l l' m m':List Value}(g:FuncId) (h:FRl z l l') (h2:FRl z m m'):FR z (.func (.func g) ⟨l⟩ ⟨m⟩) (.func (.func g) ⟨l'⟩ ⟨m'⟩):=by
  have hh:∀{us ys:List Value},FRl z us ys→(⟨us⟩:Array Value).size=(⟨ys⟩:Array Value).size∧∀i,i<(⟨us⟩:Array Value).size→FR z ((⟨us⟩:Array Value).getD i undef) ((⟨ys⟩:Array Value).getD i undef):=by
    intro us ys hf
    refine ⟨by simpa using hf.agg.1,fun i hi=>?_⟩
    rcases hf.agg.2 i with h5 | h5
    · exact h5
    · simp at hi;omega
  exact .fn (hh h).1 (hh h).2 (hh h2).1 (hh h2).2
theorem cells_frl {c C:Array Value}{base:Nat}(hC:base+c.size≤C.size) (h2:∀(i:Nat) (v:Value),c[i]?=some v→∃v',C[base+i]?=some v'∧VR φ v v'):VRl φ c.toList ((C.toList.drop base).take c.size):=by
  have key:∀(l:List Value) (m:List Value),l.length=m.length→(∀(i:Nat) (v:Value),l[i]?=some v→∃v',m[i]?=some v'∧VR φ v v')→VRl φ l m:=by
    intro l
    induction l with
    | nil=>intro m hl _;cases m with
      | nil=>exact .nil
      | cons _ _=>simp at hl
    | cons x r ih=>intro m hl hh;cases m with
      | nil=>simp at hl
      | cons y s =>
        refine .cons ?_ (ih s (by simpa using hl) fun i v hv=>by simpa using hh (i+1) v (by simpa using hv))
        obtain ⟨v',h3,h4⟩:=hh 0 x rfl
        simp only[List.getElem?_cons_zero,Option.some.injEq]at h3
        rw[h3];exact h4
  refine key _ _ (by simp;omega) fun i v hv=>?_
  have hv2:c[i]?=some v:=by rw[← Array.getElem?_toList];exact hv
  obtain ⟨v',h3,h4⟩:=h2 i v hv2
  refine ⟨v',?_,h4⟩
  have hi:i<c.size:=by rw[Array.getElem?_eq_some_iff]at hv2;exact hv2.1
  rw[List.getElem?_take,if_pos hi,List.getElem?_drop,Array.getElem?_toList]
  exact h3
theorem FRl.cells {l:List Value}{C:Array Value}{base n:Nat}(h:FRl z l ((C.toList.drop base).take n)) (hC:base+n≤C.size):l.length=n∧∀i,i<(⟨l⟩:Array Value).size→FR z ((⟨l⟩:Array Value).getD i undef) (C.getD (base+i) undef):=by
  have hn:l.length=n:=by rw[h.agg.1];simp;omega
  refine ⟨hn,fun i hi=>?_⟩
  have hi':i<n:=by simpa [hn] using hi
  rcases h.agg.2 i with h1 | h1
  · have e:(⟨(C.toList.drop base).take n⟩:Array Value).getD i undef=C.getD (base+i) undef:=by
      rw[Array.getD_eq_getD_getElem?,Array.getD_eq_getD_getElem?]
      have:(⟨(C.toList.drop base).take n⟩:Array Value)[i]?=C[base+i]?:=by
        rw[← Array.getElem?_toList,List.getElem?_take,if_pos hi',List.getElem?_drop,Array.getElem?_toList]
      rw[this]
    rw[← e];exact h1
  · omega
theorem frC_ok {f:Value→Option Value}(hf:∀v u v',f v=some u→VR φ v v'→FR z u v'):∀v u v',frC f v=some u→VR φ v v'→FR z u v':=by
  intro v u v' h hv;unfold frC at h
  split at h
  · cases h;cases hv;exact .lstZ _ _ _ _
  · exact hf _ _ _ h hv
theorem frD_ok (h:Made 0 z φ X w):∀{n:Nat} {v u v':Value},frD X n v=some u→VR φ v v'→FR z u v'
  | 0,_,_,_,hk,_=>by cases hk
  | n+1,v,u,v',hk,hv=>by
    have ih:∀v u v',frD X n v=some u→VR φ v v'→FR z u v':=fun v u v' h1 h2=>frD_ok h h1 h2
    unfold frD at hk
    split at hk
    · rename_i b off len sz
      rw[nthO_eq]at hk
      split at hk
      · rename_i c hb
        split at hk
        · rename_i l hl
          split at hk
          · rename_i hle
            simp only[Option.some.injEq]at hk;subst hk;obtain ⟨B,base,tot,C,el,fr,h3,hz,h8,h6⟩:=h.obs b _ hb (Nat.zero_le _)
            cases hv with
            | sliceZ _ a' k'=>exact .lstZ _ _ _ _
            | slice hφ hl1 hc =>
              rw[h3]at hφ;cases hφ;obtain ⟨k1,k2⟩:=(frDs_ok (frC_ok ih) hl (cells_frl h8 h6)).cells h8
              exact .lst hz (by simpa [k1] using h8) k2 hl1 (by simpa [k1] using hle)
          · cases hk
        · cases hk
      · cases hk
    · rename_i b off
      rw[nthO_eq]at hk
      split at hk
      · rename_i c hb
        split at hk
        · rename_i l hl
          simp only[Option.some.injEq]at hk;subst hk;obtain ⟨B,base,tot,C,el,fr,h3,hz,h8,h6⟩:=h.obs b _ hb (Nat.zero_le _)
          cases hv with
          | ptr hφ =>
            rw[h3]at hφ;cases hφ;obtain ⟨k1,k2⟩:=(frDs_ok (frC_ok ih) hl (cells_frl h8 h6)).cells h8
            exact .dpt hz (by simpa [k1] using h8) k2
        · cases hk
      · cases hk
    · rename_i l
      split at hk
      · rename_i us hl
        simp only[Option.some.injEq]at hk;subst hk;obtain ⟨⟨ys⟩,rfl,hs⟩:=hv.agg_inv;exact (frDs_ok ih hl hs.toList).fr
      · cases hk
    · rename_i t x
      split at hk
      · rename_i y hy
        simp only[Option.some.injEq]at hk;subst hk
        cases hv with
        | iface _ hv=>exact .iface _ (ih _ _ _ hy hv)
      · cases hk
    · rename_i g l m
      split at hk
      · rename_i us ws hl hm
        simp only[Option.some.injEq]at hk;subst hk
        cases hv with
        | @fn _ _ first' _ cap' hg h1 h2 h3 h4 =>
          obtain ⟨first'⟩:=first';obtain ⟨cap'⟩:=cap';exact FRl.fn g (frDs_ok ih hl (VRs.toList (VRs.of h1 h2))) (frDs_ok ih hm (VRs.toList (VRs.of h3 h4)))
      · cases hk
    · split at hk
      · rename_i hf
        simp only[Option.some.injEq]at hk;subst hk;exact fz0_fr h hf hv
      · cases hk
theorem FRl.vrl {ψ:Phi} {l l':List Value}(h:FRl ψ.z l l'):VRl ψ l l':=by
  induction h with
  | nil=>exact .nil
  | cons h _ ih=>exact .cons h.vr ih
theorem frDV_ok {ψ:Phi}(h:Made 0 ψ.z φ X w) {v u v':Value}(hk:frDV X v=some u) (hv:VR φ v v'):VR ψ u v':=by
  unfold frDV at hk
  split at hk
  · rename_i x l
    split at hk
    · rename_i us hl
      simp only[Option.some.injEq]at hk;subst hk;obtain ⟨⟨ys⟩,rfl,hs⟩:=hv.tuple_inv rfl
      exact (frDs_ok (fun _ _ _ h1 h2=>frD_ok h h1 h2) hl hs.toList).vrl.vrs.tuple
    · cases hk
  · exact (frD_ok h hk hv).vr
end
section
variable {P:Program}
theorem Fact.liftD {f:FuncId}{args:Array Value}{v u:Value}{h1:Hp}(hf:Fact P (.call f args ⟨[],0,[]⟩) (.ret v h1)) (hfz:frDV h1.bl v=some u)
    (ha:args.toList.all pureA=true) (h:Hp):Fact P (.call f args h) (.ret u h):=by
  obtain ⟨_,hh⟩:=hf.1 (Nat.le_refl _)
  refine ⟨fun hb=>⟨Pres.refl _,?_⟩,trivial⟩
  intro K w0 φ w args' n hI hA;have hI':Inv K w0 φ ([]++h.bl) w:=hI
  have hN:=hI'.narrow (H0:=[]) (fun b ob h=>by simp at h)
  have hA1:VRs (cut φ ([]:List Ob).length) args args':=VRs.of hA.size fun i hi=>scT_cut (all_getD (p:=pureA) ha hi) (hA.getD i)
  refine (hh _ w _ w args' n hN hA1).mono ?_
  intro e w' he
  cases e with
  | returned v' =>
    obtain ⟨φ',hle,hv',hF⟩:=he
    have hZ:=hF.freeze (H1:=[]) (k:=0) (fun b ob h=>by simp at h)
    have k1:=frDV_ok (ψ:=⟨fun b=>if b<([]:List Ob).length+0 then φ' b else none,zF φ' h1.bl 0 w'⟩) (zF_made hF 0) hfz hv'
    have hle2:le (cut φ ([]:List Ob).length) ⟨fun b=>if b<([]:List Ob).length+0 then φ' b else none,zF φ' h1.bl 0 w'⟩:=by
      refine ⟨fun b x hx=>?_,fun B o hB=>(zF_made hF 0).le B o (hle.zz B o hB)⟩
      rw[cut_ge (show ([]:List Ob).length≤b from Nat.zero_le b)]at hx;cases hx
    obtain ⟨φ'',q1,q2,q3⟩:=hI'.widen (H1:=[]) (X:=[]) hZ hle2 .nil
    refine ⟨φ'',q1,?_,q3⟩
    have hc:cut ⟨fun b=>if b<([]:List Ob).length+0 then φ' b else none,zF φ' h1.bl ([]:List Ob).length w'⟩ ([]:List Ob).length=⟨fun b=>if b<([]:List Ob).length+0 then φ' b else none,zF φ' h1.bl 0 w'⟩:=by
      unfold cut
      simp
    rw[hc]at q2;exact k1.mono q2
  | panicked ch=>exact he.elim
  | outgrown=>exact he.elim
end
def hasApp (os:Array Oper):Bool:=os.toList.any fun o=>match o.op with
  | .call { callee:=.builtin b,.. }=>(match b with | .append | .copy=>true | _=>false)
  | _=>false
def forceK (k:Kn):Kn:=fun o=>match o with
  | .ex e s=>forceE s.h.bl fun bl=>k (.ex e ⟨s.t,s.d,⟨bl,s.h.base,s.h.wr⟩⟩)
  | o=>k o
theorem forceK_eq (k:Kn):forceK k=k:=by
  funext o
  cases o with
  | ex e s=>simp only[forceK,forceE_eq]
  | _=>rfl
def catL:List Value→Nat→Nat→List Value→List Value
  | [],_,_,m=>m
  | x::r,off,n,m=>match off with
    | o+1=>catL r o n m
    | 0=>(match n with
      | k+1=>x::catL r 0 k m
      | 0=>m)
theorem catL_eq:∀(l:List Value) (off n:Nat) (m:List Value),catL l off n m=(l.drop off).take n++m
  | [],off,n,m=>by simp [catL]
  | x::r,0,0,m=>by simp [catL]
  | x::r,0,k+1,m=>by simp [catL,catL_eq r 0 k m]
  | x::r,o+1,n,m=>by simp [catL,catL_eq r o n m]
theorem catA_eq (c:Array Value)(off n:Nat)(m:Array Value):(⟨catL c.toList off n m.toList⟩:Array Value)=c.extract off (off+n)++m:=by
  apply Array.ext'
  rw[catL_eq,Array.toList_append,Array.toList_extract,List.extract]
  simp
def appendZ (P:Program)(h:Hp)(ts tx:TypeId)(s x:Value)(k:Value→Hp→Option Out):Option Out :=
  match P.underlying ts,P.underlying tx with
  | some (.slice e),some d =>
    if intB d=true then none else
    match P.info? e,zeroB P e with
    | some inf,some z =>
      natF inf.size fun isz=>natF inf.bytes fun iby =>
      match s,lenB x with
      | .slice base sl sz,some n =>
        natF n fun n =>
        cond (decide (n=0)) (k (.slice base sl sz) h)
        (newC h.bl isz n x fun news =>
          cond (decide (news.size=n*isz)&&(oneAll news&&decide (z.cells.size=isz))) (cond (decide ((sl+n)*iby≤140737488355328)&&decide (sl+n≤4611686018427387904))
            (match base with
            | none=>cond (decide (sl=0)) (k (.slice (some ⟨h.bl.length,0,none⟩) n isz) (h.push (.cells news false))) none
            | some ⟨b,off,none⟩ =>
              match nthO h.bl b with
              | some (.cells c false) =>
                cond (decide (sz=isz)) (cond (decide (off+sl*isz≤c.size))
                  (k (.slice (some ⟨h.bl.length,0,none⟩) (sl+n) isz) ((h.put b .dead).push (.cells ⟨catL c.toList off (sl*isz) news.toList⟩ false))) none) none
              | _=>none
            | _=>none) none) none)
      | _,_=>none
    | _,_=>none
  | _,_=>none
theorem appendZ_eq:appendZ=appendC:=by
  funext P h ts tx s x k
  simp only[appendZ,appendC,catA_eq]
  rfl
def loudZ (P:Program) (ρ:Operand→Value)(h:Hp)(o:Oper)(k:Ends):Option Out :=
  match o.op with
  | .call { callee:=.builtin .append,args,argTypes } =>
    match args.toList,argTypes.toList with
    | [s,x],[ts,tx]=>if okO s&&okO x then appendZ P h ts tx (ρ s) (ρ x) k.val else none
    | _,_=>none
  | _=>loudC P ρ h o k
theorem loudZ_eq:loudZ=loudC:=by
  funext P ρ h o k
  unfold loudZ
  split
  · rename_i args ts ho
    unfold loudC;simp only[ho,appendZ_eq]
    rfl
  · rfl
def opDZ (P:Program)(self:SelfC)(T:List Value)(h:Hp)(o:Oper)(k:Value→Hp→Bool→Option Out):Option Out :=
  match aread P (evalT T) h.bl o with
  | some v=>k v h false
  | none=>loudZ P (evalT T) h o {
    val:=fun v h'=>heapK h' fun h'=>k v h' true
    enter:=fun f args=>headsK args fun args=>self (.call f ⟨args⟩ h) fun | .ret v h'=>k v h' true | _=>none
    yield:=fun l args=>headsK args fun args=>self (.round l ⟨args⟩ h) fun | .ret v h'=>k v h' true | _=>none
    defer:=fun _=>none
    panic:=fun _=>none }
theorem opDZ_ok {P:Program}{self:SelfC}{sd:Self}(hs:CpsOk self sd) {T:List Value}{h:Hp}{o:Oper}{k:Value→Hp→Bool→Option Out}{r:Out}(hc:opDZ P self T h o k=some r) :
    (∃v,aread P (evalT T) h.bl o=some v∧k v h false=some r)∨(aread P (evalT T) h.bl o=none∧∃v h',dloud P sd (evalT T) h o=some (v,h')∧k v h' true=some r):=by
  unfold opDZ at hc
  split at hc
  · rename_i v ha;exact .inl ⟨v,ha,hc⟩
  · rename_i ha
    refine .inr ⟨ha,?_⟩
    rw[loudZ_eq]at hc;obtain ⟨nx,h1,h2⟩:=loudC_ok hc;unfold dloud;rw[h1]
    cases nx with
    | val v hp=>simp only[Ends.on,heapK_eq]at h2;exact ⟨_,_,rfl,h2⟩
    | enter f args =>
      simp only[Ends.on,headsK_eq]at h2;obtain ⟨o',h3,h4⟩:=hs _ _ _ h2
      rw[show (⟨args.toList⟩:Array Value)=args from rfl]at h3
      simp only[h3]
      cases o' with
      | ret v hp=>exact ⟨_,_,rfl,h4⟩
      | _=>cases h4
    | yield l' args =>
      simp only[Ends.on,headsK_eq]at h2;obtain ⟨o',h3,h4⟩:=hs _ _ _ h2
      rw[show (⟨args.toList⟩:Array Value)=args from rfl]at h3
      simp only[h3]
      cases o' with
      | ret v hp=>exact ⟨_,_,rfl,h4⟩
      | _=>cases h4
    | defer d=>cases h2
    | panic v=>cases h2
    | recover=>cases h2
def drunZ (P:Program)(self:SelfC)(os:Array Oper):List Nat→List Value→Hp→(List Rec→List Value→Hp→Option Out)→Option Out
  | [],T,h,k=>k [] T h
  | i::r,T,h,k =>
    match os[i]? with
    | none=>none
    | some o =>
      guardC os o T
        (fun T=>opDZ P self T h o fun v h' loud=>headK v fun v=>setK' T o.dst v fun T'=>drunZ P self os r T' h' fun l T2 h2=>k (⟨i,o,T,v,h,h',loud⟩::l) T2 h2)
        (fun T=>setK' T o.dst undef fun T'=>drunZ P self os r T' h fun l T2 h2=>k (⟨i,o,T,undef,h,h,false⟩::l) T2 h2)
theorem drunZ_ok {P:Program}{self:SelfC}{sd:Self}(hs:CpsOk self sd) {os:Array Oper}:∀{l:List Nat}{T:List Value}{h:Hp}{k:List Rec→List Value→Hp→Option Out}{r:Out},drunZ P self os l T h k=some r →
    ∃recs T' h',drun P sd os l T h=some (recs,T',h')∧k recs T' h'=some r
  | [],T,h,k,r,hc=>⟨_,_,_,rfl,hc⟩
  | i::l,T,h,k,r,hc=>by
    simp only[drunZ]at hc;simp only[drun]
    split at hc
    · cases hc
    · rename_i o hi
      rw[hi];simp only[forceV_eq,putK_eq,forceH_eq]
      rcases guardC_ok hc with ⟨hw,hc⟩ | ⟨hw,hc⟩
      · rw[if_pos hw]
        rcases opDZ_ok hs hc with ⟨v,ha,hc⟩ | ⟨ha,v,h',hd,hc⟩
        · rw[ha]
          simp only[headK_eq,setK'_eq]at hc;obtain ⟨recs,T',h',h1,h2⟩:=drunZ_ok hs hc;simp only;rw[h1];exact ⟨_,_,_,rfl,h2⟩
        · rw[ha]
          simp only[headK_eq,setK'_eq]at hc;obtain ⟨recs,T',h'',h1,h2⟩:=drunZ_ok hs hc;simp only;rw[hd];simp only;rw[h1];exact ⟨_,_,_,rfl,h2⟩
      · rw[if_neg (by rw[hw];intro h;cases h)]
        simp only[setK'_eq]at hc;obtain ⟨recs,T',h'',h1,h2⟩:=drunZ_ok hs hc;rw[h1];exact ⟨_,_,_,rfl,h2⟩
def drawnFZ (P:Program)(self:SelfC)(os:Array Oper)(s:St)(k:Ex→St→Option Out):Option Out :=
  if planOk os (late os) (mkClo os (late os) (List.replicate os.size 0)) then
    drunZ P self os (late os) s.t s.h fun recs T h =>
      if floatOk (mkClo os (late os) (List.replicate os.size 0)) [] recs&&recs.all fun r=>!(r.loud&&isAlR r)||r.o.dst.all fun t=>decide (t<s.t.length) then
        fchkC P os (mkClo os (late os) (List.replicate os.size 0)) recs (k .normal { t:=T,d:=s.d,h:=h })
      else none
  else none
def sameZ (P:Program)(os:Array Oper)(clo:List Nat)(recs:List Rec):Bool:=(chkC P os clo recs (some (.ret .nilFunc ⟨[],0,[]⟩))).isSome||dchk P os clo recs
def drawnNZ (P:Program)(self:SelfC)(os:Array Oper)(s:St)(k:Ex→St→Option Out):Option Out :=
  if planOk os (Region.linearise .any os 0) (mkClo os (Region.linearise .any os 0) (List.replicate os.size 0)) then
    drunZ P self os (Region.linearise .any os 0) s.t s.h fun recs T h =>
      cond (sameZ P os (mkClo os (Region.linearise .any os 0) (List.replicate os.size 0)) recs) (k .normal { t:=T,d:=s.d,h:=h }) none
  else none
def drawnXZ (P:Program)(self:SelfC)(os:Array Oper)(s:St)(k:Ex→St→Option Out):Option Out :=
  match floaty os (mkClo os (Region.linearise .any os 0) (List.replicate os.size 0)) with
  | true=>drawnFZ P self os s k
  | false=>drawnNZ P self os s k
theorem drawnFZ_ok {P:Program}{self:SelfC}{sd:Self}(hs:CpsOk self sd) {rd:Option Nat}{id:Nat}{os:Array Oper}{s:St}{k:Ex→St→Option Out}{r:Out}(hc:drawnFZ P self os s k=some r) :
    ∃e s',drawnF P sd rd id os s=some (.ex e s')∧k e s'=some r:=by
  unfold drawnFZ at hc;unfold drawnF
  split at hc
  · rename_i hp
    rw[if_pos hp];obtain ⟨recs,T,h,h1,h2⟩:=drunZ_ok hs hc;rw[h1]
    split at h2
    · rename_i hf
      obtain ⟨h3,h4⟩:=fchkC_ok h2;simp only
      rw[if_pos (by rw[h3,hf];rfl)]
      exact ⟨_,_,rfl,h4⟩
    · cases h2
  · cases hc
theorem drawnNZ_ok {P:Program}{self:SelfC}{sd:Self}(hs:CpsOk self sd) {rd:Option Nat}{id:Nat}{os:Array Oper}{s:St}{k:Ex→St→Option Out}{r:Out}(hc:drawnNZ P self os s k=some r) :
    ∃e s',drawn P sd rd id os s=some (.ex e s')∧k e s'=some r:=by
  unfold drawnNZ at hc;unfold drawn
  split at hc
  · rename_i hp
    rw[if_pos hp];obtain ⟨recs,T,h,h1,h2⟩:=drunZ_ok hs hc;rw[h1];obtain ⟨h3,h4⟩:=cond_some h2
    have h5:dchk P os (mkClo os (Region.linearise .any os 0) (List.replicate os.size 0)) recs=true:=by
      unfold sameZ at h3;rw[Bool.or_eq_true]at h3
      rcases h3 with h3 | h3
      · obtain ⟨x,hx⟩:=Option.isSome_iff_exists.1 h3
        exact (chkC_ok (fun r hm=>((drun_tr _ _ _ _ _ _ h1).1.recs r hm).1) hx).1
      · exact h3
    simp only;rw[if_pos h5];exact ⟨_,_,rfl,h4⟩
  · cases hc
theorem drawnXZ_ok {P:Program}{self:SelfC}{sd:Self}(hs:CpsOk self sd) {rd:Option Nat}{id:Nat}{os:Array Oper}{s:St}{k:Ex→St→Option Out}{r:Out}(hc:drawnXZ P self os s k=some r) :
    ∃e s',drawnX P sd rd id os s=some (.ex e s')∧k e s'=some r:=by
  unfold drawnXZ at hc;unfold drawnX
  cases hf:floaty os (mkClo os (Region.linearise .any os 0) (List.replicate os.size 0)) with
  | true =>
    rw[hf]at hc;exact drawnFZ_ok (rd:=rd) (id:=id) hs hc
  | false =>
    rw[hf]at hc;exact drawnNZ_ok (rd:=rd) (id:=id) hs hc
def opZ (P:Program) (ρ:Operand→Value)(h:Hp)(o:Oper)(k:Ends):Option Out :=
  match o.op with
  | .pick c a b=>if okO c&&okO a&&okO b then (match ρ c with | .bool t=>cond t (k.val (ρ a) h) (k.val (ρ b) h) | _=>none) else none
  | _ =>
    match symR P ρ h.bl o with
    | some (b,v)=>cond b (k.val v h) none
    | none=>match aread P ρ h.bl o with
      | some v=>k.val v h
      | none=>loudZ P ρ h o k.heap
theorem opZ_eq:opZ=opC:=by
  funext P ρ h o k
  simp only[opZ,loudZ_eq]
  rfl
def runOpsZ (P:Program)(self:SelfC)(rd:Option Nat)(os:Array Oper):List Nat→St→(Ex→St→Option Out)→Option Out
  | [],s,k=>k .normal s
  | i::r,s,k =>
    match os[i]? with
    | none=>runOpsZ P self rd os r s k
    | some o =>
      guardC os o s.t
        (fun t=>opZ P (evalT t) s.h o {
          val:=fun v h=>setK' t o.dst v fun t=>runOpsZ P self rd os r { t:=t,d:=s.d,h:=h } k
          enter:=fun f args=>headsK args fun args=>self (.call f ⟨args⟩ s.h) fun
            | .ret v h=>setK' t o.dst v fun t=>runOpsZ P self rd os r { t:=t,d:=s.d,h:=h } k
            | .pan v h=>k (.panic v) { t:=t,d:=s.d,h:=h }
            | _=>none
          yield:=fun l args=>headsK args fun args=>self (.round l ⟨args⟩ s.h) fun
            | .ret v h=>setK' t o.dst v fun t=>runOpsZ P self rd os r { t:=t,d:=s.d,h:=h } k
            | _=>none
          defer:=fun d=>if rd.isNone then setK' t o.dst undef fun t=>runOpsZ P self rd os r { t:=t,d:=d::s.d,h:=s.h } k else none
          panic:=fun v=>k (.panic v) { t:=t,d:=s.d,h:=s.h } })
        (fun t=>setK' t o.dst undef fun t=>runOpsZ P self rd os r { t:=t,d:=s.d,h:=s.h } k)
theorem runOpsZ_eq (P:Program)(self:SelfC)(rd:Option Nat)(os:Array Oper):∀l,runOpsZ P self rd os l=runOpsC P self rd os l
  | []=>rfl
  | i::r=>by
    funext s k
    simp only[runOpsZ,runOpsC,runOpsZ_eq P self rd os r,opZ_eq]
    rfl
def drawnWZ (P:Program)(self:SelfC)(rd:Option Nat)(os:Array Oper)(s:St)(k:Ex→St→Option Out):Option Out :=
  match waits os (os.size-1)&&Nat.blt 0 os.size with
  | true=>drawnXZ P self os.pop s fun e s'=>(match e with
    | .normal=>runOpsZ P self rd os [os.size-1] s' k
    | _=>none)
  | false=>drawnXZ P self os s k
theorem drawnWZ_ok {P:Program}{self:SelfC}{sd:Self}(hs:CpsOk self sd) {rd:Option Nat}{id:Nat}{os:Array Oper}{s:St}{k:Ex→St→Option Out}{r:Out}(hc:drawnWZ P self rd os s k=some r) :
    ∃e s',drawnW P sd rd id os s=some (.ex e s')∧k e s'=some r:=by
  unfold drawnWZ at hc;unfold drawnW
  by_cases hw:(waits os (os.size-1)&&Nat.blt 0 os.size)=true
  · rw[hw]at hc ⊢
    obtain ⟨e,s',h1,h2⟩:=drawnXZ_ok (rd:=rd) (id:=id) hs hc;simp only[h1]
    cases e with
    | normal =>
      simp only at h2 ⊢;rw[runOpsZ_eq]at h2;exact runOpsC_ok hs h2
    | _=>cases h2
  · rw[Bool.eq_false_iff.2 hw]at hc ⊢
    exact drawnXZ_ok hs hc
def stepZ (P:Program)(self:SelfC):SelfC:=fun t k=>match t with
  | .code rd (.region id os dr) s=>(match dr with
    | true=>drawnWZ P self rd os s fun e s'=>(match hasApp os with
      | true=>forceK k (.ex e s')
      | false=>k (.ex e s'))
    | false=>(match hasApp os with
      | true=>runOpsZ P self rd os (List.range os.size) s fun e s'=>forceK k (.ex e s')
      | false=>stepC P self (.code rd (.region id os false) s) k))
  | t=>stepC P self t k
theorem stepF_drawn {P:Program}{sd:Self}{t:Task}{d1 d2:Program→Self→Option Nat→Nat→Array Oper→St→Option Out}(h:∀rd id os s,t≠.code rd (.region id os true) s):stepF d1 P sd t=stepF d2 P sd t:=by
  cases t with
  | code rd c s =>
    cases c with
    | region id os dr =>
      cases dr with
      | true=>exact (h rd id os s rfl).elim
      | false=>rfl
    | _=>rfl
  | _=>rfl
theorem stepZ_ok {P:Program}{self:SelfC}{sd:Self}(hs:CpsOk self sd):CpsOk (stepZ P self) (stepF drawnW P sd):=by
  intro t k r hc;unfold stepZ at hc
  split at hc
  · rename_i rd id os dr s
    cases dr with
    | true =>
      simp only at hc;obtain ⟨e,s',h1,h2⟩:=drawnWZ_ok (id:=id) hs hc
      refine ⟨.ex e s',by simpa only [stepF,if_true] using h1,?_⟩
      split at h2
      · rw[forceK_eq]at h2;exact h2
      · exact h2
    | false =>
      simp only at hc
      split at hc
      · rw[runOpsZ_eq,forceK_eq]at hc
        obtain ⟨o,h1,h2⟩:=stepC_ok hs (.code rd (.region id os false) s) k r hc
        exact ⟨o,(stepF_drawn (fun _ _ _ _ h=>by cases h)).trans h1,h2⟩
      · obtain ⟨o,h1,h2⟩:=stepC_ok hs (.code rd (.region id os false) s) k r hc
        exact ⟨o,(stepF_drawn (fun _ _ _ _ h=>by cases h)).trans h1,h2⟩
  · rename_i hn
    obtain ⟨o,h1,h2⟩:=stepC_ok hs _ k r hc
    exact ⟨o,(stepF_drawn (fun rd id os s h=>hn rd id os true s h)).trans h1,h2⟩
def evZ (P:Program)(oc:Task→Kn→Option (Option Out)):Nat→SelfC
  | 0,_,_=>none
  | n+1,t,k=>match oc t k with
    | some r=>r
    | none=>stepZ P (evZ P oc n) t k
theorem evZ_ok {P:Program}{oc:Task→Kn→Option (Option Out)}{orc:Self}(ho:OcOk oc orc):∀n,CpsOk (evZ P oc n) (iterO orc drawnW P n)
  | 0=>fun _ _ _ h=>by cases h
  | n+1=>by
    intro t k r h;simp only[evZ]at h;simp only[iterO]
    split at h
    · rename_i r' hr
      subst h;obtain ⟨o,h1,h2⟩:=ho.1 _ _ _ hr;rw[h1];exact ⟨_,rfl,h2⟩
    · rename_i hr
      rw[ho.2 _ _ hr];exact stepZ_ok (evZ_ok ho n) t k r h
theorem Known.factZ {P:Program}(hN:NoNG P) (hm:P.follows .mixedOrders=true) {a:Ans}(hk:Known P a) {n:Nat}{t:Task}{k:Kn}{r:Out}(h:evZ P a.c n t k=some r):∃o,k o=some r∧Fact P t o:=by
  obtain ⟨o',h1,h2⟩:=evZ_ok (P:=P) a.oc n t k r h;have hh:=iterO_ok (drawn:=drawnW) hN (drawnW_ok hN hm) hk.selfOk hk.loopOk n
  refine ⟨o',h2,hh.1 _ _ h1,?_⟩
  unfold LoopFact
  split
  · exact fun hb=>hh.2 _ _ _ _ _ h1 hb
  · trivial
def CF.chk (P:Program)(l:List CF)(n:Nat)(c:CF):Bool:=match evZ P (tabA l).c n (.call c.g ⟨c.args⟩ ⟨[],0,[]⟩) frDK with
  | some (.ret u ⟨[],0,[]⟩)=>(match eqVn 12 u c.u with
    | true=>c.args.all pureA
    | false=>false)
  | _=>false
section
variable {P:Program}(hN:NoNG P) (hm:P.follows .mixedOrders=true)
include hN hm
theorem CF.of2 {l:List CF}(hl:CFs P l) (n:Nat) {c:CF}(h:c.chk P l n=true):c.Ok P:=by
  unfold CF.chk at h
  split at h
  · rename_i u he
    split at h
    · rename_i hu
      have e:=eqVn_eq hu;subst e;intro hp;obtain ⟨o,h3,hf⟩:=(tabA_ok hl).factZ hN hm he
      cases o with
      | ret v h' =>
        simp only[frDK]at h3
        split at h3
        · rename_i u hu
          simp only[Option.some.injEq,Out.ret.injEq,and_true]at h3;subst h3;exact hf.liftD hu h hp
        · cases h3
      | _=>cases h3
    · cases h
  · cases h
end
end
end Go.Gi
namespace Go.Proofs.Ytggaomgopenkfaa
open Go.Gi Go.RowKit
noncomputable section
set_option maxRecDepth 100000
set_option maxHeartbeats 4000000
def wAwake0:Array Value:=⟨[vI 2,vI 1000,vI 1000,vI 10,vI 10,vI 0,vI 0,vJ 9,vI 10,vI 0,vI 0,vI 0,vI 0]⟩
def wAwake1:Array Value:=⟨[.string ⟨⟨[100,97,114,116]⟩⟩,vI 98,vI 98,.slice none 0 0,lstV wAwake0 0 1 13,.slice none 0 0]⟩
def wAwake2:Array Value:=⟨[vI 0,vI 300,vI 300,vI 0,vI 0,vI 0,vI 0,vI 100000,vI 0,vI 0,vI 0,vI 0,vI 0,vI 0]⟩
def wAwake3:Array Value:=⟨[vI 0,vI 0,vI 0,vI 0,vI 10000,vI 10000,vI 98,vI 98,lstV wAwake2 0 2 7,lstV ⟨[vI 0,vI 0,vI 0]⟩ 0 1 3,lstV wAwake0 0 1 13,.slice none 0 0]⟩
def wAwake4:Array Value:=⟨[vI 0,vI 0,vI 0,vI 0,vI 10000,vI 10000,vI 98,vI 98,lstV wAwake2 0 2 7,lstV ⟨[vI 0,vI 0,vI 0]⟩ 0 1 3,lstV wAwake0 0 1 13,lstV ⟨[]⟩ 0 0 1]⟩
def wAwake5:Array Value:=⟨[dptV ⟨[vI 0]⟩ 0,dptV ⟨[vI 0,vI 0,vI 0,vI 0,vI 0,vI 0,vI 0,vI 0,vI 0,vI 0,vI 0,vI 0]⟩ 0,dptV ⟨[vI 3000]⟩ 0,dptV wAwake4 0,dptV ⟨[.func (.func 70) ⟨[lstV wAwake0 0 1 13]⟩ ⟨[]⟩]⟩ 0]⟩
def wAwake6:Array Value:=⟨[vJ 0,vI 1,vI 0,vI 0,vI 902,vI 902,vJ 0,vI 1,vI 0,vI 0,vI 902,vI 902]⟩
def wAwake7:Array Value:=⟨[vJ 2,vI 3,vI 0,vI 0,vI 2706,vI 2706,vJ 1,vI 2,vI 0,vI 0,vI 1804,vI 1804]⟩
def wAwake8:Array Value:=⟨[vJ 4,vI 5,vI 0,vI 0,vI 4412,vI 4412,vJ 1,vI 2,vI 0,vI 0,vI 1706,vI 1706]⟩
def wAwake9:Array Value:=⟨[vJ 6,vI 7,vI 0,vI 0,vI 6020,vI 6020,vJ 1,vI 2,vI 0,vI 0,vI 1608,vI 1608]⟩
def wAwake10:Array Value:=⟨[vJ 8,vI 9,vI 0,vI 0,vI 7530,vI 7530,vJ 1,vI 2,vI 0,vI 0,vI 1510,vI 1510]⟩
def wAwake11:Array Value:=⟨[vJ 10,vI 11,vI 0,vI 0,vI 8942,vI 8942,vJ 1,vI 2,vI 0,vI 0,vI 1412,vI 1412]⟩
def wAwake12:Array Value:=⟨[vJ 12,vI 13,vI 0,vI 0,vI 10256,vI 10256,vJ 1,vI 2,vI 0,vI 0,vI 1314,vI 1314]⟩
def wAwake13:Array Value:=⟨[vJ 14,vI 15,vI 0,vI 0,vI 11472,vI 11472,vJ 1,vI 2,vI 0,vI 0,vI 1216,vI 1216]⟩
def wAwake14:Array Value:=⟨[vJ 16,vI 17,vI 0,vI 0,vI 12590,vI 12590,vJ 1,vI 2,vI 0,vI 0,vI 1118,vI 1118]⟩
def wAwake15:Array Value:=⟨[vJ 18,vI 19,vI 0,vI 0,vI 13610,vI 13610,vJ 1,vI 2,vI 0,vI 0,vI 1020,vI 1020]⟩
def wAwake16:Array Value:=⟨[vJ 20,vI 21,vI 0,vI 0,vI 14532,vI 14532,vJ 1,vI 2,vI 0,vI 0,vI 922,vI 922]⟩
def wAwake17:Array Value:=⟨[vJ 22,vI 23,vI 0,vI 0,vI 15356,vI 15356,vJ 1,vI 2,vI 0,vI 0,vI 824,vI 824]⟩
def wAwake18:Array Value:=⟨[vJ 24,vI 25,vI 0,vI 0,vI 16082,vI 16082,vJ 1,vI 2,vI 0,vI 0,vI 726,vI 726]⟩
def wAwake19:Array Value:=⟨[vJ 26,vI 27,vI 0,vI 0,vI 16710,vI 16710,vJ 1,vI 2,vI 0,vI 0,vI 628,vI 628]⟩
def wAwake20:Array Value:=⟨[vJ 28,vI 29,vI 0,vI 0,vI 17240,vI 17240,vJ 1,vI 2,vI 0,vI 0,vI 530,vI 530]⟩
def wAwake21:Array Value:=⟨[vJ 30,vI 31,vI 0,vI 0,vI 17672,vI 17672,vJ 1,vI 2,vI 0,vI 0,vI 432,vI 432]⟩
def wAwake22:Array Value:=⟨[vJ 32,vI 33,vI 0,vI 0,vI 18006,vI 18006,vJ 1,vI 2,vI 0,vI 0,vI 334,vI 334]⟩
def wAwake23:Array Value:=⟨[vJ 34,vI 35,vI 0,vI 0,vI 18242,vI 18242,vJ 1,vI 2,vI 0,vI 0,vI 236,vI 236]⟩
def wAwake24:Array Value:=⟨[vJ 36,vI 37,vI 0,vI 0,vI 18380,vI 18380,vJ 1,vI 2,vI 0,vI 0,vI 138,vI 138]⟩
def wAwake25:Array Value:=⟨[vJ 38,vI 39,vI 0,vI 0,vI 18420,vI 18420,vJ 1,vI 2,vI 0,vI 0,vI 40,vI 40]⟩
def wAwake26:Array Value:=⟨[vJ 40,vI 41,vI 0,vI 0,vI 18362,vI 18362,vJ 1,vI 2,vI 0,vI 0,vJ 57,vJ 57]⟩
def wAwake27:Array Value:=⟨[vJ 42,vI 43,vI 0,vI 0,vI 18206,vI 18206,vJ 1,vI 2,vI 0,vI 0,vJ 155,vJ 155]⟩
def wAwake28:Array Value:=⟨[vJ 44,vI 45,vI 0,vI 0,vI 17952,vI 17952,vJ 1,vI 2,vI 0,vI 0,vJ 253,vJ 253]⟩
def wAwake29:Array Value:=⟨[vJ 46,vI 47,vI 0,vI 0,vI 17600,vI 17600,vJ 1,vI 2,vI 0,vI 0,vJ 351,vJ 351]⟩
def wAwake30:Array Value:=⟨[vJ 48,vI 49,vI 0,vI 0,vI 17150,vI 17150,vJ 1,vI 2,vI 0,vI 0,vJ 449,vJ 449]⟩
def wAwake31:Array Value:=⟨[vJ 50,vI 51,vI 0,vI 0,vI 16602,vI 16602,vJ 1,vI 2,vI 0,vI 0,vJ 547,vJ 547]⟩
def wAwake32:Array Value:=⟨[vJ 52,vI 53,vI 0,vI 0,vI 15956,vI 15956,vJ 1,vI 2,vI 0,vI 0,vJ 645,vJ 645]⟩
def wAwake33:Array Value:=⟨[vJ 54,vI 55,vI 0,vI 0,vI 15212,vI 15212,vJ 1,vI 2,vI 0,vI 0,vJ 743,vJ 743]⟩
def wAwake34:Array Value:=⟨[vJ 56,vI 57,vI 0,vI 0,vI 14370,vI 14370,vJ 1,vI 2,vI 0,vI 0,vJ 841,vJ 841]⟩
def wAwake35:Array Value:=⟨[vJ 58,vI 59,vI 0,vI 0,vI 13430,vI 13430,vJ 1,vI 2,vI 0,vI 0,vJ 939,vJ 939]⟩
def wAwake36:Array Value:=⟨[vJ 60,vI 61,vI 0,vI 0,vI 12392,vI 12392,vJ 1,vI 2,vI 0,vI 0,vJ 1037,vJ 1037]⟩
def wAwake37:Array Value:=⟨[vJ 62,vI 63,vI 0,vI 0,vI 11256,vI 11256,vJ 1,vI 2,vI 0,vI 0,vJ 1135,vJ 1135]⟩
def wAwake38:Array Value:=⟨[vJ 64,vI 65,vI 0,vI 0,vI 10022,vI 10022,vJ 1,vI 2,vI 0,vI 0,vJ 1233,vJ 1233]⟩
def wAwake39:Array Value:=⟨[vJ 66,vI 67,vI 0,vI 0,vI 8690,vI 8690,vJ 1,vI 2,vI 0,vI 0,vJ 1331,vJ 1331]⟩
def wAwake40:Array Value:=⟨[vJ 68,vI 69,vI 0,vI 0,vI 7260,vI 7260,vJ 1,vI 2,vI 0,vI 0,vJ 1429,vJ 1429]⟩
def wAwake41:Array Value:=⟨[vJ 70,vI 71,vI 0,vI 0,vI 5732,vI 5732,vJ 1,vI 2,vI 0,vI 0,vJ 1527,vJ 1527]⟩
def wAwake42:Array Value:=⟨[vJ 72,vI 73,vI 0,vI 0,vI 4106,vI 4106,vJ 1,vI 2,vI 0,vI 0,vJ 1625,vJ 1625]⟩
def wAwake43:Array Value:=⟨[vJ 74,vI 75,vI 0,vI 0,vI 2382,vI 2382,vJ 1,vI 2,vI 0,vI 0,vJ 1723,vJ 1723]⟩
def wAwake44:Array Value:=⟨[vJ 76,vI 77,vI 0,vI 0,vI 560,vI 560,vJ 1,vI 2,vI 0,vI 0,vJ 1821,vJ 1821]⟩
def wAwake45:Array Value:=⟨[vJ 78,vI 79,vI 0,vI 0,vJ 1359,vJ 1359,vJ 1,vI 2,vI 0,vI 0,vJ 1919,vJ 1919]⟩
def wAwake46:Array Value:=⟨[vI 2,vI 1000,vI 1000,vI 10,vI 10,vI 10,vI 10,vJ 9,vI 10,vI 0,vI 0,vI 0,vI 0]⟩
def wAwake47:Array Value:=⟨[.string ⟨⟨[100,97,114,116]⟩⟩,vI 98,vI 98,lstV ⟨[vI 0,vI 1000]⟩ 0 1 2,lstV wAwake46 0 1 13,.slice none 0 0]⟩
def wAwake48:Array Value:=⟨[vI 0,vI 0,vI 0,vI 0,vI 10000,vI 10000,vI 98,vI 98,lstV wAwake2 0 2 7,lstV ⟨[vI 0,vI 1000,vI 1000]⟩ 0 1 3,lstV wAwake46 0 1 13,.slice none 0 0]⟩
def wAwake49:Array Value:=⟨[vI 0,vI 0,vI 0,vI 0,vI 5000,vI 5000,vI 0,vI 0,vI 0,vI 0,vI 10000,vI 10000]⟩
def wAwake50:Array Value:=⟨[vI 0,vI 0,vI 0,vI 10,vI 10,vI 10,vI 10,vI 0,vI 0,vI 0,vI 0,vI 0,vI 0]⟩
def wAwake51:Array Value:=⟨[vJ 30014999999,vJ 30011999999,vI 0,vI 0,vI 1000400000000,vI 1000500000000]⟩
def KAwake0:CF:=⟨22,[],.agg wAwake1⟩
theorem kAwake0:KAwake0.Ok Try.prog:=CF.of2 noNG mixed (l:=[]) .nil 3000 (by kernel_rfl)
def KAwake1:CF:=⟨24,[],lstV ⟨[vI 0,vI 100000,vI 300,vI 300,vI 0,vI 0]⟩ 0 1 6⟩
theorem kAwake1:KAwake1.Ok Try.prog:=CF.of2 noNG mixed (l:=[]) .nil 3000 (by kernel_rfl)
def KAwake2:CF:=⟨13,[.agg wAwake1],.tuple ⟨[vI 0,vI 0,vI 0]⟩⟩
theorem kAwake2:KAwake2.Ok Try.prog:=CF.of2 noNG mixed (l:=[]) .nil 3000 (by kernel_rfl)
def KAwake3:CF:=⟨56,[lstV ⟨[vI 0,vI 100000,vI 300,vI 300,vI 0,vI 0]⟩ 0 1 6],lstV wAwake2 0 2 7⟩
theorem kAwake3:KAwake3.Ok Try.prog:=CF.of2 noNG mixed (l:=[]) .nil 3000 (by kernel_rfl)
def KAwake4:CF:=⟨63,[.slice none 0 0],lstV ⟨[vI 0,vI 0,vI 0]⟩ 0 1 3⟩
theorem kAwake4:KAwake4.Ok Try.prog:=CF.of2 noNG mixed (l:=[]) .nil 3000 (by kernel_rfl)
def KAwake5:CF:=⟨66,[.agg wAwake1,.agg ⟨[vI 0,vI 0,vI 10000]⟩,lstV ⟨[vI 0,vI 100000,vI 300,vI 300,vI 0,vI 0]⟩ 0 1 6],.tuple ⟨[.agg wAwake3,vI 0]⟩⟩
theorem kAwake5:KAwake5.Ok Try.prog:=CF.of2 noNG mixed (l:=[KAwake2,KAwake3,KAwake4]) (.cons kAwake2 (.cons kAwake3 (.cons kAwake4 .nil))) 3000 (by kernel_rfl)
def KAwake6:CF:=⟨104,[.agg wAwake3,.agg ⟨[vI 0,vI 0,vI 0,vI 0,vI 0,vI 0,vI 0,vI 0,vI 0,vI 0,vI 0,vI 0]⟩,vI 0,vI 3000,.func (.func 70) ⟨[lstV wAwake0 0 1 13]⟩ ⟨[]⟩],.func (.func 118) ⟨[]⟩ wAwake5⟩
theorem kAwake6:KAwake6.Ok Try.prog:=CF.of2 noNG mixed (l:=[]) .nil 3000 (by kernel_rfl)
def KAwake7:CF:=⟨72,[.agg wAwake3,vI 3000],.func (.func 118) ⟨[]⟩ wAwake5⟩
theorem kAwake7:KAwake7.Ok Try.prog:=CF.of2 noNG mixed (l:=[KAwake6]) (.cons kAwake6 .nil) 3000 (by kernel_rfl)
def KAwake8:CF:=⟨68,[.agg ⟨[vI 0,vI 0,vI 0,vI 0,vI 0,vI 0,vI 0,vI 0,vI 0,vI 0,vI 0,vI 0]⟩],vF⟩
theorem kAwake8:KAwake8.Ok Try.prog:=CF.of2 noNG mixed (l:=[]) .nil 3000 (by kernel_rfl)
def KAwake9:CF:=⟨70,[lstV wAwake0 0 1 13,vI 0],.agg wAwake0⟩
theorem kAwake9:KAwake9.Ok Try.prog:=CF.of2 noNG mixed (l:=[]) .nil 3000 (by kernel_rfl)
def KAwake10:CF:=⟨112,[.agg ⟨[vJ 9,vI 10,vI 0,vI 0,vI 10000,vI 10000]⟩,.func (.func 111) ⟨[]⟩ ⟨[]⟩,.agg ⟨[vI 10000,vI 10000]⟩],.agg ⟨[vJ 99999,vI 100000,vI 0,vI 0,vI 100000000,vI 100000000]⟩⟩
theorem kAwake10:KAwake10.Ok Try.prog:=CF.of2 noNG mixed (l:=[]) .nil 3000 (by kernel_rfl)
def KAwake11:CF:=⟨112,[.agg ⟨[vJ 99999,vI 100000,vI 0,vI 0,vI 100000000,vI 100000000]⟩,.func (.func 113) ⟨[]⟩ ⟨[]⟩,.agg ⟨[vI 100000,vI 100000]⟩],.agg ⟨[vJ 0,vI 1,vI 0,vI 0,vI 1000,vI 1000]⟩⟩
theorem kAwake11:KAwake11.Ok Try.prog:=CF.of2 noNG mixed (l:=[]) .nil 3000 (by kernel_rfl)
def KAwake12:CF:=⟨97,[.agg wAwake4,.agg wAwake0],.agg ⟨[vJ 0,vI 1,vI 0,vI 0,vI 1000,vI 1000]⟩⟩
theorem kAwake12:KAwake12.Ok Try.prog:=CF.of2 noNG mixed (l:=[KAwake10,KAwake11]) (.cons kAwake10 (.cons kAwake11 .nil)) 3000 (by kernel_rfl)
def KAwake13:CF:=⟨116,[.agg ⟨[vJ 299,vJ 299,vI 0,vI 0,vI 0,vI 0]⟩],.agg ⟨[vI 300,vI 300]⟩⟩
theorem kAwake13:KAwake13.Ok Try.prog:=CF.of2 noNG mixed (l:=[]) .nil 3000 (by kernel_rfl)
def KAwake14:CF:=⟨112,[.agg ⟨[vJ 299,vJ 299,vI 0,vI 0,vI 0,vI 0]⟩,.func (.func 111) ⟨[]⟩ ⟨[]⟩,.agg ⟨[vI 0,vI 0]⟩],.agg ⟨[vI 0,vI 0,vI 0,vI 0,vI 0,vI 0]⟩⟩
theorem kAwake14:KAwake14.Ok Try.prog:=CF.of2 noNG mixed (l:=[]) .nil 3000 (by kernel_rfl)
def KAwake15:CF:=⟨112,[.agg ⟨[vI 0,vI 0,vI 0,vI 0,vI 0,vI 0]⟩,.func (.func 113) ⟨[]⟩ ⟨[]⟩,.agg ⟨[vI 10000000000,vI 10000000000]⟩],.agg ⟨[vI 0,vI 0,vI 0,vI 0,vI 0,vI 0]⟩⟩
theorem kAwake15:KAwake15.Ok Try.prog:=CF.of2 noNG mixed (l:=[]) .nil 3000 (by kernel_rfl)
def KAwake16:CF:=⟨99,[.agg wAwake4,.agg wAwake0,.agg ⟨[vI 0,vI 0,vI 0,vI 0,vI 0,vI 0,vI 0,vI 0,vI 0,vI 0,vI 0,vI 0]⟩],.agg ⟨[vI 0,vI 0,vI 0,vI 0,vI 0,vI 0]⟩⟩
theorem kAwake16:KAwake16.Ok Try.prog:=CF.of2 noNG mixed (l:=[KAwake13,KAwake14,KAwake15]) (.cons kAwake13 (.cons kAwake14 (.cons kAwake15 .nil))) 3000 (by kernel_rfl)
def KAwake17:CF:=⟨69,[.agg wAwake4,.agg wAwake0,.agg ⟨[vI 0,vI 0,vI 0,vI 0,vI 0,vI 0,vI 0,vI 0,vI 0,vI 0,vI 0,vI 0]⟩],.agg ⟨[vJ 0,vI 1,vI 0,vI 0,vI 902,vI 902]⟩⟩
theorem kAwake17:KAwake17.Ok Try.prog:=CF.of2 noNG mixed (l:=[KAwake16,KAwake12]) (.cons kAwake16 (.cons kAwake12 .nil)) 3000 (by kernel_rfl)
def KAwake18:CF:=⟨119,[.agg ⟨[vI 0,vI 0,vI 0,vI 0,vI 0,vI 0,vI 0,vI 0,vI 0,vI 0,vI 0,vI 0]⟩,.agg ⟨[vJ 0,vI 1,vI 0,vI 0,vI 902,vI 902]⟩],.agg wAwake6⟩
theorem kAwake18:KAwake18.Ok Try.prog:=CF.of2 noNG mixed (l:=[]) .nil 3000 (by kernel_rfl)
end
end Go.Proofs.Ytggaomgopenkfaa
