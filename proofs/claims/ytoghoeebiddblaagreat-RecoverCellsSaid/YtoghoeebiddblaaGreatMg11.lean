/- Part 11 of the texts below the claim. Conditions: none. -/
import Derived.Test.YtoghoeebiddblaaGreatMg6
import Derived.Test.YtoghoeebiddblaaGreatMg10
import Derived.Test.YtoghoeebiddblaaGreatMg7
set_option linter.unusedVariables false
set_option linter.unusedSimpArgs false
namespace Go.Gi
open Go.RowKit
noncomputable section
abbrev vT:Value:=.bool true
abbrev vF:Value:=.bool false
abbrev vI (n:Nat):Value:=.int .i64 (.ofNat n)
abbrev vJ (n:Nat):Value:=.int .i64 (.negSucc n)
structure CF where
  g:Nat
  args:List Value
  u:Value
def CF.Ok (P:Program)(c:CF):Prop:=∀h,Fact P (.call c.g ⟨c.args⟩ h) (.ret c.u h)
def lookCF (f:Nat)(vs:List Value)(h:Hp):List CF→Option AT
  | []=>none
  | c::r=>match Nat.beq f c.g with
    | true=>(match eqLs (eqVn 8) vs c.args with
      | true=>some (.leaf (.ret c.u h))
      | false=>lookCF f vs h r)
    | false=>lookCF f vs h r
def tabA (l:List CF):Ans:=fun t=>match t with
  | .call f vs h=>lookCF f vs.toList h l
  | _=>none
inductive CFs (P:Program):List CF→Prop
  | nil:CFs P []
  | cons {c:CF} {l:List CF} (h:c.Ok P) (r:CFs P l):CFs P (c::l)
theorem lookCF_ok {P:Program}{f:Nat}{vs:List Value}{h:Hp}:∀{l:List CF},CFs P l→∀{x:AT}{o:Out},lookCF f vs h l=some x→x.out=some o→Fact P (.call f ⟨vs⟩ h) o
  | [],_,x,o,hx,_=>by cases hx
  | c::r,hl,x,o,hx,ho=>by
    cases hl with
    | cons hc hr =>
      unfold lookCF at hx
      split at hx
      · rename_i hf
        split at hx
        · rename_i ha
          simp only [Option.some.injEq]at hx;subst hx;simp only [AT.out,Option.some.injEq]at ho;subst ho
          rw [Nat.eq_of_beq_eq_true hf,eqLs_eq (fun _ _ h=>eqVn_eq h) ha]
          exact hc h
        · exact lookCF_ok hr hx ho
      · exact lookCF_ok hr hx ho
theorem tabA_ok {P:Program}{l:List CF}(hl:CFs P l):Known P (tabA l):=by
  intro t x o h ho;unfold tabA at h
  split at h
  · rename_i f vs hh
    exact lookCF_ok hl h ho
  · cases h
def frDs (f:Value→Option Value):List Value→Option (List Value)
  | []=>some []
  | v::r=>match f v with
    | some u=>(match frDs f r with
      | some l=>some (u::l)
      | none=>none)
    | none=>none
def frC (f:Value→Option Value)(v:Value):Option Value:=match v with
  | .slice none 0 0=>some (lstV ⟨[]⟩ 0 0 1)
  | v=>f v
def frD (bl:List Ob):Nat→Value→Option Value
  | 0,_=>none
  | n+1,v=>match v with
    | .slice (some ⟨b,off,none⟩) len sz=>(match nthO bl b with
      | some (.cells c false)=>(match frDs (frC (frD bl n)) c.toList with
        | some l=>if off+len*sz≤c.size then some (lstV ⟨l⟩ off len sz) else none
        | none=>none)
      | _=>none)
    | .pointer (some ⟨b,off,none⟩)=>(match nthO bl b with
      | some (.cells c false)=>(match frDs (frC (frD bl n)) c.toList with
        | some l=>some (dptV ⟨l⟩ off)
        | none=>none)
      | _=>none)
    | .agg ⟨l⟩=>(match frDs (frD bl n) l with
      | some l=>some (.agg ⟨l⟩)
      | none=>none)
    | .iface t v=>(match frD bl n v with
      | some v=>some (.iface t v)
      | none=>none)
    | .func (.func g) ⟨l⟩ ⟨m⟩=>(match frDs (frD bl n) l,frDs (frD bl n) m with
      | some l,some m=>some (.func (.func g) ⟨l⟩ ⟨m⟩)
      | _,_=>none)
    | v=>if fz0 v then some v else none
def frDV (bl:List Ob)(v:Value):Option Value:=match v with
  | .tuple ⟨x::l⟩=>(match frDs (frD bl 8) (x::l) with
    | some l=>some (.tuple ⟨l⟩)
    | none=>none)
  | v=>frD bl 8 v
def frDK:Kn
  | .ret v h=>(match frDV h.bl v with
    | some v=>some (.ret v ⟨[],0,[]⟩)
    | none=>none)
  | _=>none
section
variable {K:Nat→Prop}{w0 w:World} {φ:Phi}{X:List Ob}{z:Nat→Option Obj}
theorem frDs_ok {f:Value→Option Value}(hf:∀v u v',f v=some u→VR φ v v'→FR z u v'):∀{l us l':List Value},frDs f l=some us→VRl φ l l'→FRl z us l'
  | [],us,_,h,hv=>by
    cases hv
    simp only [frDs,Option.some.injEq]at h;subst h;exact .nil
  | v::r,us,_,h,hv=>by
    cases hv with
    | cons h1 h2 =>
      simp only [frDs]at h
      split at h
      · rename_i u hu
        split at h
        · rename_i l hl
          simp only [Option.some.injEq]at h;subst h;exact .cons (hf _ _ _ hu h1) (frDs_ok hf hl h2)
        · cases h
      · cases h
theorem FRl.fn {z:Nat→Option Obj} {l l' m m':List Value}(g:FuncId) (h:FRl z l l') (h2:FRl z m m'):FR z (.func (.func g) ⟨l⟩ ⟨m⟩) (.func (.func g) ⟨l'⟩ ⟨m'⟩):=by
  have hh:∀{us ys:List Value},FRl z us ys→(⟨us⟩:Array Value).size=(⟨ys⟩:Array Value).size∧∀i,i<(⟨us⟩:Array Value).size→FR z ((⟨us⟩:Array Value).getD i undef) ((⟨ys⟩:Array Value).getD i undef):=by
    intro us ys hf
    refine ⟨by simpa using hf.agg.1,fun i hi=>?_⟩
    rcases hf.agg.2 i with h5 | h5
    · exact h5
    · simp at hi;omega
  exact .fn (hh h).1 (hh h).2 (hh h2).1 (hh h2).2
theorem cells_frl {c C:Array Value}{base:Nat}(hC:base+c.size≤C.size) (h2:∀(i:Nat) (v:Value),c[i]?=some v→∃v',C[base+i]?=some v'∧VR φ v v'):VRl φ c.toList ((C.toList.drop base).take c.size):=by
  have key:∀(l:List Value) (m:List Value),l.length=m.length→(∀(i:Nat) (v:Value),l[i]?=some v→∃v',m[i]?=some v'∧VR φ v v')→VRl φ l m:=by
    intro l
    induction l with
    | nil=>intro m hl _;cases m with
      | nil=>exact .nil
      | cons _ _=>simp at hl
    | cons x r ih=>intro m hl hh;cases m with
      | nil=>simp at hl
      | cons y s =>
        refine .cons ?_ (ih s (by simpa using hl) fun i v hv=>by simpa using hh (i+1) v (by simpa using hv))
        obtain ⟨v',h3,h4⟩:=hh 0 x rfl
        simp only [List.getElem?_cons_zero,Option.some.injEq]at h3
        rw [h3];exact h4
  refine key _ _ (by simp;omega) fun i v hv=>?_
  have hv2:c[i]?=some v:=by rw [← Array.getElem?_toList];exact hv
  obtain ⟨v',h3,h4⟩:=h2 i v hv2
  refine ⟨v',?_,h4⟩
  have hi:i<c.size:=by rw [Array.getElem?_eq_some_iff]at hv2;exact hv2.1
  rw [List.getElem?_take,if_pos hi,List.getElem?_drop,Array.getElem?_toList]
  exact h3
theorem FRl.cells {l:List Value}{C:Array Value}{base n:Nat}(h:FRl z l ((C.toList.drop base).take n)) (hC:base+n≤C.size):l.length=n∧∀i,i<(⟨l⟩:Array Value).size→FR z ((⟨l⟩:Array Value).getD i undef) (C.getD (base+i) undef):=by
  have hn:l.length=n:=by rw [h.agg.1];simp;omega
  refine ⟨hn,fun i hi=>?_⟩
  have hi':i<n:=by simpa [hn] using hi
  rcases h.agg.2 i with h1 | h1
  · have e:(⟨(C.toList.drop base).take n⟩:Array Value).getD i undef=C.getD (base+i) undef:=by
      rw [Array.getD_eq_getD_getElem?,Array.getD_eq_getD_getElem?]
      have:(⟨(C.toList.drop base).take n⟩:Array Value)[i]?=C[base+i]?:=by
        rw [← Array.getElem?_toList,List.getElem?_take,if_pos hi',List.getElem?_drop,Array.getElem?_toList]
      rw [this]
    rw [← e];exact h1
  · omega
theorem frC_ok {f:Value→Option Value}(hf:∀v u v',f v=some u→VR φ v v'→FR z u v'):∀v u v',frC f v=some u→VR φ v v'→FR z u v':=by
  intro v u v' h hv;unfold frC at h
  split at h
  · cases h;cases hv;exact .lstZ _ _ _ _
  · exact hf _ _ _ h hv
theorem frD_ok (h:Made 0 z φ X w):∀{n:Nat} {v u v':Value},frD X n v=some u→VR φ v v'→FR z u v'
  | 0,_,_,_,hk,_=>by cases hk
  | n+1,v,u,v',hk,hv=>by
    have ih:∀v u v',frD X n v=some u→VR φ v v'→FR z u v':=fun v u v' h1 h2=>frD_ok h h1 h2
    unfold frD at hk
    split at hk
    · rename_i b off len sz
      rw [nthO_eq]at hk
      split at hk
      · rename_i c hb
        split at hk
        · rename_i l hl
          split at hk
          · rename_i hle
            simp only [Option.some.injEq]at hk;subst hk;obtain ⟨B,base,tot,C,el,fr,h3,hz,h8,h6⟩:=h.obs b _ hb (Nat.zero_le _)
            cases hv with
            | sliceZ _ a' k'=>exact .lstZ _ _ _ _
            | slice hφ hl1 hc =>
              rw [h3]at hφ;cases hφ;obtain ⟨k1,k2⟩:=(frDs_ok (frC_ok ih) hl (cells_frl h8 h6)).cells h8
              exact .lst hz (by simpa [k1] using h8) k2 hl1 (by simpa [k1] using hle)
          · cases hk
        · cases hk
      · cases hk
    · rename_i b off
      rw [nthO_eq]at hk
      split at hk
      · rename_i c hb
        split at hk
        · rename_i l hl
          simp only [Option.some.injEq]at hk;subst hk;obtain ⟨B,base,tot,C,el,fr,h3,hz,h8,h6⟩:=h.obs b _ hb (Nat.zero_le _)
          cases hv with
          | ptr hφ =>
            rw [h3]at hφ;cases hφ;obtain ⟨k1,k2⟩:=(frDs_ok (frC_ok ih) hl (cells_frl h8 h6)).cells h8
            exact .dpt hz (by simpa [k1] using h8) k2
        · cases hk
      · cases hk
    · rename_i l
      split at hk
      · rename_i us hl
        simp only [Option.some.injEq]at hk;subst hk;obtain ⟨⟨ys⟩,rfl,hs⟩:=hv.agg_inv;exact (frDs_ok ih hl hs.toList).fr
      · cases hk
    · rename_i t x
      split at hk
      · rename_i y hy
        simp only [Option.some.injEq]at hk;subst hk
        cases hv with
        | iface _ hv=>exact .iface _ (ih _ _ _ hy hv)
      · cases hk
    · rename_i g l m
      split at hk
      · rename_i us ws hl hm
        simp only [Option.some.injEq]at hk;subst hk
        cases hv with
        | @fn _ _ first' _ cap' hg h1 h2 h3 h4 =>
          obtain ⟨first'⟩:=first';obtain ⟨cap'⟩:=cap';exact FRl.fn g (frDs_ok ih hl (VRs.toList (VRs.of h1 h2))) (frDs_ok ih hm (VRs.toList (VRs.of h3 h4)))
      · cases hk
    · split at hk
      · rename_i hf
        simp only [Option.some.injEq]at hk;subst hk;exact fz0_fr h hf hv
      · cases hk
theorem FRl.vrl {ψ:Phi} {l l':List Value}(h:FRl ψ.z l l'):VRl ψ l l':=by
  induction h with
  | nil=>exact .nil
  | cons h _ ih=>exact .cons h.vr ih
theorem frDV_ok {ψ:Phi}(h:Made 0 ψ.z φ X w) {v u v':Value}(hk:frDV X v=some u) (hv:VR φ v v'):VR ψ u v':=by
  unfold frDV at hk
  split at hk
  · rename_i x l
    split at hk
    · rename_i us hl
      simp only [Option.some.injEq]at hk;subst hk;obtain ⟨⟨ys⟩,rfl,hs⟩:=hv.tuple_inv rfl
      exact (frDs_ok (fun _ _ _ h1 h2=>frD_ok h h1 h2) hl hs.toList).vrl.vrs.tuple
    · cases hk
  · exact (frD_ok h hk hv).vr
end
section
variable {P:Program}
theorem Fact.liftD {f:FuncId}{args:Array Value}{v u:Value}{h1:Hp}(hf:Fact P (.call f args ⟨[],0,[]⟩) (.ret v h1)) (hfz:frDV h1.bl v=some u)
    (ha:args.toList.all pureA=true) (h:Hp):Fact P (.call f args h) (.ret u h):=by
  obtain ⟨_,hh⟩:=hf.1 (Nat.le_refl _)
  refine ⟨fun hb=>⟨Pres.refl _,?_⟩,trivial⟩
  intro K w0 φ w args' n hI hA;have hI':Inv K w0 φ ([]++h.bl) w:=hI
  have hN:=hI'.narrow (H0:=[]) (fun b ob h=>by simp at h)
  have hA1:VRs (cut φ ([]:List Ob).length) args args':=VRs.of hA.size fun i hi=>scT_cut (all_getD (p:=pureA) ha hi) (hA.getD i)
  refine (hh _ w _ w args' n hN hA1).mono ?_
  intro e w' he
  cases e with
  | returned v' =>
    obtain ⟨φ',hle,hv',hF⟩:=he
    have hZ:=hF.freeze (H1:=[]) (k:=0) (fun b ob h=>by simp at h)
    have k1:=frDV_ok (ψ:=⟨fun b=>if b<([]:List Ob).length+0 then φ' b else none,zF φ' h1.bl 0 w'⟩) (zF_made hF 0) hfz hv'
    have hle2:le (cut φ ([]:List Ob).length) ⟨fun b=>if b<([]:List Ob).length+0 then φ' b else none,zF φ' h1.bl 0 w'⟩:=by
      refine ⟨fun b x hx=>?_,fun B o hB=>(zF_made hF 0).le B o (hle.zz B o hB)⟩
      rw [cut_ge (show ([]:List Ob).length≤b from Nat.zero_le b)]at hx;cases hx
    obtain ⟨φ'',q1,q2,q3⟩:=hI'.widen (H1:=[]) (X:=[]) hZ hle2 .nil
    refine ⟨φ'',q1,?_,q3⟩
    have hc:cut ⟨fun b=>if b<([]:List Ob).length+0 then φ' b else none,zF φ' h1.bl ([]:List Ob).length w'⟩ ([]:List Ob).length=⟨fun b=>if b<([]:List Ob).length+0 then φ' b else none,zF φ' h1.bl 0 w'⟩:=by
      unfold cut
      simp
    rw [hc]at q2;exact k1.mono q2
  | panicked ch=>exact he.elim
  | outgrown=>exact he.elim
end
def hasApp (os:Array Oper):Bool:=os.toList.any fun o=>match o.op with
  | .call { callee:=.builtin b,.. }=>(match b with | .append | .copy=>true | _=>false)
  | _=>false
def forceK (k:Kn):Kn:=fun o=>match o with
  | .ex e s=>forceE s.h.bl fun bl=>k (.ex e ⟨s.t,s.d,⟨bl,s.h.base,s.h.wr⟩⟩)
  | o=>k o
theorem forceK_eq (k:Kn):forceK k=k:=by
  funext o
  cases o with
  | ex e s=>simp only [forceK,forceE_eq]
  | _=>rfl
def catL:List Value→Nat→Nat→List Value→List Value
  | [],_,_,m=>m
  | x::r,off,n,m=>match off with
    | o+1=>catL r o n m
    | 0=>(match n with
      | k+1=>x::catL r 0 k m
      | 0=>m)
theorem catL_eq:∀(l:List Value) (off n:Nat) (m:List Value),catL l off n m=(l.drop off).take n++m
  | [],off,n,m=>by simp [catL]
  | x::r,0,0,m=>by simp [catL]
  | x::r,0,k+1,m=>by simp [catL,catL_eq r 0 k m]
  | x::r,o+1,n,m=>by simp [catL,catL_eq r o n m]
theorem catA_eq (c:Array Value)(off n:Nat)(m:Array Value):(⟨catL c.toList off n m.toList⟩:Array Value)=c.extract off (off+n)++m:=by
  apply Array.ext'
  rw [catL_eq,Array.toList_append,Array.toList_extract,List.extract]
  simp
def appendZ (P:Program)(h:Hp)(ts tx:TypeId)(s x:Value)(k:Value→Hp→Option Out):Option Out :=
  match P.underlying ts,P.underlying tx with
  | some (.slice e),some d =>
    if intB d=true then none else
    match P.info? e,zeroB P e with
    | some inf,some z =>
      natF inf.size fun isz=>natF inf.bytes fun iby =>
      match s,lenB x with
      | .slice base sl sz,some n =>
        natF n fun n =>
        cond (decide (n=0)) (k (.slice base sl sz) h)
        (newC h.bl isz n x fun news =>
          cond (decide (news.size=n*isz)&&(oneAll news&&decide (z.cells.size=isz))) (cond (decide ((sl+n)*iby≤140737488355328)&&decide (sl+n≤4611686018427387904))
            (match base with
            | none=>cond (decide (sl=0)) (k (.slice (some ⟨h.bl.length,0,none⟩) n isz) (h.push (.cells news false))) none
            | some ⟨b,off,none⟩ =>
              match nthO h.bl b with
              | some (.cells c false) =>
                cond (decide (sz=isz)) (cond (decide (off+sl*isz≤c.size))
                  (k (.slice (some ⟨h.bl.length,0,none⟩) (sl+n) isz) ((h.put b .dead).push (.cells ⟨catL c.toList off (sl*isz) news.toList⟩ false))) none) none
              | _=>none
            | _=>none) none) none)
      | _,_=>none
    | _,_=>none
  | _,_=>none
theorem appendZ_eq:appendZ=appendC:=by
  funext P h ts tx s x k
  simp only [appendZ,appendC,catA_eq]
  rfl
def loudZ (P:Program) (ρ:Operand→Value)(h:Hp)(o:Oper)(k:Ends):Option Out :=
  match o.op with
  | .call { callee:=.builtin .append,args,argTypes } =>
    match args.toList,argTypes.toList with
    | [s,x],[ts,tx]=>if okO s&&okO x then appendZ P h ts tx (ρ s) (ρ x) k.val else none
    | _,_=>none
  | _=>loudC P ρ h o k
theorem loudZ_eq:loudZ=loudC:=by
  funext P ρ h o k
  unfold loudZ
  split
  · rename_i args ts ho
    unfold loudC;simp only [ho,appendZ_eq]
    rfl
  · rfl
def opDZ (P:Program)(self:SelfC)(T:List Value)(h:Hp)(o:Oper)(k:Value→Hp→Bool→Option Out):Option Out :=
  match o.op with
  | .pick c a b=>if okO c&&okO a&&okO b then (match evalT T c with | .bool t=>cond t (k (evalT T a) h false) (k (evalT T b) h false) | _=>none) else none
  | _ =>
    match symR P (evalT T) h.bl o with
    | some (b,v)=>cond b (k v h false) none
    | none=>match aread P (evalT T) h.bl o with
      | some v=>k v h false
      | none=>loudZ P (evalT T) h o {
        val:=fun v h'=>heapK h' fun h'=>k v h' true
        enter:=fun f args=>headsK args fun args=>self (.call f ⟨args⟩ h) fun | .ret v h'=>k v h' true | _=>none
        yield:=fun l args=>headsK args fun args=>self (.round l ⟨args⟩ h) fun | .ret v h'=>k v h' true | _=>none
        defer:=fun _=>none
        panic:=fun _=>none }
theorem opDZ_eq:opDZ=opD:=by
  funext P self T h o k
  simp only [opDZ,loudZ_eq]
  rfl
def drunZ (P:Program)(self:SelfC)(os:Array Oper):List Nat→List Value→Hp→(List Rec→List Value→Hp→Option Out)→Option Out
  | [],T,h,k=>k [] T h
  | i::r,T,h,k =>
    match os[i]? with
    | none=>none
    | some o =>
      guardC os o T
        (fun T=>opDZ P self T h o fun v h' loud=>headK v fun v=>setK' T o.dst v fun T'=>drunZ P self os r T' h' fun l T2 h2=>k (⟨i,o,T,v,h,h',loud⟩::l) T2 h2)
        (fun T=>setK' T o.dst undef fun T'=>drunZ P self os r T' h fun l T2 h2=>k (⟨i,o,T,undef,h,h,false⟩::l) T2 h2)
theorem drunZ_eq (P:Program)(self:SelfC)(os:Array Oper):∀l,drunZ P self os l=drunC P self os l
  | []=>rfl
  | i::r=>by
    funext T h k
    simp only [drunZ,drunC,drunZ_eq P self os r,opDZ_eq]
    rfl
def drawnFZ (P:Program)(self:SelfC)(os:Array Oper)(s:St)(k:Ex→St→Option Out):Option Out :=
  if planOk os (late os) (mkClo os (late os) (List.replicate os.size 0)) then
    drunZ P self os (late os) s.t s.h fun recs T h =>
      if floatOk (mkClo os (late os) (List.replicate os.size 0)) [] recs&&recs.all fun r=>!(r.loud&&isAl r.o)||r.o.dst.all fun t=>decide (t<s.t.length) then
        fchkC P os (mkClo os (late os) (List.replicate os.size 0)) recs (k .normal { t:=T,d:=s.d,h:=h })
      else none
  else none
def drawnNZ (P:Program)(self:SelfC)(os:Array Oper)(s:St)(k:Ex→St→Option Out):Option Out :=
  if planOk os (Region.linearise .any os 0) (mkClo os (Region.linearise .any os 0) (List.replicate os.size 0)) then
    drunZ P self os (Region.linearise .any os 0) s.t s.h fun recs T h =>
      chkC P os (mkClo os (Region.linearise .any os 0) (List.replicate os.size 0)) recs (k .normal { t:=T,d:=s.d,h:=h })
  else none
def drawnXZ (P:Program)(self:SelfC)(os:Array Oper)(s:St)(k:Ex→St→Option Out):Option Out :=
  match floaty os (mkClo os (Region.linearise .any os 0) (List.replicate os.size 0)) with
  | true=>drawnFZ P self os s k
  | false=>drawnNZ P self os s k
theorem drawnXZ_eq:drawnXZ=drawnXC:=by
  funext P self os s k
  simp only [drawnXZ,drawnXC,drawnFZ,drawnFC,drawnNZ,drawnC,drunZ_eq]
  rfl
def opZ (P:Program) (ρ:Operand→Value)(h:Hp)(o:Oper)(k:Ends):Option Out :=
  match o.op with
  | .pick c a b=>if okO c&&okO a&&okO b then (match ρ c with | .bool t=>cond t (k.val (ρ a) h) (k.val (ρ b) h) | _=>none) else none
  | _ =>
    match symR P ρ h.bl o with
    | some (b,v)=>cond b (k.val v h) none
    | none=>match aread P ρ h.bl o with
      | some v=>k.val v h
      | none=>loudZ P ρ h o k.heap
theorem opZ_eq:opZ=opC:=by
  funext P ρ h o k
  simp only [opZ,loudZ_eq]
  rfl
def runOpsZ (P:Program)(self:SelfC)(rd:Option Nat)(os:Array Oper):List Nat→St→(Ex→St→Option Out)→Option Out
  | [],s,k=>k .normal s
  | i::r,s,k =>
    match os[i]? with
    | none=>runOpsZ P self rd os r s k
    | some o =>
      guardC os o s.t
        (fun t=>opZ P (evalT t) s.h o {
          val:=fun v h=>setK' t o.dst v fun t=>runOpsZ P self rd os r { t:=t,d:=s.d,h:=h } k
          enter:=fun f args=>headsK args fun args=>self (.call f ⟨args⟩ s.h) fun
            | .ret v h=>setK' t o.dst v fun t=>runOpsZ P self rd os r { t:=t,d:=s.d,h:=h } k
            | .pan v h=>k (.panic v) { t:=t,d:=s.d,h:=h }
            | _=>none
          yield:=fun l args=>headsK args fun args=>self (.round l ⟨args⟩ s.h) fun
            | .ret v h=>setK' t o.dst v fun t=>runOpsZ P self rd os r { t:=t,d:=s.d,h:=h } k
            | _=>none
          defer:=fun d=>if rd.isNone then setK' t o.dst undef fun t=>runOpsZ P self rd os r { t:=t,d:=d::s.d,h:=s.h } k else none
          panic:=fun v=>k (.panic v) { t:=t,d:=s.d,h:=s.h } })
        (fun t=>setK' t o.dst undef fun t=>runOpsZ P self rd os r { t:=t,d:=s.d,h:=s.h } k)
theorem runOpsZ_eq (P:Program)(self:SelfC)(rd:Option Nat)(os:Array Oper):∀l,runOpsZ P self rd os l=runOpsC P self rd os l
  | []=>rfl
  | i::r=>by
    funext s k
    simp only [runOpsZ,runOpsC,runOpsZ_eq P self rd os r,opZ_eq]
    rfl
def drawnWZ (P:Program)(self:SelfC)(rd:Option Nat)(os:Array Oper)(s:St)(k:Ex→St→Option Out):Option Out :=
  match waits os (os.size-1)&&Nat.blt 0 os.size with
  | true=>drawnXZ P self os.pop s fun e s'=>(match e with
    | .normal=>runOpsZ P self rd os [os.size-1] s' k
    | _=>none)
  | false=>drawnXZ P self os s k
theorem drawnWZ_ok {P:Program}{self:SelfC}{sd:Self}(hs:CpsOk self sd) {rd:Option Nat}{id:Nat}{os:Array Oper}{s:St}{k:Ex→St→Option Out}{r:Out}(hc:drawnWZ P self rd os s k=some r) :
    ∃e s',drawnW P sd rd id os s=some (.ex e s')∧k e s'=some r:=by
  unfold drawnWZ at hc;unfold drawnW
  by_cases hw:(waits os (os.size-1)&&Nat.blt 0 os.size)=true
  · rw [hw]at hc ⊢
    simp only [drawnXZ_eq]at hc;obtain ⟨e,s',h1,h2⟩:=drawnXC_ok (rd:=rd) (id:=id) hs hc;simp only [h1]
    cases e with
    | normal =>
      simp only at h2 ⊢;rw [runOpsZ_eq]at h2;exact runOpsC_ok hs h2
    | _=>cases h2
  · rw [Bool.eq_false_iff.2 hw]at hc ⊢
    simp only [drawnXZ_eq]at hc;exact drawnXC_ok hs hc
def stepZ (P:Program)(self:SelfC):SelfC:=fun t k=>match t with
  | .code rd (.region id os dr) s=>(match dr with
    | true=>drawnWZ P self rd os s fun e s'=>(match hasApp os with
      | true=>forceK k (.ex e s')
      | false=>k (.ex e s'))
    | false=>(match hasApp os with
      | true=>runOpsZ P self rd os (List.range os.size) s fun e s'=>forceK k (.ex e s')
      | false=>stepC P self (.code rd (.region id os false) s) k))
  | t=>stepC P self t k
theorem stepF_drawn {P:Program}{sd:Self}{t:Task}{d1 d2:Program→Self→Option Nat→Nat→Array Oper→St→Option Out}(h:∀rd id os s,t≠.code rd (.region id os true) s):stepF d1 P sd t=stepF d2 P sd t:=by
  cases t with
  | code rd c s =>
    cases c with
    | region id os dr =>
      cases dr with
      | true=>exact (h rd id os s rfl).elim
      | false=>rfl
    | _=>rfl
  | _=>rfl
theorem stepZ_ok {P:Program}{self:SelfC}{sd:Self}(hs:CpsOk self sd):CpsOk (stepZ P self) (stepF drawnW P sd):=by
  intro t k r hc;unfold stepZ at hc
  split at hc
  · rename_i rd id os dr s
    cases dr with
    | true =>
      simp only at hc;obtain ⟨e,s',h1,h2⟩:=drawnWZ_ok (id:=id) hs hc
      refine ⟨.ex e s',by simpa only [stepF,if_true] using h1,?_⟩
      split at h2
      · rw [forceK_eq]at h2;exact h2
      · exact h2
    | false =>
      simp only at hc
      split at hc
      · rw [runOpsZ_eq,forceK_eq]at hc
        obtain ⟨o,h1,h2⟩:=stepC_ok hs (.code rd (.region id os false) s) k r hc
        exact ⟨o,(stepF_drawn (fun _ _ _ _ h=>by cases h)).trans h1,h2⟩
      · obtain ⟨o,h1,h2⟩:=stepC_ok hs (.code rd (.region id os false) s) k r hc
        exact ⟨o,(stepF_drawn (fun _ _ _ _ h=>by cases h)).trans h1,h2⟩
  · rename_i hn
    obtain ⟨o,h1,h2⟩:=stepC_ok hs _ k r hc
    exact ⟨o,(stepF_drawn (fun rd id os s h=>hn rd id os true s h)).trans h1,h2⟩
def evZ (P:Program)(oc:Task→Kn→Option (Option Out)):Nat→SelfC
  | 0,_,_=>none
  | n+1,t,k=>match oc t k with
    | some r=>r
    | none=>stepZ P (evZ P oc n) t k
theorem evZ_ok {P:Program}{oc:Task→Kn→Option (Option Out)}{orc:Self}(ho:OcOk oc orc):∀n,CpsOk (evZ P oc n) (iterO orc drawnW P n)
  | 0=>fun _ _ _ h=>by cases h
  | n+1=>by
    intro t k r h;simp only [evZ]at h;simp only [iterO]
    split at h
    · rename_i r' hr
      subst h;obtain ⟨o,h1,h2⟩:=ho.1 _ _ _ hr;rw [h1];exact ⟨_,rfl,h2⟩
    · rename_i hr
      rw [ho.2 _ _ hr];exact stepZ_ok (evZ_ok ho n) t k r h
theorem Known.factZ {P:Program}(hN:NoNG P) (hm:P.follows .mixedOrders=true) {a:Ans}(hk:Known P a) {n:Nat}{t:Task}{k:Kn}{r:Out}(h:evZ P a.c n t k=some r):∃o,k o=some r∧Fact P t o:=by
  obtain ⟨o',h1,h2⟩:=evZ_ok (P:=P) a.oc n t k r h;have hh:=iterO_ok (drawn:=drawnW) hN (drawnW_ok hN hm) hk.selfOk hk.loopOk n
  refine ⟨o',h2,hh.1 _ _ h1,?_⟩
  unfold LoopFact
  split
  · exact fun hb=>hh.2 _ _ _ _ _ h1 hb
  · trivial
def CF.chk (P:Program)(l:List CF)(n:Nat)(c:CF):Bool:=match evZ P (tabA l).c n (.call c.g ⟨c.args⟩ ⟨[],0,[]⟩) frDK with
  | some (.ret u ⟨[],0,[]⟩)=>(match eqVn 12 u c.u with
    | true=>c.args.all pureA
    | false=>false)
  | _=>false
section
variable {P:Program}(hN:NoNG P) (hm:P.follows .mixedOrders=true)
include hN hm
theorem CF.of2 {l:List CF}(hl:CFs P l) (n:Nat) {c:CF}(h:c.chk P l n=true):c.Ok P:=by
  unfold CF.chk at h
  split at h
  · rename_i u he
    split at h
    · rename_i hu
      have e:=eqVn_eq hu;subst e;intro hp;obtain ⟨o,h3,hf⟩:=(tabA_ok hl).factZ hN hm he
      cases o with
      | ret v h' =>
        simp only [frDK]at h3
        split at h3
        · rename_i u hu
          simp only [Option.some.injEq,Out.ret.injEq,and_true]at h3;subst h3;exact hf.liftD hu h hp
        · cases h3
      | _=>cases h3
    · cases h
  · cases h
end
end
end Go.Gi
namespace Go.Proofs.YtoghoeebiddblaaGreat
open Go.Gi Go.RowKit
noncomputable section
set_option maxRecDepth 100000
set_option maxHeartbeats 4000000
def wAwake0:Array Value:=⟨[vI 0,vI 200000,vI 600,vI 780,vJ 149,vI 80,vI 200000,vI 1000000,vI 640,vI 740,vJ 109,vI 240]⟩
def wAwake1:Array Value:=⟨[.agg ⟨[vI 184000000,vI 230000000]⟩,.agg ⟨[vJ 40999999,vI 40000000]⟩]⟩
def wAwake2:Array Value:=⟨[.agg ⟨[vI 0,vI 3066666,vI 4601000,vJ 819999,vI 801000,vI 5500,vI 6510]⟩,vI 0]⟩
def wAwake3:Array Value:=⟨[.string ⟨⟨[102,97,114,109]⟩⟩,vI 2000,vI 5000,vI 0,vI 999,vI 100,.string ⟨⟨[108,97,107,101]⟩⟩,vI 2500,vI 2600,vI 1500,vI 1600,vJ 0]⟩
def wAwake4:Array Value:=⟨[vI 0,vI 2999,vI 0,vI 1999,vI 1000,lstV ⟨[vJ 999,vI 500,vI 1,vI 0,vI 200]⟩ 0 1 5,lstV wAwake3 0 2 6,vJ 1999,vI 500,vI 0,vI 100,vI 200,vI 10,vI 20]⟩
def wAwake5:Array Value:=⟨[.func (.func 106) ⟨[]⟩ ⟨[dptV ⟨[vJ 999,vI 500,vI 1,vI 0,vI 200]⟩ 0]⟩]⟩
def wAwake6:Array Value:=⟨[.func (.func 107) ⟨[]⟩ ⟨[dptV ⟨[vJ 999,vI 500,vI 1,vI 0,vI 200]⟩ 0]⟩]⟩
def wAwake7:Array Value:=⟨[dptV wAwake6 0,dptV ⟨[vJ 999,vI 500,vI 1,vI 0,vI 200]⟩ 0,dptV wAwake5 0]⟩
def wAwake8:Array Value:=⟨[.func (.func 108) ⟨[]⟩ ⟨[dptV wAwake5 0]⟩,.func (.func 109) ⟨[]⟩ wAwake7,.func (.func 110) ⟨[]⟩ wAwake7]⟩
def wAwake9:Array Value:=⟨[vI 0,vI 999,vI 0,vI 999,vI 0,vI 1000,vI 1999,vI 0,vI 999,vI 0,vI 2000,vI 2999,vI 0,vI 999,vI 100,vI 1000,vI 1999,vI 1000,vI 1999,vI 0,vI 2000,vI 2999,vI 1000,vI 1999,vJ 0]⟩
def wAwake10:Array Value:=⟨[vI 0,vI 25,vI 35,vI 1,vI 45,vI 55,vI 3,vI 65,vI 75,vI 2,vI 100,vI 110,vJ 0,vI 155,vI 175]⟩
def KAwake0:CF:=⟨32,[vI 0,vI 1000],.agg ⟨[vI 0,vI 1000]⟩⟩
theorem kAwake0:KAwake0.Ok Tryz.prog:=CF.of2 noNG mixed (l:=[]) .nil 3000 (by kernel_rfl)
def KAwake1:CF:=⟨31,[vI 0,vI 1000,vI 0,vI 1000],.agg ⟨[vI 0,vI 1000,vI 0,vI 1000]⟩⟩
theorem kAwake1:KAwake1.Ok Tryz.prog:=CF.of2 noNG mixed (l:=[KAwake0]) (.cons kAwake0 .nil) 3000 (by kernel_rfl)
def KAwake2:CF:=⟨32,[vI 500,vI 510],.agg ⟨[vI 500,vI 510]⟩⟩
theorem kAwake2:KAwake2.Ok Tryz.prog:=CF.of2 noNG mixed (l:=[]) .nil 3000 (by kernel_rfl)
def KAwake3:CF:=⟨27,[],.agg ⟨[vI 0,vI 0,vI 1000,vI 0,vI 1000,vI 500,vI 510]⟩⟩
theorem kAwake3:KAwake3.Ok Tryz.prog:=CF.of2 noNG mixed (l:=[KAwake1,KAwake2]) (.cons kAwake1 (.cons kAwake2 .nil)) 3000 (by kernel_rfl)
def KAwake4:CF:=⟨32,[vI 50,vI 60],.agg ⟨[vI 50,vI 60]⟩⟩
theorem kAwake4:KAwake4.Ok Tryz.prog:=CF.of2 noNG mixed (l:=[]) .nil 3000 (by kernel_rfl)
def KAwake5:CF:=⟨28,[],.agg ⟨[vI 300000,vI 50,vI 60]⟩⟩
theorem kAwake5:KAwake5.Ok Tryz.prog:=CF.of2 noNG mixed (l:=[KAwake4]) (.cons kAwake4 .nil) 3000 (by kernel_rfl)
def KAwake6:CF:=⟨29,[],lstV wAwake0 0 2 6⟩
theorem kAwake6:KAwake6.Ok Tryz.prog:=CF.of2 noNG mixed (l:=[]) .nil 3000 (by kernel_rfl)
def KAwake7:CF:=⟨20,[vI 300000,vI 1,vI 100000000],vT⟩
theorem kAwake7:KAwake7.Ok Tryz.prog:=CF.of2 noNG mixed (l:=[]) .nil 3000 (by kernel_rfl)
def KAwake8:CF:=⟨84,[.agg ⟨[vI 50,vI 60]⟩,vI 1,vI 10000],vT⟩
theorem kAwake8:KAwake8.Ok Tryz.prog:=CF.of2 noNG mixed (l:=[]) .nil 3000 (by kernel_rfl)
def KAwake9:CF:=⟨59,[.agg ⟨[vI 300000,vI 50,vI 60]⟩],vI 0⟩
theorem kAwake9:KAwake9.Ok Tryz.prog:=CF.of2 noNG mixed (l:=[KAwake8,KAwake7]) (.cons kAwake8 (.cons kAwake7 .nil)) 3000 (by kernel_rfl)
def KAwake10:CF:=⟨112,[vI 600],vT⟩
theorem kAwake10:KAwake10.Ok Tryz.prog:=CF.of2 noNG mixed (l:=[]) .nil 3000 (by kernel_rfl)
def KAwake11:CF:=⟨112,[vI 780],vT⟩
theorem kAwake11:KAwake11.Ok Tryz.prog:=CF.of2 noNG mixed (l:=[]) .nil 3000 (by kernel_rfl)
def KAwake12:CF:=⟨101,[.agg ⟨[vI 600,vI 780]⟩],vT⟩
theorem kAwake12:KAwake12.Ok Tryz.prog:=CF.of2 noNG mixed (l:=[KAwake10,KAwake11]) (.cons kAwake10 (.cons kAwake11 .nil)) 3000 (by kernel_rfl)
def KAwake13:CF:=⟨112,[vJ 149],vT⟩
theorem kAwake13:KAwake13.Ok Tryz.prog:=CF.of2 noNG mixed (l:=[]) .nil 3000 (by kernel_rfl)
def KAwake14:CF:=⟨112,[vI 80],vT⟩
theorem kAwake14:KAwake14.Ok Tryz.prog:=CF.of2 noNG mixed (l:=[]) .nil 3000 (by kernel_rfl)
def KAwake15:CF:=⟨101,[.agg ⟨[vJ 149,vI 80]⟩],vT⟩
theorem kAwake15:KAwake15.Ok Tryz.prog:=CF.of2 noNG mixed (l:=[KAwake13,KAwake14]) (.cons kAwake13 (.cons kAwake14 .nil)) 3000 (by kernel_rfl)
def KAwake16:CF:=⟨85,[.agg ⟨[vI 0,vI 200000,vI 600,vI 780,vJ 149,vI 80]⟩,vI 0],vI 0⟩
theorem kAwake16:KAwake16.Ok Tryz.prog:=CF.of2 noNG mixed (l:=[KAwake12,KAwake15]) (.cons kAwake12 (.cons kAwake15 .nil)) 3000 (by kernel_rfl)
def KAwake17:CF:=⟨112,[vI 640],vT⟩
theorem kAwake17:KAwake17.Ok Tryz.prog:=CF.of2 noNG mixed (l:=[]) .nil 3000 (by kernel_rfl)
def KAwake18:CF:=⟨112,[vI 740],vT⟩
theorem kAwake18:KAwake18.Ok Tryz.prog:=CF.of2 noNG mixed (l:=[]) .nil 3000 (by kernel_rfl)
def KAwake19:CF:=⟨101,[.agg ⟨[vI 640,vI 740]⟩],vT⟩
theorem kAwake19:KAwake19.Ok Tryz.prog:=CF.of2 noNG mixed (l:=[KAwake17,KAwake18]) (.cons kAwake17 (.cons kAwake18 .nil)) 3000 (by kernel_rfl)
def KAwake20:CF:=⟨112,[vJ 109],vT⟩
theorem kAwake20:KAwake20.Ok Tryz.prog:=CF.of2 noNG mixed (l:=[]) .nil 3000 (by kernel_rfl)
def KAwake21:CF:=⟨112,[vI 240],vT⟩
theorem kAwake21:KAwake21.Ok Tryz.prog:=CF.of2 noNG mixed (l:=[]) .nil 3000 (by kernel_rfl)
def KAwake22:CF:=⟨101,[.agg ⟨[vJ 109,vI 240]⟩],vT⟩
theorem kAwake22:KAwake22.Ok Tryz.prog:=CF.of2 noNG mixed (l:=[KAwake20,KAwake21]) (.cons kAwake20 (.cons kAwake21 .nil)) 3000 (by kernel_rfl)
def KAwake23:CF:=⟨85,[.agg ⟨[vI 200000,vI 1000000,vI 640,vI 740,vJ 109,vI 240]⟩,vI 200000],vI 0⟩
theorem kAwake23:KAwake23.Ok Tryz.prog:=CF.of2 noNG mixed (l:=[KAwake19,KAwake22]) (.cons kAwake19 (.cons kAwake22 .nil)) 3000 (by kernel_rfl)
def KAwake24:CF:=⟨60,[lstV wAwake0 0 2 6],.tuple ⟨[vI 0,vI 0]⟩⟩
theorem kAwake24:KAwake24.Ok Tryz.prog:=CF.of2 noNG mixed (l:=[KAwake16,KAwake23]) (.cons kAwake16 (.cons kAwake23 .nil)) 3000 (by kernel_rfl)
def KAwake25:CF:=⟨84,[.agg ⟨[vI 0,vI 1000]⟩,vJ 1999999999,vI 2000000000],vT⟩
theorem kAwake25:KAwake25.Ok Tryz.prog:=CF.of2 noNG mixed (l:=[]) .nil 3000 (by kernel_rfl)
def KAwake26:CF:=⟨84,[.agg ⟨[vI 500,vI 510]⟩,vI 0,vI 100000],vT⟩
theorem kAwake26:KAwake26.Ok Tryz.prog:=CF.of2 noNG mixed (l:=[]) .nil 3000 (by kernel_rfl)
def KAwake27:CF:=⟨61,[.agg ⟨[vI 0,vI 0,vI 1000,vI 0,vI 1000,vI 500,vI 510]⟩],vT⟩
theorem kAwake27:KAwake27.Ok Tryz.prog:=CF.of2 noNG mixed (l:=[KAwake25,KAwake26]) (.cons kAwake25 (.cons kAwake26 .nil)) 3000 (by kernel_rfl)
def KAwake28:CF:=⟨86,[.agg ⟨[vI 600,vI 780]⟩,vI 200000],.agg ⟨[vI 120000000,vI 156000000]⟩⟩
theorem kAwake28:KAwake28.Ok Tryz.prog:=CF.of2 noNG mixed (l:=[]) .nil 3000 (by kernel_rfl)
def KAwake29:CF:=⟨63,[.agg ⟨[vI 0,vI 0]⟩,.agg ⟨[vI 120000000,vI 156000000]⟩],.agg ⟨[vI 120000000,vI 156000000]⟩⟩
theorem kAwake29:KAwake29.Ok Tryz.prog:=CF.of2 noNG mixed (l:=[]) .nil 3000 (by kernel_rfl)
def KAwake30:CF:=⟨86,[.agg ⟨[vJ 149,vI 80]⟩,vI 200000],.agg ⟨[vJ 29999999,vI 16000000]⟩⟩
theorem kAwake30:KAwake30.Ok Tryz.prog:=CF.of2 noNG mixed (l:=[]) .nil 3000 (by kernel_rfl)
def KAwake31:CF:=⟨63,[.agg ⟨[vI 0,vI 0]⟩,.agg ⟨[vJ 29999999,vI 16000000]⟩],.agg ⟨[vJ 29999999,vI 16000000]⟩⟩
theorem kAwake31:KAwake31.Ok Tryz.prog:=CF.of2 noNG mixed (l:=[]) .nil 3000 (by kernel_rfl)
def KAwake32:CF:=⟨86,[.agg ⟨[vI 640,vI 740]⟩,vI 100000],.agg ⟨[vI 64000000,vI 74000000]⟩⟩
theorem kAwake32:KAwake32.Ok Tryz.prog:=CF.of2 noNG mixed (l:=[]) .nil 3000 (by kernel_rfl)
def KAwake33:CF:=⟨63,[.agg ⟨[vI 120000000,vI 156000000]⟩,.agg ⟨[vI 64000000,vI 74000000]⟩],.agg ⟨[vI 184000000,vI 230000000]⟩⟩
theorem kAwake33:KAwake33.Ok Tryz.prog:=CF.of2 noNG mixed (l:=[]) .nil 3000 (by kernel_rfl)
def KAwake34:CF:=⟨86,[.agg ⟨[vJ 109,vI 240]⟩,vI 100000],.agg ⟨[vJ 10999999,vI 24000000]⟩⟩
theorem kAwake34:KAwake34.Ok Tryz.prog:=CF.of2 noNG mixed (l:=[]) .nil 3000 (by kernel_rfl)
def KAwake35:CF:=⟨63,[.agg ⟨[vJ 29999999,vI 16000000]⟩,.agg ⟨[vJ 10999999,vI 24000000]⟩],.agg ⟨[vJ 40999999,vI 40000000]⟩⟩
theorem kAwake35:KAwake35.Ok Tryz.prog:=CF.of2 noNG mixed (l:=[]) .nil 3000 (by kernel_rfl)
def KAwake36:CF:=⟨62,[lstV wAwake0 0 2 6,vI 300000],.tuple wAwake1⟩
theorem kAwake36:KAwake36.Ok Tryz.prog:=CF.of2 noNG mixed (l:=[KAwake32,KAwake33,KAwake34,KAwake35,KAwake28,KAwake29,KAwake30,KAwake31]) (.cons kAwake32 (.cons kAwake33 (.cons kAwake34 (.cons kAwake35 (.cons kAwake28 (.cons kAwake29 (.cons kAwake30 (.cons kAwake31 .nil)))))))) 3000 (by kernel_rfl)
def KAwake37:CF:=⟨83,[vI 184000000,vI 50],vI 3680000⟩
theorem kAwake37:KAwake37.Ok Tryz.prog:=CF.of2 noNG mixed (l:=[]) .nil 3000 (by kernel_rfl)
def KAwake38:CF:=⟨83,[vI 184000000,vI 60],vI 3066666⟩
theorem kAwake38:KAwake38.Ok Tryz.prog:=CF.of2 noNG mixed (l:=[]) .nil 3000 (by kernel_rfl)
def KAwake39:CF:=⟨83,[vJ 229999999,vI 50],vJ 4599999⟩
theorem kAwake39:KAwake39.Ok Tryz.prog:=CF.of2 noNG mixed (l:=[]) .nil 3000 (by kernel_rfl)
def KAwake40:CF:=⟨58,[vI 230000000,vI 50],vI 4600000⟩
theorem kAwake40:KAwake40.Ok Tryz.prog:=CF.of2 noNG mixed (l:=[KAwake39]) (.cons kAwake39 .nil) 3000 (by kernel_rfl)
def KAwake41:CF:=⟨83,[vJ 229999999,vI 60],vJ 3833333⟩
theorem kAwake41:KAwake41.Ok Tryz.prog:=CF.of2 noNG mixed (l:=[]) .nil 3000 (by kernel_rfl)
def KAwake42:CF:=⟨58,[vI 230000000,vI 60],vI 3833334⟩
theorem kAwake42:KAwake42.Ok Tryz.prog:=CF.of2 noNG mixed (l:=[KAwake41]) (.cons kAwake41 .nil) 3000 (by kernel_rfl)
def KAwake43:CF:=⟨64,[.agg ⟨[vI 184000000,vI 230000000]⟩,.agg ⟨[vI 50,vI 60]⟩],.agg ⟨[vI 3066666,vI 4600000]⟩⟩
theorem kAwake43:KAwake43.Ok Tryz.prog:=CF.of2 noNG mixed (l:=[KAwake40,KAwake42,KAwake37,KAwake38]) (.cons kAwake40 (.cons kAwake42 (.cons kAwake37 (.cons kAwake38 .nil)))) 3000 (by kernel_rfl)
def KAwake44:CF:=⟨63,[.agg ⟨[vI 0,vI 1000]⟩,.agg ⟨[vI 3066666,vI 4600000]⟩],.agg ⟨[vI 3066666,vI 4601000]⟩⟩
theorem kAwake44:KAwake44.Ok Tryz.prog:=CF.of2 noNG mixed (l:=[]) .nil 3000 (by kernel_rfl)
def KAwake45:CF:=⟨83,[vJ 40999999,vI 50],vJ 819999⟩
theorem kAwake45:KAwake45.Ok Tryz.prog:=CF.of2 noNG mixed (l:=[]) .nil 3000 (by kernel_rfl)
def KAwake46:CF:=⟨83,[vJ 40999999,vI 60],vJ 683333⟩
theorem kAwake46:KAwake46.Ok Tryz.prog:=CF.of2 noNG mixed (l:=[]) .nil 3000 (by kernel_rfl)
def KAwake47:CF:=⟨83,[vJ 39999999,vI 50],vJ 799999⟩
theorem kAwake47:KAwake47.Ok Tryz.prog:=CF.of2 noNG mixed (l:=[]) .nil 3000 (by kernel_rfl)
def KAwake48:CF:=⟨58,[vI 40000000,vI 50],vI 800000⟩
theorem kAwake48:KAwake48.Ok Tryz.prog:=CF.of2 noNG mixed (l:=[KAwake47]) (.cons kAwake47 .nil) 3000 (by kernel_rfl)
def KAwake49:CF:=⟨83,[vJ 39999999,vI 60],vJ 666666⟩
theorem kAwake49:KAwake49.Ok Tryz.prog:=CF.of2 noNG mixed (l:=[]) .nil 3000 (by kernel_rfl)
def KAwake50:CF:=⟨58,[vI 40000000,vI 60],vI 666667⟩
theorem kAwake50:KAwake50.Ok Tryz.prog:=CF.of2 noNG mixed (l:=[KAwake49]) (.cons kAwake49 .nil) 3000 (by kernel_rfl)
def KAwake51:CF:=⟨64,[.agg ⟨[vJ 40999999,vI 40000000]⟩,.agg ⟨[vI 50,vI 60]⟩],.agg ⟨[vJ 819999,vI 800000]⟩⟩
theorem kAwake51:KAwake51.Ok Tryz.prog:=CF.of2 noNG mixed (l:=[KAwake48,KAwake50,KAwake45,KAwake46]) (.cons kAwake48 (.cons kAwake50 (.cons kAwake45 (.cons kAwake46 .nil)))) 3000 (by kernel_rfl)
def KAwake52:CF:=⟨63,[.agg ⟨[vI 0,vI 1000]⟩,.agg ⟨[vJ 819999,vI 800000]⟩],.agg ⟨[vJ 819999,vI 801000]⟩⟩
theorem kAwake52:KAwake52.Ok Tryz.prog:=CF.of2 noNG mixed (l:=[]) .nil 3000 (by kernel_rfl)
def KAwake53:CF:=⟨83,[vI 300000,vI 50],vI 6000⟩
theorem kAwake53:KAwake53.Ok Tryz.prog:=CF.of2 noNG mixed (l:=[]) .nil 3000 (by kernel_rfl)
def KAwake54:CF:=⟨83,[vI 300000,vI 60],vI 5000⟩
theorem kAwake54:KAwake54.Ok Tryz.prog:=CF.of2 noNG mixed (l:=[]) .nil 3000 (by kernel_rfl)
def KAwake55:CF:=⟨83,[vJ 299999,vI 50],vJ 5999⟩
theorem kAwake55:KAwake55.Ok Tryz.prog:=CF.of2 noNG mixed (l:=[]) .nil 3000 (by kernel_rfl)
def KAwake56:CF:=⟨58,[vI 300000,vI 50],vI 6000⟩
theorem kAwake56:KAwake56.Ok Tryz.prog:=CF.of2 noNG mixed (l:=[KAwake55]) (.cons kAwake55 .nil) 3000 (by kernel_rfl)
def KAwake57:CF:=⟨83,[vJ 299999,vI 60],vJ 4999⟩
theorem kAwake57:KAwake57.Ok Tryz.prog:=CF.of2 noNG mixed (l:=[]) .nil 3000 (by kernel_rfl)
def KAwake58:CF:=⟨58,[vI 300000,vI 60],vI 5000⟩
theorem kAwake58:KAwake58.Ok Tryz.prog:=CF.of2 noNG mixed (l:=[KAwake57]) (.cons kAwake57 .nil) 3000 (by kernel_rfl)
def KAwake59:CF:=⟨64,[.agg ⟨[vI 300000,vI 300000]⟩,.agg ⟨[vI 50,vI 60]⟩],.agg ⟨[vI 5000,vI 6000]⟩⟩
theorem kAwake59:KAwake59.Ok Tryz.prog:=CF.of2 noNG mixed (l:=[KAwake56,KAwake58,KAwake53,KAwake54]) (.cons kAwake56 (.cons kAwake58 (.cons kAwake53 (.cons kAwake54 .nil)))) 3000 (by kernel_rfl)
def KAwake60:CF:=⟨63,[.agg ⟨[vI 500,vI 510]⟩,.agg ⟨[vI 5000,vI 6000]⟩],.agg ⟨[vI 5500,vI 6510]⟩⟩
theorem kAwake60:KAwake60.Ok Tryz.prog:=CF.of2 noNG mixed (l:=[]) .nil 3000 (by kernel_rfl)
def KAwake61:CF:=⟨26,[.agg ⟨[vI 0,vI 0,vI 1000,vI 0,vI 1000,vI 500,vI 510]⟩,.agg ⟨[vI 300000,vI 50,vI 60]⟩,lstV wAwake0 0 2 6],.tuple wAwake2⟩
theorem kAwake61:KAwake61.Ok Tryz.prog:=CF.of2 noNG mixed (l:=[KAwake36,KAwake9,KAwake59,KAwake43,KAwake44,KAwake51,KAwake52,KAwake24,KAwake27,KAwake60]) (.cons kAwake36 (.cons kAwake9 (.cons kAwake59 (.cons kAwake43 (.cons kAwake44 (.cons kAwake51 (.cons kAwake52 (.cons kAwake24 (.cons kAwake27 (.cons kAwake60 .nil)))))))))) 3000 (by kernel_rfl)
def KAwake62:CF:=⟨32,[vI 0,vI 2999],.agg ⟨[vI 0,vI 2999]⟩⟩
theorem kAwake62:KAwake62.Ok Tryz.prog:=CF.of2 noNG mixed (l:=[]) .nil 3000 (by kernel_rfl)
def KAwake63:CF:=⟨32,[vI 0,vI 1999],.agg ⟨[vI 0,vI 1999]⟩⟩
theorem kAwake63:KAwake63.Ok Tryz.prog:=CF.of2 noNG mixed (l:=[]) .nil 3000 (by kernel_rfl)
def KAwake64:CF:=⟨31,[vI 0,vI 2999,vI 0,vI 1999],.agg ⟨[vI 0,vI 2999,vI 0,vI 1999]⟩⟩
theorem kAwake64:KAwake64.Ok Tryz.prog:=CF.of2 noNG mixed (l:=[KAwake62,KAwake63]) (.cons kAwake62 (.cons kAwake63 .nil)) 3000 (by kernel_rfl)
def KAwake65:CF:=⟨32,[vI 2000,vI 5000],.agg ⟨[vI 2000,vI 5000]⟩⟩
theorem kAwake65:KAwake65.Ok Tryz.prog:=CF.of2 noNG mixed (l:=[]) .nil 3000 (by kernel_rfl)
def KAwake66:CF:=⟨32,[vI 0,vI 999],.agg ⟨[vI 0,vI 999]⟩⟩
theorem kAwake66:KAwake66.Ok Tryz.prog:=CF.of2 noNG mixed (l:=[]) .nil 3000 (by kernel_rfl)
def KAwake67:CF:=⟨31,[vI 2000,vI 5000,vI 0,vI 999],.agg ⟨[vI 2000,vI 5000,vI 0,vI 999]⟩⟩
theorem kAwake67:KAwake67.Ok Tryz.prog:=CF.of2 noNG mixed (l:=[KAwake65,KAwake66]) (.cons kAwake65 (.cons kAwake66 .nil)) 3000 (by kernel_rfl)
def KAwake68:CF:=⟨32,[vI 2500,vI 2600],.agg ⟨[vI 2500,vI 2600]⟩⟩
theorem kAwake68:KAwake68.Ok Tryz.prog:=CF.of2 noNG mixed (l:=[]) .nil 3000 (by kernel_rfl)
def KAwake69:CF:=⟨32,[vI 1500,vI 1600],.agg ⟨[vI 1500,vI 1600]⟩⟩
theorem kAwake69:KAwake69.Ok Tryz.prog:=CF.of2 noNG mixed (l:=[]) .nil 3000 (by kernel_rfl)
def KAwake70:CF:=⟨31,[vI 2500,vI 2600,vI 1500,vI 1600],.agg ⟨[vI 2500,vI 2600,vI 1500,vI 1600]⟩⟩
theorem kAwake70:KAwake70.Ok Tryz.prog:=CF.of2 noNG mixed (l:=[KAwake68,KAwake69]) (.cons kAwake68 (.cons kAwake69 .nil)) 3000 (by kernel_rfl)
def KAwake71:CF:=⟨30,[],.agg wAwake4⟩
theorem kAwake71:KAwake71.Ok Tryz.prog:=CF.of2 noNG mixed (l:=[KAwake64,KAwake67,KAwake70]) (.cons kAwake64 (.cons kAwake67 (.cons kAwake70 .nil))) 3000 (by kernel_rfl)
def KAwake72:CF:=⟨84,[.agg ⟨[vI 0,vI 2999]⟩,vJ 99999999,vI 100000000],vT⟩
theorem kAwake72:KAwake72.Ok Tryz.prog:=CF.of2 noNG mixed (l:=[]) .nil 3000 (by kernel_rfl)
def KAwake73:CF:=⟨84,[.agg ⟨[vI 0,vI 1999]⟩,vJ 99999999,vI 100000000],vT⟩
theorem kAwake73:KAwake73.Ok Tryz.prog:=CF.of2 noNG mixed (l:=[]) .nil 3000 (by kernel_rfl)
def KAwake74:CF:=⟨71,[.agg ⟨[vI 0,vI 2999,vI 0,vI 1999]⟩],vT⟩
theorem kAwake74:KAwake74.Ok Tryz.prog:=CF.of2 noNG mixed (l:=[KAwake72,KAwake73]) (.cons kAwake72 (.cons kAwake73 .nil)) 3000 (by kernel_rfl)
def KAwake75:CF:=⟨20,[vI 1000,vI 1,vI 100000000],vT⟩
theorem kAwake75:KAwake75.Ok Tryz.prog:=CF.of2 noNG mixed (l:=[]) .nil 3000 (by kernel_rfl)
def KAwake76:CF:=⟨45,[.agg ⟨[vI 0,vI 2999]⟩,vI 1000],vI 3⟩
theorem kAwake76:KAwake76.Ok Tryz.prog:=CF.of2 noNG mixed (l:=[]) .nil 3000 (by kernel_rfl)
def KAwake77:CF:=⟨45,[.agg ⟨[vI 0,vI 1999]⟩,vI 1000],vI 2⟩
theorem kAwake77:KAwake77.Ok Tryz.prog:=CF.of2 noNG mixed (l:=[]) .nil 3000 (by kernel_rfl)
def KAwake78:CF:=⟨41,[.agg wAwake4],vI 0⟩
theorem kAwake78:KAwake78.Ok Tryz.prog:=CF.of2 noNG mixed (l:=[KAwake74,KAwake75,KAwake76,KAwake77]) (.cons kAwake74 (.cons kAwake75 (.cons kAwake76 (.cons kAwake77 .nil)))) 3000 (by kernel_rfl)
def KAwake79:CF:=⟨20,[vJ 999,vJ 99999999,vI 100000000],vT⟩
theorem kAwake79:KAwake79.Ok Tryz.prog:=CF.of2 noNG mixed (l:=[]) .nil 3000 (by kernel_rfl)
def KAwake80:CF:=⟨55,[vJ 999],vT⟩
theorem kAwake80:KAwake80.Ok Tryz.prog:=CF.of2 noNG mixed (l:=[KAwake79]) (.cons kAwake79 .nil) 3000 (by kernel_rfl)
def KAwake81:CF:=⟨20,[vI 500,vJ 99999999,vI 100000000],vT⟩
theorem kAwake81:KAwake81.Ok Tryz.prog:=CF.of2 noNG mixed (l:=[]) .nil 3000 (by kernel_rfl)
def KAwake82:CF:=⟨55,[vI 500],vT⟩
theorem kAwake82:KAwake82.Ok Tryz.prog:=CF.of2 noNG mixed (l:=[KAwake81]) (.cons kAwake81 .nil) 3000 (by kernel_rfl)
def KAwake83:CF:=⟨20,[vI 1,vJ 999,vI 1000],vT⟩
theorem kAwake83:KAwake83.Ok Tryz.prog:=CF.of2 noNG mixed (l:=[]) .nil 3000 (by kernel_rfl)
def KAwake84:CF:=⟨92,[vI 1],vT⟩
theorem kAwake84:KAwake84.Ok Tryz.prog:=CF.of2 noNG mixed (l:=[KAwake83]) (.cons kAwake83 .nil) 3000 (by kernel_rfl)
def KAwake85:CF:=⟨20,[vI 0,vJ 999,vI 1000],vT⟩
theorem kAwake85:KAwake85.Ok Tryz.prog:=CF.of2 noNG mixed (l:=[]) .nil 3000 (by kernel_rfl)
def KAwake86:CF:=⟨92,[vI 0],vT⟩
theorem kAwake86:KAwake86.Ok Tryz.prog:=CF.of2 noNG mixed (l:=[KAwake85]) (.cons kAwake85 .nil) 3000 (by kernel_rfl)
def KAwake87:CF:=⟨20,[vI 200,vI 0,vI 2000],vT⟩
theorem kAwake87:KAwake87.Ok Tryz.prog:=CF.of2 noNG mixed (l:=[]) .nil 3000 (by kernel_rfl)
def KAwake88:CF:=⟨72,[.agg ⟨[vJ 999,vI 500,vI 1,vI 0,vI 200]⟩],vI 0⟩
theorem kAwake88:KAwake88.Ok Tryz.prog:=CF.of2 noNG mixed (l:=[KAwake80,KAwake82,KAwake84,KAwake86,KAwake87]) (.cons kAwake80 (.cons kAwake82 (.cons kAwake84 (.cons kAwake86 (.cons kAwake87 .nil))))) 3000 (by kernel_rfl)
def KAwake89:CF:=⟨42,[lstV ⟨[vJ 999,vI 500,vI 1,vI 0,vI 200]⟩ 0 1 5],.tuple ⟨[vI 0,vI 0]⟩⟩
theorem kAwake89:KAwake89.Ok Tryz.prog:=CF.of2 noNG mixed (l:=[KAwake88]) (.cons kAwake88 .nil) 3000 (by kernel_rfl)
def KAwake90:CF:=⟨103,[.int .u8 (.ofNat 102)],vT⟩
theorem kAwake90:KAwake90.Ok Tryz.prog:=CF.of2 noNG mixed (l:=[]) .nil 3000 (by kernel_rfl)
def KAwake91:CF:=⟨103,[.int .u8 (.ofNat 97)],vT⟩
theorem kAwake91:KAwake91.Ok Tryz.prog:=CF.of2 noNG mixed (l:=[]) .nil 3000 (by kernel_rfl)
def KAwake92:CF:=⟨103,[.int .u8 (.ofNat 114)],vT⟩
theorem kAwake92:KAwake92.Ok Tryz.prog:=CF.of2 noNG mixed (l:=[]) .nil 3000 (by kernel_rfl)
def KAwake93:CF:=⟨103,[.int .u8 (.ofNat 109)],vT⟩
theorem kAwake93:KAwake93.Ok Tryz.prog:=CF.of2 noNG mixed (l:=[]) .nil 3000 (by kernel_rfl)
def KAwake94:CF:=⟨93,[.string ⟨⟨[102,97,114,109]⟩⟩],vT⟩
theorem kAwake94:KAwake94.Ok Tryz.prog:=CF.of2 noNG mixed (l:=[KAwake90,KAwake91,KAwake92,KAwake93]) (.cons kAwake90 (.cons kAwake91 (.cons kAwake92 (.cons kAwake93 .nil)))) 3000 (by kernel_rfl)
def KAwake95:CF:=⟨84,[.agg ⟨[vI 2000,vI 5000]⟩,vJ 99999999,vI 100000000],vT⟩
theorem kAwake95:KAwake95.Ok Tryz.prog:=CF.of2 noNG mixed (l:=[]) .nil 3000 (by kernel_rfl)
def KAwake96:CF:=⟨84,[.agg ⟨[vI 0,vI 999]⟩,vJ 99999999,vI 100000000],vT⟩
theorem kAwake96:KAwake96.Ok Tryz.prog:=CF.of2 noNG mixed (l:=[]) .nil 3000 (by kernel_rfl)
def KAwake97:CF:=⟨71,[.agg ⟨[vI 2000,vI 5000,vI 0,vI 999]⟩],vT⟩
theorem kAwake97:KAwake97.Ok Tryz.prog:=CF.of2 noNG mixed (l:=[KAwake96,KAwake95]) (.cons kAwake96 (.cons kAwake95 .nil)) 3000 (by kernel_rfl)
def KAwake98:CF:=⟨20,[vI 100,vI 0,vI 100000],vT⟩
theorem kAwake98:KAwake98.Ok Tryz.prog:=CF.of2 noNG mixed (l:=[]) .nil 3000 (by kernel_rfl)
def KAwake99:CF:=⟨74,[vI 100],vT⟩
theorem kAwake99:KAwake99.Ok Tryz.prog:=CF.of2 noNG mixed (l:=[KAwake98]) (.cons kAwake98 .nil) 3000 (by kernel_rfl)
def KAwake100:CF:=⟨73,[.agg ⟨[.string ⟨⟨[102,97,114,109]⟩⟩,vI 2000,vI 5000,vI 0,vI 999,vI 100]⟩,lstV wAwake3 0 0 6],vI 0⟩
theorem kAwake100:KAwake100.Ok Tryz.prog:=CF.of2 noNG mixed (l:=[KAwake97,KAwake99,KAwake94]) (.cons kAwake97 (.cons kAwake99 (.cons kAwake94 .nil))) 3000 (by kernel_rfl)
def KAwake101:CF:=⟨103,[.int .u8 (.ofNat 108)],vT⟩
theorem kAwake101:KAwake101.Ok Tryz.prog:=CF.of2 noNG mixed (l:=[]) .nil 3000 (by kernel_rfl)
def KAwake102:CF:=⟨103,[.int .u8 (.ofNat 107)],vT⟩
theorem kAwake102:KAwake102.Ok Tryz.prog:=CF.of2 noNG mixed (l:=[]) .nil 3000 (by kernel_rfl)
def KAwake103:CF:=⟨103,[.int .u8 (.ofNat 101)],vT⟩
theorem kAwake103:KAwake103.Ok Tryz.prog:=CF.of2 noNG mixed (l:=[]) .nil 3000 (by kernel_rfl)
def KAwake104:CF:=⟨93,[.string ⟨⟨[108,97,107,101]⟩⟩],vT⟩
theorem kAwake104:KAwake104.Ok Tryz.prog:=CF.of2 noNG mixed (l:=[KAwake91,KAwake101,KAwake102,KAwake103]) (.cons kAwake91 (.cons kAwake101 (.cons kAwake102 (.cons kAwake103 .nil)))) 3000 (by kernel_rfl)
def KAwake105:CF:=⟨84,[.agg ⟨[vI 2500,vI 2600]⟩,vJ 99999999,vI 100000000],vT⟩
theorem kAwake105:KAwake105.Ok Tryz.prog:=CF.of2 noNG mixed (l:=[]) .nil 3000 (by kernel_rfl)
def KAwake106:CF:=⟨84,[.agg ⟨[vI 1500,vI 1600]⟩,vJ 99999999,vI 100000000],vT⟩
theorem kAwake106:KAwake106.Ok Tryz.prog:=CF.of2 noNG mixed (l:=[]) .nil 3000 (by kernel_rfl)
def KAwake107:CF:=⟨71,[.agg ⟨[vI 2500,vI 2600,vI 1500,vI 1600]⟩],vT⟩
theorem kAwake107:KAwake107.Ok Tryz.prog:=CF.of2 noNG mixed (l:=[KAwake105,KAwake106]) (.cons kAwake105 (.cons kAwake106 .nil)) 3000 (by kernel_rfl)
def KAwake108:CF:=⟨20,[vJ 0,vI 0,vI 100000],vF⟩
theorem kAwake108:KAwake108.Ok Tryz.prog:=CF.of2 noNG mixed (l:=[]) .nil 3000 (by kernel_rfl)
def KAwake109:CF:=⟨74,[vJ 0],vF⟩
theorem kAwake109:KAwake109.Ok Tryz.prog:=CF.of2 noNG mixed (l:=[KAwake108]) (.cons kAwake108 .nil) 3000 (by kernel_rfl)
def KAwake110:CF:=⟨73,[.agg ⟨[.string ⟨⟨[108,97,107,101]⟩⟩,vI 2500,vI 2600,vI 1500,vI 1600,vJ 0]⟩,lstV wAwake3 0 1 6],vI 0⟩
theorem kAwake110:KAwake110.Ok Tryz.prog:=CF.of2 noNG mixed (l:=[KAwake104,KAwake107,KAwake109]) (.cons kAwake104 (.cons kAwake107 (.cons kAwake109 .nil))) 3000 (by kernel_rfl)
def KAwake111:CF:=⟨43,[lstV wAwake3 0 2 6],.tuple ⟨[vI 0,vI 0]⟩⟩
theorem kAwake111:KAwake111.Ok Tryz.prog:=CF.of2 noNG mixed (l:=[KAwake100,KAwake110]) (.cons kAwake100 (.cons kAwake110 .nil)) 3000 (by kernel_rfl)
def KAwake112:CF:=⟨20,[vJ 1999,vJ 99999999,vI 100000000],vT⟩
theorem kAwake112:KAwake112.Ok Tryz.prog:=CF.of2 noNG mixed (l:=[]) .nil 3000 (by kernel_rfl)
def KAwake113:CF:=⟨55,[vJ 1999],vT⟩
theorem kAwake113:KAwake113.Ok Tryz.prog:=CF.of2 noNG mixed (l:=[KAwake112]) (.cons kAwake112 .nil) 3000 (by kernel_rfl)
def KAwake114:CF:=⟨22,[.agg ⟨[vJ 1999,vI 500]⟩],vT⟩
theorem kAwake114:KAwake114.Ok Tryz.prog:=CF.of2 noNG mixed (l:=[KAwake113,KAwake82]) (.cons kAwake113 (.cons kAwake82 .nil)) 3000 (by kernel_rfl)
def KAwake115:CF:=⟨20,[vI 0,vI 0,vI 100000],vT⟩
theorem kAwake115:KAwake115.Ok Tryz.prog:=CF.of2 noNG mixed (l:=[]) .nil 3000 (by kernel_rfl)
def KAwake116:CF:=⟨74,[vI 0],vT⟩
theorem kAwake116:KAwake116.Ok Tryz.prog:=CF.of2 noNG mixed (l:=[KAwake115]) (.cons kAwake115 .nil) 3000 (by kernel_rfl)
def KAwake117:CF:=⟨20,[vI 100,vI 1,vI 1000000],vT⟩
theorem kAwake117:KAwake117.Ok Tryz.prog:=CF.of2 noNG mixed (l:=[]) .nil 3000 (by kernel_rfl)
def KAwake118:CF:=⟨20,[vI 200,vI 1,vI 100000],vT⟩
theorem kAwake118:KAwake118.Ok Tryz.prog:=CF.of2 noNG mixed (l:=[]) .nil 3000 (by kernel_rfl)
def KAwake119:CF:=⟨20,[vI 10,vI 1,vI 6000],vT⟩
theorem kAwake119:KAwake119.Ok Tryz.prog:=CF.of2 noNG mixed (l:=[]) .nil 3000 (by kernel_rfl)
def KAwake120:CF:=⟨20,[vI 20,vI 0,vI 6000],vT⟩
theorem kAwake120:KAwake120.Ok Tryz.prog:=CF.of2 noNG mixed (l:=[]) .nil 3000 (by kernel_rfl)
def KAwake121:CF:=⟨44,[.agg wAwake4],vT⟩
theorem kAwake121:KAwake121.Ok Tryz.prog:=CF.of2 noNG mixed (l:=[KAwake114,KAwake116,KAwake117,KAwake118,KAwake119,KAwake120]) (.cons kAwake114 (.cons kAwake116 (.cons kAwake117 (.cons kAwake118 (.cons kAwake119 (.cons kAwake120 .nil)))))) 3000 (by kernel_rfl)
def KAwake122:CF:=⟨16,[.agg wAwake4],.tuple ⟨[vI 0,vI 0,vI 0]⟩⟩
theorem kAwake122:KAwake122.Ok Tryz.prog:=CF.of2 noNG mixed (l:=[KAwake89,KAwake121,KAwake78,KAwake111]) (.cons kAwake89 (.cons kAwake121 (.cons kAwake78 (.cons kAwake111 .nil)))) 3000 (by kernel_rfl)
def KAwake123:CF:=⟨46,[.agg ⟨[vI 0,vI 2999]⟩,vI 1000,vI 0],.agg ⟨[vI 0,vI 999]⟩⟩
theorem kAwake123:KAwake123.Ok Tryz.prog:=CF.of2 noNG mixed (l:=[]) .nil 3000 (by kernel_rfl)
def KAwake124:CF:=⟨46,[.agg ⟨[vI 0,vI 1999]⟩,vI 1000,vI 0],.agg ⟨[vI 0,vI 999]⟩⟩
theorem kAwake124:KAwake124.Ok Tryz.prog:=CF.of2 noNG mixed (l:=[]) .nil 3000 (by kernel_rfl)
def KAwake125:CF:=⟨96,[.agg ⟨[vJ 999,vI 500,vI 1,vI 0,vI 200]⟩],.agg wAwake8⟩
theorem kAwake125:KAwake125.Ok Tryz.prog:=CF.of2 noNG mixed (l:=[]) .nil 3000 (by kernel_rfl)
def KAwake126:CF:=⟨111,[.agg ⟨[vI 0,vI 999,vI 0,vI 999]⟩],.func (.func 114) ⟨[]⟩ ⟨[dptV ⟨[vI 0,vI 999,vI 0,vI 999]⟩ 0]⟩⟩
theorem kAwake126:KAwake126.Ok Tryz.prog:=CF.of2 noNG mixed (l:=[]) .nil 3000 (by kernel_rfl)
def KAwake127:CF:=⟨106,[.agg ⟨[vI 0,vI 0]⟩,dptV ⟨[vJ 999,vI 500,vI 1,vI 0,vI 200]⟩ 0],vI 1000⟩
theorem kAwake127:KAwake127.Ok Tryz.prog:=CF.of2 noNG mixed (l:=[]) .nil 3000 (by kernel_rfl)
def KAwake128:CF:=⟨108,[.agg ⟨[vI 0,vI 0]⟩,dptV wAwake5 0],vT⟩
theorem kAwake128:KAwake128.Ok Tryz.prog:=CF.of2 noNG mixed (l:=[KAwake127]) (.cons kAwake127 .nil) 3000 (by kernel_rfl)
def KAwake129:CF:=⟨97,[.agg ⟨[vI 0,vI 999,vI 0,vI 999]⟩,.func (.func 108) ⟨[]⟩ ⟨[dptV wAwake5 0]⟩],vT⟩
theorem kAwake129:KAwake129.Ok Tryz.prog:=CF.of2 noNG mixed (l:=[KAwake128,KAwake126]) (.cons kAwake128 (.cons kAwake126 .nil)) 3000 (by kernel_rfl)
def KAwake130:CF:=⟨107,[.agg ⟨[vI 0,vI 0]⟩,dptV ⟨[vJ 999,vI 500,vI 1,vI 0,vI 200]⟩ 0],vJ 499⟩
theorem kAwake130:KAwake130.Ok Tryz.prog:=CF.of2 noNG mixed (l:=[]) .nil 3000 (by kernel_rfl)
def KAwake131:CF:=⟨109,[.agg ⟨[vI 0,vI 0]⟩,dptV wAwake6 0,dptV ⟨[vJ 999,vI 500,vI 1,vI 0,vI 200]⟩ 0,dptV wAwake5 0],vT⟩
theorem kAwake131:KAwake131.Ok Tryz.prog:=CF.of2 noNG mixed (l:=[KAwake130,KAwake127]) (.cons kAwake130 (.cons kAwake127 .nil)) 3000 (by kernel_rfl)
def KAwake132:CF:=⟨97,[.agg ⟨[vI 0,vI 999,vI 0,vI 999]⟩,.func (.func 109) ⟨[]⟩ wAwake7],vT⟩
theorem kAwake132:KAwake132.Ok Tryz.prog:=CF.of2 noNG mixed (l:=[KAwake131,KAwake126]) (.cons kAwake131 (.cons kAwake126 .nil)) 3000 (by kernel_rfl)
def KAwake133:CF:=⟨110,[.agg ⟨[vI 0,vI 0]⟩,dptV wAwake6 0,dptV ⟨[vJ 999,vI 500,vI 1,vI 0,vI 200]⟩ 0,dptV wAwake5 0],vF⟩
theorem kAwake133:KAwake133.Ok Tryz.prog:=CF.of2 noNG mixed (l:=[KAwake130,KAwake127]) (.cons kAwake130 (.cons kAwake127 .nil)) 3000 (by kernel_rfl)
def KAwake134:CF:=⟨107,[.agg ⟨[vI 999,vI 0]⟩,dptV ⟨[vJ 999,vI 500,vI 1,vI 0,vI 200]⟩ 0],vJ 499⟩
theorem kAwake134:KAwake134.Ok Tryz.prog:=CF.of2 noNG mixed (l:=[]) .nil 3000 (by kernel_rfl)
def KAwake135:CF:=⟨106,[.agg ⟨[vI 999,vI 0]⟩,dptV ⟨[vJ 999,vI 500,vI 1,vI 0,vI 200]⟩ 0],vI 1999⟩
theorem kAwake135:KAwake135.Ok Tryz.prog:=CF.of2 noNG mixed (l:=[]) .nil 3000 (by kernel_rfl)
def KAwake136:CF:=⟨110,[.agg ⟨[vI 999,vI 0]⟩,dptV wAwake6 0,dptV ⟨[vJ 999,vI 500,vI 1,vI 0,vI 200]⟩ 0,dptV wAwake5 0],vF⟩
theorem kAwake136:KAwake136.Ok Tryz.prog:=CF.of2 noNG mixed (l:=[KAwake134,KAwake135]) (.cons kAwake134 (.cons kAwake135 .nil)) 3000 (by kernel_rfl)
def KAwake137:CF:=⟨107,[.agg ⟨[vI 0,vI 999]⟩,dptV ⟨[vJ 999,vI 500,vI 1,vI 0,vI 200]⟩ 0],vI 499⟩
theorem kAwake137:KAwake137.Ok Tryz.prog:=CF.of2 noNG mixed (l:=[]) .nil 3000 (by kernel_rfl)
def KAwake138:CF:=⟨106,[.agg ⟨[vI 0,vI 999]⟩,dptV ⟨[vJ 999,vI 500,vI 1,vI 0,vI 200]⟩ 0],vI 1000⟩
theorem kAwake138:KAwake138.Ok Tryz.prog:=CF.of2 noNG mixed (l:=[]) .nil 3000 (by kernel_rfl)
def KAwake139:CF:=⟨110,[.agg ⟨[vI 0,vI 999]⟩,dptV wAwake6 0,dptV ⟨[vJ 999,vI 500,vI 1,vI 0,vI 200]⟩ 0,dptV wAwake5 0],vT⟩
theorem kAwake139:KAwake139.Ok Tryz.prog:=CF.of2 noNG mixed (l:=[KAwake137,KAwake138]) (.cons kAwake137 (.cons kAwake138 .nil)) 3000 (by kernel_rfl)
def KAwake140:CF:=⟨97,[.agg ⟨[vI 0,vI 999,vI 0,vI 999]⟩,.func (.func 110) ⟨[]⟩ wAwake7],vT⟩
theorem kAwake140:KAwake140.Ok Tryz.prog:=CF.of2 noNG mixed (l:=[KAwake136,KAwake139,KAwake133,KAwake126]) (.cons kAwake136 (.cons kAwake139 (.cons kAwake133 (.cons kAwake126 .nil)))) 3000 (by kernel_rfl)
def KAwake141:CF:=⟨75,[.agg ⟨[vJ 999,vI 500,vI 1,vI 0,vI 200]⟩,.agg ⟨[vI 0,vI 999,vI 0,vI 999]⟩],vF⟩
theorem kAwake141:KAwake141.Ok Tryz.prog:=CF.of2 noNG mixed (l:=[KAwake129,KAwake132,KAwake125,KAwake140]) (.cons kAwake129 (.cons kAwake132 (.cons kAwake125 (.cons kAwake140 .nil)))) 3000 (by kernel_rfl)
def KAwake142:CF:=⟨47,[.agg wAwake4,.agg ⟨[vI 0,vI 999,vI 0,vI 999]⟩],vF⟩
theorem kAwake142:KAwake142.Ok Tryz.prog:=CF.of2 noNG mixed (l:=[KAwake141]) (.cons kAwake141 .nil) 3000 (by kernel_rfl)
def KAwake143:CF:=⟨98,[.agg ⟨[vI 2000,vI 5000]⟩,.agg ⟨[vI 0,vI 999]⟩],vF⟩
theorem kAwake143:KAwake143.Ok Tryz.prog:=CF.of2 noNG mixed (l:=[]) .nil 3000 (by kernel_rfl)
def KAwake144:CF:=⟨76,[.agg ⟨[vI 2000,vI 5000,vI 0,vI 999]⟩,.agg ⟨[vI 0,vI 999,vI 0,vI 999]⟩],vF⟩
theorem kAwake144:KAwake144.Ok Tryz.prog:=CF.of2 noNG mixed (l:=[KAwake143]) (.cons kAwake143 .nil) 3000 (by kernel_rfl)
def KAwake145:CF:=⟨98,[.agg ⟨[vI 2500,vI 2600]⟩,.agg ⟨[vI 0,vI 999]⟩],vF⟩
theorem kAwake145:KAwake145.Ok Tryz.prog:=CF.of2 noNG mixed (l:=[]) .nil 3000 (by kernel_rfl)
def KAwake146:CF:=⟨76,[.agg ⟨[vI 2500,vI 2600,vI 1500,vI 1600]⟩,.agg ⟨[vI 0,vI 999,vI 0,vI 999]⟩],vF⟩
theorem kAwake146:KAwake146.Ok Tryz.prog:=CF.of2 noNG mixed (l:=[KAwake145]) (.cons kAwake145 .nil) 3000 (by kernel_rfl)
def KAwake147:CF:=⟨48,[.agg wAwake4,.agg ⟨[vI 0,vI 999,vI 0,vI 999]⟩],vI 0⟩
theorem kAwake147:KAwake147.Ok Tryz.prog:=CF.of2 noNG mixed (l:=[KAwake144,KAwake146]) (.cons kAwake144 (.cons kAwake146 .nil)) 3000 (by kernel_rfl)
def KAwake148:CF:=⟨46,[.agg ⟨[vI 0,vI 2999]⟩,vI 1000,vI 1],.agg ⟨[vI 1000,vI 1999]⟩⟩
theorem kAwake148:KAwake148.Ok Tryz.prog:=CF.of2 noNG mixed (l:=[]) .nil 3000 (by kernel_rfl)
def KAwake149:CF:=⟨111,[.agg ⟨[vI 1000,vI 1999,vI 0,vI 999]⟩],.func (.func 114) ⟨[]⟩ ⟨[dptV ⟨[vI 1000,vI 1999,vI 0,vI 999]⟩ 0]⟩⟩
theorem kAwake149:KAwake149.Ok Tryz.prog:=CF.of2 noNG mixed (l:=[]) .nil 3000 (by kernel_rfl)
def KAwake150:CF:=⟨106,[.agg ⟨[vI 1000,vI 0]⟩,dptV ⟨[vJ 999,vI 500,vI 1,vI 0,vI 200]⟩ 0],vI 2000⟩
theorem kAwake150:KAwake150.Ok Tryz.prog:=CF.of2 noNG mixed (l:=[]) .nil 3000 (by kernel_rfl)
def KAwake151:CF:=⟨108,[.agg ⟨[vI 1000,vI 0]⟩,dptV wAwake5 0],vT⟩
theorem kAwake151:KAwake151.Ok Tryz.prog:=CF.of2 noNG mixed (l:=[KAwake150]) (.cons kAwake150 .nil) 3000 (by kernel_rfl)
def KAwake152:CF:=⟨97,[.agg ⟨[vI 1000,vI 1999,vI 0,vI 999]⟩,.func (.func 108) ⟨[]⟩ ⟨[dptV wAwake5 0]⟩],vT⟩
theorem kAwake152:KAwake152.Ok Tryz.prog:=CF.of2 noNG mixed (l:=[KAwake149,KAwake151]) (.cons kAwake149 (.cons kAwake151 .nil)) 3000 (by kernel_rfl)
def KAwake153:CF:=⟨107,[.agg ⟨[vI 1000,vI 0]⟩,dptV ⟨[vJ 999,vI 500,vI 1,vI 0,vI 200]⟩ 0],vJ 499⟩
theorem kAwake153:KAwake153.Ok Tryz.prog:=CF.of2 noNG mixed (l:=[]) .nil 3000 (by kernel_rfl)
def KAwake154:CF:=⟨109,[.agg ⟨[vI 1000,vI 0]⟩,dptV wAwake6 0,dptV ⟨[vJ 999,vI 500,vI 1,vI 0,vI 200]⟩ 0,dptV wAwake5 0],vT⟩
theorem kAwake154:KAwake154.Ok Tryz.prog:=CF.of2 noNG mixed (l:=[KAwake153,KAwake150]) (.cons kAwake153 (.cons kAwake150 .nil)) 3000 (by kernel_rfl)
def KAwake155:CF:=⟨97,[.agg ⟨[vI 1000,vI 1999,vI 0,vI 999]⟩,.func (.func 109) ⟨[]⟩ wAwake7],vT⟩
theorem kAwake155:KAwake155.Ok Tryz.prog:=CF.of2 noNG mixed (l:=[KAwake154,KAwake149]) (.cons kAwake154 (.cons kAwake149 .nil)) 3000 (by kernel_rfl)
def KAwake156:CF:=⟨110,[.agg ⟨[vI 1000,vI 0]⟩,dptV wAwake6 0,dptV ⟨[vJ 999,vI 500,vI 1,vI 0,vI 200]⟩ 0,dptV wAwake5 0],vF⟩
theorem kAwake156:KAwake156.Ok Tryz.prog:=CF.of2 noNG mixed (l:=[KAwake153,KAwake150]) (.cons kAwake153 (.cons kAwake150 .nil)) 3000 (by kernel_rfl)
def KAwake157:CF:=⟨107,[.agg ⟨[vI 1999,vI 0]⟩,dptV ⟨[vJ 999,vI 500,vI 1,vI 0,vI 200]⟩ 0],vJ 499⟩
theorem kAwake157:KAwake157.Ok Tryz.prog:=CF.of2 noNG mixed (l:=[]) .nil 3000 (by kernel_rfl)
def KAwake158:CF:=⟨106,[.agg ⟨[vI 1999,vI 0]⟩,dptV ⟨[vJ 999,vI 500,vI 1,vI 0,vI 200]⟩ 0],vI 2999⟩
theorem kAwake158:KAwake158.Ok Tryz.prog:=CF.of2 noNG mixed (l:=[]) .nil 3000 (by kernel_rfl)
def KAwake159:CF:=⟨110,[.agg ⟨[vI 1999,vI 0]⟩,dptV wAwake6 0,dptV ⟨[vJ 999,vI 500,vI 1,vI 0,vI 200]⟩ 0,dptV wAwake5 0],vT⟩
theorem kAwake159:KAwake159.Ok Tryz.prog:=CF.of2 noNG mixed (l:=[KAwake157,KAwake158]) (.cons kAwake157 (.cons kAwake158 .nil)) 3000 (by kernel_rfl)
def KAwake160:CF:=⟨97,[.agg ⟨[vI 1000,vI 1999,vI 0,vI 999]⟩,.func (.func 110) ⟨[]⟩ wAwake7],vT⟩
theorem kAwake160:KAwake160.Ok Tryz.prog:=CF.of2 noNG mixed (l:=[KAwake156,KAwake149,KAwake159]) (.cons kAwake156 (.cons kAwake149 (.cons kAwake159 .nil))) 3000 (by kernel_rfl)
def KAwake161:CF:=⟨75,[.agg ⟨[vJ 999,vI 500,vI 1,vI 0,vI 200]⟩,.agg ⟨[vI 1000,vI 1999,vI 0,vI 999]⟩],vF⟩
theorem kAwake161:KAwake161.Ok Tryz.prog:=CF.of2 noNG mixed (l:=[KAwake152,KAwake155,KAwake125,KAwake160]) (.cons kAwake152 (.cons kAwake155 (.cons kAwake125 (.cons kAwake160 .nil)))) 3000 (by kernel_rfl)
def KAwake162:CF:=⟨47,[.agg wAwake4,.agg ⟨[vI 1000,vI 1999,vI 0,vI 999]⟩],vF⟩
theorem kAwake162:KAwake162.Ok Tryz.prog:=CF.of2 noNG mixed (l:=[KAwake161]) (.cons kAwake161 .nil) 3000 (by kernel_rfl)
def KAwake163:CF:=⟨98,[.agg ⟨[vI 2000,vI 5000]⟩,.agg ⟨[vI 1000,vI 1999]⟩],vF⟩
theorem kAwake163:KAwake163.Ok Tryz.prog:=CF.of2 noNG mixed (l:=[]) .nil 3000 (by kernel_rfl)
def KAwake164:CF:=⟨76,[.agg ⟨[vI 2000,vI 5000,vI 0,vI 999]⟩,.agg ⟨[vI 1000,vI 1999,vI 0,vI 999]⟩],vF⟩
theorem kAwake164:KAwake164.Ok Tryz.prog:=CF.of2 noNG mixed (l:=[KAwake163]) (.cons kAwake163 .nil) 3000 (by kernel_rfl)
def KAwake165:CF:=⟨98,[.agg ⟨[vI 2500,vI 2600]⟩,.agg ⟨[vI 1000,vI 1999]⟩],vF⟩
theorem kAwake165:KAwake165.Ok Tryz.prog:=CF.of2 noNG mixed (l:=[]) .nil 3000 (by kernel_rfl)
def KAwake166:CF:=⟨76,[.agg ⟨[vI 2500,vI 2600,vI 1500,vI 1600]⟩,.agg ⟨[vI 1000,vI 1999,vI 0,vI 999]⟩],vF⟩
theorem kAwake166:KAwake166.Ok Tryz.prog:=CF.of2 noNG mixed (l:=[KAwake165]) (.cons kAwake165 .nil) 3000 (by kernel_rfl)
def KAwake167:CF:=⟨48,[.agg wAwake4,.agg ⟨[vI 1000,vI 1999,vI 0,vI 999]⟩],vI 0⟩
theorem kAwake167:KAwake167.Ok Tryz.prog:=CF.of2 noNG mixed (l:=[KAwake164,KAwake166]) (.cons kAwake164 (.cons kAwake166 .nil)) 3000 (by kernel_rfl)
def KAwake168:CF:=⟨46,[.agg ⟨[vI 0,vI 2999]⟩,vI 1000,vI 2],.agg ⟨[vI 2000,vI 2999]⟩⟩
theorem kAwake168:KAwake168.Ok Tryz.prog:=CF.of2 noNG mixed (l:=[]) .nil 3000 (by kernel_rfl)
def KAwake169:CF:=⟨111,[.agg ⟨[vI 2000,vI 2999,vI 0,vI 999]⟩],.func (.func 114) ⟨[]⟩ ⟨[dptV ⟨[vI 2000,vI 2999,vI 0,vI 999]⟩ 0]⟩⟩
theorem kAwake169:KAwake169.Ok Tryz.prog:=CF.of2 noNG mixed (l:=[]) .nil 3000 (by kernel_rfl)
def KAwake170:CF:=⟨106,[.agg ⟨[vI 2000,vI 0]⟩,dptV ⟨[vJ 999,vI 500,vI 1,vI 0,vI 200]⟩ 0],vI 3000⟩
theorem kAwake170:KAwake170.Ok Tryz.prog:=CF.of2 noNG mixed (l:=[]) .nil 3000 (by kernel_rfl)
def KAwake171:CF:=⟨108,[.agg ⟨[vI 2000,vI 0]⟩,dptV wAwake5 0],vT⟩
theorem kAwake171:KAwake171.Ok Tryz.prog:=CF.of2 noNG mixed (l:=[KAwake170]) (.cons kAwake170 .nil) 3000 (by kernel_rfl)
def KAwake172:CF:=⟨97,[.agg ⟨[vI 2000,vI 2999,vI 0,vI 999]⟩,.func (.func 108) ⟨[]⟩ ⟨[dptV wAwake5 0]⟩],vT⟩
theorem kAwake172:KAwake172.Ok Tryz.prog:=CF.of2 noNG mixed (l:=[KAwake169,KAwake171]) (.cons kAwake169 (.cons kAwake171 .nil)) 3000 (by kernel_rfl)
def KAwake173:CF:=⟨107,[.agg ⟨[vI 2000,vI 0]⟩,dptV ⟨[vJ 999,vI 500,vI 1,vI 0,vI 200]⟩ 0],vJ 499⟩
theorem kAwake173:KAwake173.Ok Tryz.prog:=CF.of2 noNG mixed (l:=[]) .nil 3000 (by kernel_rfl)
def KAwake174:CF:=⟨109,[.agg ⟨[vI 2000,vI 0]⟩,dptV wAwake6 0,dptV ⟨[vJ 999,vI 500,vI 1,vI 0,vI 200]⟩ 0,dptV wAwake5 0],vT⟩
theorem kAwake174:KAwake174.Ok Tryz.prog:=CF.of2 noNG mixed (l:=[KAwake170,KAwake173]) (.cons kAwake170 (.cons kAwake173 .nil)) 3000 (by kernel_rfl)
def KAwake175:CF:=⟨97,[.agg ⟨[vI 2000,vI 2999,vI 0,vI 999]⟩,.func (.func 109) ⟨[]⟩ wAwake7],vT⟩
theorem kAwake175:KAwake175.Ok Tryz.prog:=CF.of2 noNG mixed (l:=[KAwake169,KAwake174]) (.cons kAwake169 (.cons kAwake174 .nil)) 3000 (by kernel_rfl)
def KAwake176:CF:=⟨110,[.agg ⟨[vI 2000,vI 0]⟩,dptV wAwake6 0,dptV ⟨[vJ 999,vI 500,vI 1,vI 0,vI 200]⟩ 0,dptV wAwake5 0],vT⟩
theorem kAwake176:KAwake176.Ok Tryz.prog:=CF.of2 noNG mixed (l:=[KAwake170,KAwake173]) (.cons kAwake170 (.cons kAwake173 .nil)) 3000 (by kernel_rfl)
def KAwake177:CF:=⟨97,[.agg ⟨[vI 2000,vI 2999,vI 0,vI 999]⟩,.func (.func 110) ⟨[]⟩ wAwake7],vT⟩
theorem kAwake177:KAwake177.Ok Tryz.prog:=CF.of2 noNG mixed (l:=[KAwake176,KAwake169]) (.cons kAwake176 (.cons kAwake169 .nil)) 3000 (by kernel_rfl)
def KAwake178:CF:=⟨75,[.agg ⟨[vJ 999,vI 500,vI 1,vI 0,vI 200]⟩,.agg ⟨[vI 2000,vI 2999,vI 0,vI 999]⟩],vF⟩
theorem kAwake178:KAwake178.Ok Tryz.prog:=CF.of2 noNG mixed (l:=[KAwake177,KAwake172,KAwake125,KAwake175]) (.cons kAwake177 (.cons kAwake172 (.cons kAwake125 (.cons kAwake175 .nil)))) 3000 (by kernel_rfl)
def KAwake179:CF:=⟨47,[.agg wAwake4,.agg ⟨[vI 2000,vI 2999,vI 0,vI 999]⟩],vF⟩
theorem kAwake179:KAwake179.Ok Tryz.prog:=CF.of2 noNG mixed (l:=[KAwake178]) (.cons kAwake178 .nil) 3000 (by kernel_rfl)
def KAwake180:CF:=⟨98,[.agg ⟨[vI 2000,vI 5000]⟩,.agg ⟨[vI 2000,vI 2999]⟩],vT⟩
theorem kAwake180:KAwake180.Ok Tryz.prog:=CF.of2 noNG mixed (l:=[]) .nil 3000 (by kernel_rfl)
def KAwake181:CF:=⟨98,[.agg ⟨[vI 0,vI 999]⟩,.agg ⟨[vI 0,vI 999]⟩],vT⟩
theorem kAwake181:KAwake181.Ok Tryz.prog:=CF.of2 noNG mixed (l:=[]) .nil 3000 (by kernel_rfl)
def KAwake182:CF:=⟨76,[.agg ⟨[vI 2000,vI 5000,vI 0,vI 999]⟩,.agg ⟨[vI 2000,vI 2999,vI 0,vI 999]⟩],vT⟩
theorem kAwake182:KAwake182.Ok Tryz.prog:=CF.of2 noNG mixed (l:=[KAwake180,KAwake181]) (.cons kAwake180 (.cons kAwake181 .nil)) 3000 (by kernel_rfl)
def KAwake183:CF:=⟨98,[.agg ⟨[vI 2500,vI 2600]⟩,.agg ⟨[vI 2000,vI 2999]⟩],vT⟩
theorem kAwake183:KAwake183.Ok Tryz.prog:=CF.of2 noNG mixed (l:=[]) .nil 3000 (by kernel_rfl)
def KAwake184:CF:=⟨98,[.agg ⟨[vI 1500,vI 1600]⟩,.agg ⟨[vI 0,vI 999]⟩],vF⟩
theorem kAwake184:KAwake184.Ok Tryz.prog:=CF.of2 noNG mixed (l:=[]) .nil 3000 (by kernel_rfl)
def KAwake185:CF:=⟨76,[.agg ⟨[vI 2500,vI 2600,vI 1500,vI 1600]⟩,.agg ⟨[vI 2000,vI 2999,vI 0,vI 999]⟩],vF⟩
theorem kAwake185:KAwake185.Ok Tryz.prog:=CF.of2 noNG mixed (l:=[KAwake184,KAwake183]) (.cons kAwake184 (.cons kAwake183 .nil)) 3000 (by kernel_rfl)
def KAwake186:CF:=⟨48,[.agg wAwake4,.agg ⟨[vI 2000,vI 2999,vI 0,vI 999]⟩],vI 100⟩
theorem kAwake186:KAwake186.Ok Tryz.prog:=CF.of2 noNG mixed (l:=[KAwake185,KAwake182]) (.cons kAwake185 (.cons kAwake182 .nil)) 3000 (by kernel_rfl)
def KAwake187:CF:=⟨46,[.agg ⟨[vI 0,vI 1999]⟩,vI 1000,vI 1],.agg ⟨[vI 1000,vI 1999]⟩⟩
theorem kAwake187:KAwake187.Ok Tryz.prog:=CF.of2 noNG mixed (l:=[]) .nil 3000 (by kernel_rfl)
def KAwake188:CF:=⟨111,[.agg ⟨[vI 0,vI 999,vI 1000,vI 1999]⟩],.func (.func 114) ⟨[]⟩ ⟨[dptV ⟨[vI 0,vI 999,vI 1000,vI 1999]⟩ 0]⟩⟩
theorem kAwake188:KAwake188.Ok Tryz.prog:=CF.of2 noNG mixed (l:=[]) .nil 3000 (by kernel_rfl)
def KAwake189:CF:=⟨106,[.agg ⟨[vI 0,vI 1000]⟩,dptV ⟨[vJ 999,vI 500,vI 1,vI 0,vI 200]⟩ 0],vI 1000⟩
theorem kAwake189:KAwake189.Ok Tryz.prog:=CF.of2 noNG mixed (l:=[]) .nil 3000 (by kernel_rfl)
def KAwake190:CF:=⟨108,[.agg ⟨[vI 0,vI 1000]⟩,dptV wAwake5 0],vT⟩
theorem kAwake190:KAwake190.Ok Tryz.prog:=CF.of2 noNG mixed (l:=[KAwake189]) (.cons kAwake189 .nil) 3000 (by kernel_rfl)
def KAwake191:CF:=⟨97,[.agg ⟨[vI 0,vI 999,vI 1000,vI 1999]⟩,.func (.func 108) ⟨[]⟩ ⟨[dptV wAwake5 0]⟩],vT⟩
theorem kAwake191:KAwake191.Ok Tryz.prog:=CF.of2 noNG mixed (l:=[KAwake188,KAwake190]) (.cons kAwake188 (.cons kAwake190 .nil)) 3000 (by kernel_rfl)
def KAwake192:CF:=⟨107,[.agg ⟨[vI 0,vI 1000]⟩,dptV ⟨[vJ 999,vI 500,vI 1,vI 0,vI 200]⟩ 0],vI 500⟩
theorem kAwake192:KAwake192.Ok Tryz.prog:=CF.of2 noNG mixed (l:=[]) .nil 3000 (by kernel_rfl)
def KAwake193:CF:=⟨109,[.agg ⟨[vI 0,vI 1000]⟩,dptV wAwake6 0,dptV ⟨[vJ 999,vI 500,vI 1,vI 0,vI 200]⟩ 0,dptV wAwake5 0],vF⟩
theorem kAwake193:KAwake193.Ok Tryz.prog:=CF.of2 noNG mixed (l:=[KAwake192,KAwake189]) (.cons kAwake192 (.cons kAwake189 .nil)) 3000 (by kernel_rfl)
def KAwake194:CF:=⟨107,[.agg ⟨[vI 999,vI 1000]⟩,dptV ⟨[vJ 999,vI 500,vI 1,vI 0,vI 200]⟩ 0],vI 500⟩
theorem kAwake194:KAwake194.Ok Tryz.prog:=CF.of2 noNG mixed (l:=[]) .nil 3000 (by kernel_rfl)
def KAwake195:CF:=⟨106,[.agg ⟨[vI 999,vI 1000]⟩,dptV ⟨[vJ 999,vI 500,vI 1,vI 0,vI 200]⟩ 0],vI 1999⟩
theorem kAwake195:KAwake195.Ok Tryz.prog:=CF.of2 noNG mixed (l:=[]) .nil 3000 (by kernel_rfl)
def KAwake196:CF:=⟨109,[.agg ⟨[vI 999,vI 1000]⟩,dptV wAwake6 0,dptV ⟨[vJ 999,vI 500,vI 1,vI 0,vI 200]⟩ 0,dptV wAwake5 0],vF⟩
theorem kAwake196:KAwake196.Ok Tryz.prog:=CF.of2 noNG mixed (l:=[KAwake194,KAwake195]) (.cons kAwake194 (.cons kAwake195 .nil)) 3000 (by kernel_rfl)
def KAwake197:CF:=⟨107,[.agg ⟨[vI 0,vI 1999]⟩,dptV ⟨[vJ 999,vI 500,vI 1,vI 0,vI 200]⟩ 0],vI 1499⟩
theorem kAwake197:KAwake197.Ok Tryz.prog:=CF.of2 noNG mixed (l:=[]) .nil 3000 (by kernel_rfl)
def KAwake198:CF:=⟨106,[.agg ⟨[vI 0,vI 1999]⟩,dptV ⟨[vJ 999,vI 500,vI 1,vI 0,vI 200]⟩ 0],vI 1000⟩
theorem kAwake198:KAwake198.Ok Tryz.prog:=CF.of2 noNG mixed (l:=[]) .nil 3000 (by kernel_rfl)
def KAwake199:CF:=⟨109,[.agg ⟨[vI 0,vI 1999]⟩,dptV wAwake6 0,dptV ⟨[vJ 999,vI 500,vI 1,vI 0,vI 200]⟩ 0,dptV wAwake5 0],vF⟩
theorem kAwake199:KAwake199.Ok Tryz.prog:=CF.of2 noNG mixed (l:=[KAwake197,KAwake198]) (.cons kAwake197 (.cons kAwake198 .nil)) 3000 (by kernel_rfl)
def KAwake200:CF:=⟨107,[.agg ⟨[vI 999,vI 1999]⟩,dptV ⟨[vJ 999,vI 500,vI 1,vI 0,vI 200]⟩ 0],vI 1499⟩
theorem kAwake200:KAwake200.Ok Tryz.prog:=CF.of2 noNG mixed (l:=[]) .nil 3000 (by kernel_rfl)
def KAwake201:CF:=⟨106,[.agg ⟨[vI 999,vI 1999]⟩,dptV ⟨[vJ 999,vI 500,vI 1,vI 0,vI 200]⟩ 0],vI 1999⟩
theorem kAwake201:KAwake201.Ok Tryz.prog:=CF.of2 noNG mixed (l:=[]) .nil 3000 (by kernel_rfl)
def KAwake202:CF:=⟨109,[.agg ⟨[vI 999,vI 1999]⟩,dptV wAwake6 0,dptV ⟨[vJ 999,vI 500,vI 1,vI 0,vI 200]⟩ 0,dptV wAwake5 0],vF⟩
theorem kAwake202:KAwake202.Ok Tryz.prog:=CF.of2 noNG mixed (l:=[KAwake200,KAwake201]) (.cons kAwake200 (.cons kAwake201 .nil)) 3000 (by kernel_rfl)
def KAwake203:CF:=⟨97,[.agg ⟨[vI 0,vI 999,vI 1000,vI 1999]⟩,.func (.func 109) ⟨[]⟩ wAwake7],vF⟩
theorem kAwake203:KAwake203.Ok Tryz.prog:=CF.of2 noNG mixed (l:=[KAwake193,KAwake196,KAwake199,KAwake202,KAwake188]) (.cons kAwake193 (.cons kAwake196 (.cons kAwake199 (.cons kAwake202 (.cons kAwake188 .nil))))) 3000 (by kernel_rfl)
def KAwake204:CF:=⟨75,[.agg ⟨[vJ 999,vI 500,vI 1,vI 0,vI 200]⟩,.agg ⟨[vI 0,vI 999,vI 1000,vI 1999]⟩],vT⟩
theorem kAwake204:KAwake204.Ok Tryz.prog:=CF.of2 noNG mixed (l:=[KAwake203,KAwake125,KAwake191]) (.cons kAwake203 (.cons kAwake125 (.cons kAwake191 .nil))) 3000 (by kernel_rfl)
def KAwake205:CF:=⟨47,[.agg wAwake4,.agg ⟨[vI 0,vI 999,vI 1000,vI 1999]⟩],vT⟩
theorem kAwake205:KAwake205.Ok Tryz.prog:=CF.of2 noNG mixed (l:=[KAwake204]) (.cons kAwake204 .nil) 3000 (by kernel_rfl)
def KAwake206:CF:=⟨111,[.agg ⟨[vI 1000,vI 1999,vI 1000,vI 1999]⟩],.func (.func 114) ⟨[]⟩ ⟨[dptV ⟨[vI 1000,vI 1999,vI 1000,vI 1999]⟩ 0]⟩⟩
theorem kAwake206:KAwake206.Ok Tryz.prog:=CF.of2 noNG mixed (l:=[]) .nil 3000 (by kernel_rfl)
def KAwake207:CF:=⟨106,[.agg ⟨[vI 1000,vI 1000]⟩,dptV ⟨[vJ 999,vI 500,vI 1,vI 0,vI 200]⟩ 0],vI 2000⟩
theorem kAwake207:KAwake207.Ok Tryz.prog:=CF.of2 noNG mixed (l:=[]) .nil 3000 (by kernel_rfl)
def KAwake208:CF:=⟨108,[.agg ⟨[vI 1000,vI 1000]⟩,dptV wAwake5 0],vT⟩
theorem kAwake208:KAwake208.Ok Tryz.prog:=CF.of2 noNG mixed (l:=[KAwake207]) (.cons kAwake207 .nil) 3000 (by kernel_rfl)
def KAwake209:CF:=⟨97,[.agg ⟨[vI 1000,vI 1999,vI 1000,vI 1999]⟩,.func (.func 108) ⟨[]⟩ ⟨[dptV wAwake5 0]⟩],vT⟩
theorem kAwake209:KAwake209.Ok Tryz.prog:=CF.of2 noNG mixed (l:=[KAwake208,KAwake206]) (.cons kAwake208 (.cons kAwake206 .nil)) 3000 (by kernel_rfl)
def KAwake210:CF:=⟨107,[.agg ⟨[vI 1000,vI 1000]⟩,dptV ⟨[vJ 999,vI 500,vI 1,vI 0,vI 200]⟩ 0],vI 500⟩
theorem kAwake210:KAwake210.Ok Tryz.prog:=CF.of2 noNG mixed (l:=[]) .nil 3000 (by kernel_rfl)
def KAwake211:CF:=⟨109,[.agg ⟨[vI 1000,vI 1000]⟩,dptV wAwake6 0,dptV ⟨[vJ 999,vI 500,vI 1,vI 0,vI 200]⟩ 0,dptV wAwake5 0],vF⟩
theorem kAwake211:KAwake211.Ok Tryz.prog:=CF.of2 noNG mixed (l:=[KAwake210,KAwake207]) (.cons kAwake210 (.cons kAwake207 .nil)) 3000 (by kernel_rfl)
def KAwake212:CF:=⟨107,[.agg ⟨[vI 1999,vI 1000]⟩,dptV ⟨[vJ 999,vI 500,vI 1,vI 0,vI 200]⟩ 0],vI 500⟩
theorem kAwake212:KAwake212.Ok Tryz.prog:=CF.of2 noNG mixed (l:=[]) .nil 3000 (by kernel_rfl)
def KAwake213:CF:=⟨106,[.agg ⟨[vI 1999,vI 1000]⟩,dptV ⟨[vJ 999,vI 500,vI 1,vI 0,vI 200]⟩ 0],vI 2999⟩
theorem kAwake213:KAwake213.Ok Tryz.prog:=CF.of2 noNG mixed (l:=[]) .nil 3000 (by kernel_rfl)
def KAwake214:CF:=⟨109,[.agg ⟨[vI 1999,vI 1000]⟩,dptV wAwake6 0,dptV ⟨[vJ 999,vI 500,vI 1,vI 0,vI 200]⟩ 0,dptV wAwake5 0],vT⟩
theorem kAwake214:KAwake214.Ok Tryz.prog:=CF.of2 noNG mixed (l:=[KAwake212,KAwake213]) (.cons kAwake212 (.cons kAwake213 .nil)) 3000 (by kernel_rfl)
def KAwake215:CF:=⟨97,[.agg ⟨[vI 1000,vI 1999,vI 1000,vI 1999]⟩,.func (.func 109) ⟨[]⟩ wAwake7],vT⟩
theorem kAwake215:KAwake215.Ok Tryz.prog:=CF.of2 noNG mixed (l:=[KAwake211,KAwake214,KAwake206]) (.cons kAwake211 (.cons kAwake214 (.cons kAwake206 .nil))) 3000 (by kernel_rfl)
def KAwake216:CF:=⟨110,[.agg ⟨[vI 1000,vI 1000]⟩,dptV wAwake6 0,dptV ⟨[vJ 999,vI 500,vI 1,vI 0,vI 200]⟩ 0,dptV wAwake5 0],vT⟩
theorem kAwake216:KAwake216.Ok Tryz.prog:=CF.of2 noNG mixed (l:=[KAwake210,KAwake207]) (.cons kAwake210 (.cons kAwake207 .nil)) 3000 (by kernel_rfl)
def KAwake217:CF:=⟨97,[.agg ⟨[vI 1000,vI 1999,vI 1000,vI 1999]⟩,.func (.func 110) ⟨[]⟩ wAwake7],vT⟩
theorem kAwake217:KAwake217.Ok Tryz.prog:=CF.of2 noNG mixed (l:=[KAwake216,KAwake206]) (.cons kAwake216 (.cons kAwake206 .nil)) 3000 (by kernel_rfl)
def KAwake218:CF:=⟨75,[.agg ⟨[vJ 999,vI 500,vI 1,vI 0,vI 200]⟩,.agg ⟨[vI 1000,vI 1999,vI 1000,vI 1999]⟩],vF⟩
theorem kAwake218:KAwake218.Ok Tryz.prog:=CF.of2 noNG mixed (l:=[KAwake209,KAwake217,KAwake125,KAwake215]) (.cons kAwake209 (.cons kAwake217 (.cons kAwake125 (.cons kAwake215 .nil)))) 3000 (by kernel_rfl)
def KAwake219:CF:=⟨47,[.agg wAwake4,.agg ⟨[vI 1000,vI 1999,vI 1000,vI 1999]⟩],vF⟩
theorem kAwake219:KAwake219.Ok Tryz.prog:=CF.of2 noNG mixed (l:=[KAwake218]) (.cons kAwake218 .nil) 3000 (by kernel_rfl)
def KAwake220:CF:=⟨76,[.agg ⟨[vI 2000,vI 5000,vI 0,vI 999]⟩,.agg ⟨[vI 1000,vI 1999,vI 1000,vI 1999]⟩],vF⟩
theorem kAwake220:KAwake220.Ok Tryz.prog:=CF.of2 noNG mixed (l:=[KAwake163]) (.cons kAwake163 .nil) 3000 (by kernel_rfl)
def KAwake221:CF:=⟨76,[.agg ⟨[vI 2500,vI 2600,vI 1500,vI 1600]⟩,.agg ⟨[vI 1000,vI 1999,vI 1000,vI 1999]⟩],vF⟩
theorem kAwake221:KAwake221.Ok Tryz.prog:=CF.of2 noNG mixed (l:=[KAwake165]) (.cons kAwake165 .nil) 3000 (by kernel_rfl)
def KAwake222:CF:=⟨48,[.agg wAwake4,.agg ⟨[vI 1000,vI 1999,vI 1000,vI 1999]⟩],vI 0⟩
theorem kAwake222:KAwake222.Ok Tryz.prog:=CF.of2 noNG mixed (l:=[KAwake220,KAwake221]) (.cons kAwake220 (.cons kAwake221 .nil)) 3000 (by kernel_rfl)
def KAwake223:CF:=⟨111,[.agg ⟨[vI 2000,vI 2999,vI 1000,vI 1999]⟩],.func (.func 114) ⟨[]⟩ ⟨[dptV ⟨[vI 2000,vI 2999,vI 1000,vI 1999]⟩ 0]⟩⟩
theorem kAwake223:KAwake223.Ok Tryz.prog:=CF.of2 noNG mixed (l:=[]) .nil 3000 (by kernel_rfl)
def KAwake224:CF:=⟨106,[.agg ⟨[vI 2000,vI 1000]⟩,dptV ⟨[vJ 999,vI 500,vI 1,vI 0,vI 200]⟩ 0],vI 3000⟩
theorem kAwake224:KAwake224.Ok Tryz.prog:=CF.of2 noNG mixed (l:=[]) .nil 3000 (by kernel_rfl)
def KAwake225:CF:=⟨108,[.agg ⟨[vI 2000,vI 1000]⟩,dptV wAwake5 0],vT⟩
theorem kAwake225:KAwake225.Ok Tryz.prog:=CF.of2 noNG mixed (l:=[KAwake224]) (.cons kAwake224 .nil) 3000 (by kernel_rfl)
def KAwake226:CF:=⟨97,[.agg ⟨[vI 2000,vI 2999,vI 1000,vI 1999]⟩,.func (.func 108) ⟨[]⟩ ⟨[dptV wAwake5 0]⟩],vT⟩
theorem kAwake226:KAwake226.Ok Tryz.prog:=CF.of2 noNG mixed (l:=[KAwake225,KAwake223]) (.cons kAwake225 (.cons kAwake223 .nil)) 3000 (by kernel_rfl)
def KAwake227:CF:=⟨107,[.agg ⟨[vI 2000,vI 1000]⟩,dptV ⟨[vJ 999,vI 500,vI 1,vI 0,vI 200]⟩ 0],vI 500⟩
theorem kAwake227:KAwake227.Ok Tryz.prog:=CF.of2 noNG mixed (l:=[]) .nil 3000 (by kernel_rfl)
def KAwake228:CF:=⟨109,[.agg ⟨[vI 2000,vI 1000]⟩,dptV wAwake6 0,dptV ⟨[vJ 999,vI 500,vI 1,vI 0,vI 200]⟩ 0,dptV wAwake5 0],vT⟩
theorem kAwake228:KAwake228.Ok Tryz.prog:=CF.of2 noNG mixed (l:=[KAwake224,KAwake227]) (.cons kAwake224 (.cons kAwake227 .nil)) 3000 (by kernel_rfl)
def KAwake229:CF:=⟨97,[.agg ⟨[vI 2000,vI 2999,vI 1000,vI 1999]⟩,.func (.func 109) ⟨[]⟩ wAwake7],vT⟩
theorem kAwake229:KAwake229.Ok Tryz.prog:=CF.of2 noNG mixed (l:=[KAwake228,KAwake223]) (.cons kAwake228 (.cons kAwake223 .nil)) 3000 (by kernel_rfl)
def KAwake230:CF:=⟨110,[.agg ⟨[vI 2000,vI 1000]⟩,dptV wAwake6 0,dptV ⟨[vJ 999,vI 500,vI 1,vI 0,vI 200]⟩ 0,dptV wAwake5 0],vT⟩
theorem kAwake230:KAwake230.Ok Tryz.prog:=CF.of2 noNG mixed (l:=[KAwake224,KAwake227]) (.cons kAwake224 (.cons kAwake227 .nil)) 3000 (by kernel_rfl)
def KAwake231:CF:=⟨97,[.agg ⟨[vI 2000,vI 2999,vI 1000,vI 1999]⟩,.func (.func 110) ⟨[]⟩ wAwake7],vT⟩
theorem kAwake231:KAwake231.Ok Tryz.prog:=CF.of2 noNG mixed (l:=[KAwake230,KAwake223]) (.cons kAwake230 (.cons kAwake223 .nil)) 3000 (by kernel_rfl)
def KAwake232:CF:=⟨75,[.agg ⟨[vJ 999,vI 500,vI 1,vI 0,vI 200]⟩,.agg ⟨[vI 2000,vI 2999,vI 1000,vI 1999]⟩],vF⟩
theorem kAwake232:KAwake232.Ok Tryz.prog:=CF.of2 noNG mixed (l:=[KAwake229,KAwake226,KAwake125,KAwake231]) (.cons kAwake229 (.cons kAwake226 (.cons kAwake125 (.cons kAwake231 .nil)))) 3000 (by kernel_rfl)
def KAwake233:CF:=⟨47,[.agg wAwake4,.agg ⟨[vI 2000,vI 2999,vI 1000,vI 1999]⟩],vF⟩
theorem kAwake233:KAwake233.Ok Tryz.prog:=CF.of2 noNG mixed (l:=[KAwake232]) (.cons kAwake232 .nil) 3000 (by kernel_rfl)
def KAwake234:CF:=⟨98,[.agg ⟨[vI 0,vI 999]⟩,.agg ⟨[vI 1000,vI 1999]⟩],vF⟩
theorem kAwake234:KAwake234.Ok Tryz.prog:=CF.of2 noNG mixed (l:=[]) .nil 3000 (by kernel_rfl)
def KAwake235:CF:=⟨76,[.agg ⟨[vI 2000,vI 5000,vI 0,vI 999]⟩,.agg ⟨[vI 2000,vI 2999,vI 1000,vI 1999]⟩],vF⟩
theorem kAwake235:KAwake235.Ok Tryz.prog:=CF.of2 noNG mixed (l:=[KAwake234,KAwake180]) (.cons kAwake234 (.cons kAwake180 .nil)) 3000 (by kernel_rfl)
def KAwake236:CF:=⟨98,[.agg ⟨[vI 1500,vI 1600]⟩,.agg ⟨[vI 1000,vI 1999]⟩],vT⟩
theorem kAwake236:KAwake236.Ok Tryz.prog:=CF.of2 noNG mixed (l:=[]) .nil 3000 (by kernel_rfl)
def KAwake237:CF:=⟨76,[.agg ⟨[vI 2500,vI 2600,vI 1500,vI 1600]⟩,.agg ⟨[vI 2000,vI 2999,vI 1000,vI 1999]⟩],vT⟩
theorem kAwake237:KAwake237.Ok Tryz.prog:=CF.of2 noNG mixed (l:=[KAwake236,KAwake183]) (.cons kAwake236 (.cons kAwake183 .nil)) 3000 (by kernel_rfl)
def KAwake238:CF:=⟨48,[.agg wAwake4,.agg ⟨[vI 2000,vI 2999,vI 1000,vI 1999]⟩],vJ 0⟩
theorem kAwake238:KAwake238.Ok Tryz.prog:=CF.of2 noNG mixed (l:=[KAwake235,KAwake237]) (.cons kAwake235 (.cons kAwake237 .nil)) 3000 (by kernel_rfl)
def KAwake239:CF:=⟨17,[.agg wAwake4],lstV wAwake9 0 5 5⟩
theorem kAwake239:KAwake239.Ok Tryz.prog:=CF.of2 noNG mixed (l:=[KAwake187,KAwake124,KAwake168,KAwake76,KAwake148,KAwake123,KAwake162,KAwake167,KAwake233,KAwake77,KAwake142,KAwake205,KAwake219,KAwake238,KAwake147,KAwake179,KAwake186,KAwake222]) (.cons kAwake187 (.cons kAwake124 (.cons kAwake168 (.cons kAwake76 (.cons kAwake148 (.cons kAwake123 (.cons kAwake162 (.cons kAwake167 (.cons kAwake233 (.cons kAwake77 (.cons kAwake142 (.cons kAwake205 (.cons kAwake219 (.cons kAwake238 (.cons kAwake147 (.cons kAwake179 (.cons kAwake186 (.cons kAwake222 .nil)))))))))))))))))) 3000 (by kernel_rfl)
def KAwake240:CF:=⟨5,[.agg wAwake4],.tuple ⟨[lstV wAwake9 0 5 5,vI 0]⟩⟩
theorem kAwake240:KAwake240.Ok Tryz.prog:=CF.of2 noNG mixed (l:=[KAwake122,KAwake239]) (.cons kAwake122 (.cons kAwake239 .nil)) 3000 (by kernel_rfl)
def KAwake241:CF:=⟨83,[vI 999,vI 2],vI 499⟩
theorem kAwake241:KAwake241.Ok Tryz.prog:=CF.of2 noNG mixed (l:=[]) .nil 3000 (by kernel_rfl)
def KAwake242:CF:=⟨113,[.agg ⟨[vI 0,vI 999,vI 0,vI 999]⟩],.agg ⟨[vI 499,vI 499]⟩⟩
theorem kAwake242:KAwake242.Ok Tryz.prog:=CF.of2 noNG mixed (l:=[KAwake241]) (.cons kAwake241 .nil) 3000 (by kernel_rfl)
def KAwake243:CF:=⟨83,[vJ 2499,vI 100],vJ 24⟩
theorem kAwake243:KAwake243.Ok Tryz.prog:=CF.of2 noNG mixed (l:=[]) .nil 3000 (by kernel_rfl)
def KAwake244:CF:=⟨58,[vI 2500,vI 100],vI 25⟩
theorem kAwake244:KAwake244.Ok Tryz.prog:=CF.of2 noNG mixed (l:=[KAwake243]) (.cons kAwake243 .nil) 3000 (by kernel_rfl)
def KAwake245:CF:=⟨23,[.agg ⟨[vJ 1999,vI 500]⟩,.agg ⟨[vI 499,vI 499]⟩,vI 100],vI 25⟩
theorem kAwake245:KAwake245.Ok Tryz.prog:=CF.of2 noNG mixed (l:=[KAwake244]) (.cons kAwake244 .nil) 3000 (by kernel_rfl)
def KAwake246:CF:=⟨23,[.agg ⟨[vI 499,vI 499]⟩,.agg ⟨[vJ 1999,vI 500]⟩,vI 100],vI 25⟩
theorem kAwake246:KAwake246.Ok Tryz.prog:=CF.of2 noNG mixed (l:=[KAwake244]) (.cons kAwake244 .nil) 3000 (by kernel_rfl)
def KAwake247:CF:=⟨83,[vI 2999,vI 2],vI 1499⟩
theorem kAwake247:KAwake247.Ok Tryz.prog:=CF.of2 noNG mixed (l:=[]) .nil 3000 (by kernel_rfl)
def KAwake248:CF:=⟨113,[.agg ⟨[vI 1000,vI 1999,vI 0,vI 999]⟩],.agg ⟨[vI 1499,vI 499]⟩⟩
theorem kAwake248:KAwake248.Ok Tryz.prog:=CF.of2 noNG mixed (l:=[KAwake241,KAwake247]) (.cons kAwake241 (.cons kAwake247 .nil)) 3000 (by kernel_rfl)
def KAwake249:CF:=⟨83,[vJ 3499,vI 100],vJ 34⟩
theorem kAwake249:KAwake249.Ok Tryz.prog:=CF.of2 noNG mixed (l:=[]) .nil 3000 (by kernel_rfl)
def KAwake250:CF:=⟨58,[vI 3500,vI 100],vI 35⟩
theorem kAwake250:KAwake250.Ok Tryz.prog:=CF.of2 noNG mixed (l:=[KAwake249]) (.cons kAwake249 .nil) 3000 (by kernel_rfl)
def KAwake251:CF:=⟨23,[.agg ⟨[vJ 1999,vI 500]⟩,.agg ⟨[vI 1499,vI 499]⟩,vI 100],vI 35⟩
theorem kAwake251:KAwake251.Ok Tryz.prog:=CF.of2 noNG mixed (l:=[KAwake250]) (.cons kAwake250 .nil) 3000 (by kernel_rfl)
def KAwake252:CF:=⟨23,[.agg ⟨[vI 1499,vI 499]⟩,.agg ⟨[vJ 1999,vI 500]⟩,vI 100],vI 35⟩
theorem kAwake252:KAwake252.Ok Tryz.prog:=CF.of2 noNG mixed (l:=[KAwake250]) (.cons kAwake250 .nil) 3000 (by kernel_rfl)
def KAwake253:CF:=⟨67,[.agg ⟨[vI 1,vI 35,vI 45]⟩],vI 45⟩
theorem kAwake253:KAwake253.Ok Tryz.prog:=CF.of2 noNG mixed (l:=[]) .nil 3000 (by kernel_rfl)
def KAwake254:CF:=⟨67,[.agg ⟨[vI 0,vI 25,vI 35]⟩],vI 35⟩
theorem kAwake254:KAwake254.Ok Tryz.prog:=CF.of2 noNG mixed (l:=[]) .nil 3000 (by kernel_rfl)
def KAwake255:CF:=⟨83,[vI 4999,vI 2],vI 2499⟩
theorem kAwake255:KAwake255.Ok Tryz.prog:=CF.of2 noNG mixed (l:=[]) .nil 3000 (by kernel_rfl)
def KAwake256:CF:=⟨113,[.agg ⟨[vI 2000,vI 2999,vI 0,vI 999]⟩],.agg ⟨[vI 2499,vI 499]⟩⟩
theorem kAwake256:KAwake256.Ok Tryz.prog:=CF.of2 noNG mixed (l:=[KAwake241,KAwake255]) (.cons kAwake241 (.cons kAwake255 .nil)) 3000 (by kernel_rfl)
def KAwake257:CF:=⟨83,[vJ 4499,vI 100],vJ 44⟩
theorem kAwake257:KAwake257.Ok Tryz.prog:=CF.of2 noNG mixed (l:=[]) .nil 3000 (by kernel_rfl)
def KAwake258:CF:=⟨58,[vI 4500,vI 100],vI 45⟩
theorem kAwake258:KAwake258.Ok Tryz.prog:=CF.of2 noNG mixed (l:=[KAwake257]) (.cons kAwake257 .nil) 3000 (by kernel_rfl)
def KAwake259:CF:=⟨23,[.agg ⟨[vJ 1999,vI 500]⟩,.agg ⟨[vI 2499,vI 499]⟩,vI 100],vI 45⟩
theorem kAwake259:KAwake259.Ok Tryz.prog:=CF.of2 noNG mixed (l:=[KAwake258]) (.cons kAwake258 .nil) 3000 (by kernel_rfl)
def KAwake260:CF:=⟨23,[.agg ⟨[vI 2499,vI 499]⟩,.agg ⟨[vJ 1999,vI 500]⟩,vI 100],vI 45⟩
theorem kAwake260:KAwake260.Ok Tryz.prog:=CF.of2 noNG mixed (l:=[KAwake258]) (.cons kAwake258 .nil) 3000 (by kernel_rfl)
def KAwake261:CF:=⟨67,[.agg ⟨[vI 2,vI 100,vI 110]⟩],vI 110⟩
theorem kAwake261:KAwake261.Ok Tryz.prog:=CF.of2 noNG mixed (l:=[]) .nil 3000 (by kernel_rfl)
def KAwake262:CF:=⟨113,[.agg ⟨[vI 1000,vI 1999,vI 1000,vI 1999]⟩],.agg ⟨[vI 1499,vI 1499]⟩⟩
theorem kAwake262:KAwake262.Ok Tryz.prog:=CF.of2 noNG mixed (l:=[KAwake247]) (.cons kAwake247 .nil) 3000 (by kernel_rfl)
def KAwake263:CF:=⟨83,[vJ 3638,vI 100],vJ 36⟩
theorem kAwake263:KAwake263.Ok Tryz.prog:=CF.of2 noNG mixed (l:=[]) .nil 3000 (by kernel_rfl)
def KAwake264:CF:=⟨58,[vI 3639,vI 100],vI 37⟩
theorem kAwake264:KAwake264.Ok Tryz.prog:=CF.of2 noNG mixed (l:=[KAwake263]) (.cons kAwake263 .nil) 3000 (by kernel_rfl)
def KAwake265:CF:=⟨23,[.agg ⟨[vJ 1999,vI 500]⟩,.agg ⟨[vI 1499,vI 1499]⟩,vI 100],vI 37⟩
theorem kAwake265:KAwake265.Ok Tryz.prog:=CF.of2 noNG mixed (l:=[KAwake264]) (.cons kAwake264 .nil) 3000 (by kernel_rfl)
def KAwake266:CF:=⟨23,[.agg ⟨[vI 1499,vI 1499]⟩,.agg ⟨[vJ 1999,vI 500]⟩,vI 100],vI 37⟩
theorem kAwake266:KAwake266.Ok Tryz.prog:=CF.of2 noNG mixed (l:=[KAwake264]) (.cons kAwake264 .nil) 3000 (by kernel_rfl)
def KAwake267:CF:=⟨67,[.agg ⟨[vI 3,vI 37,vI 47]⟩],vI 47⟩
theorem kAwake267:KAwake267.Ok Tryz.prog:=CF.of2 noNG mixed (l:=[]) .nil 3000 (by kernel_rfl)
def KAwake268:CF:=⟨83,[vJ 999,vI 100],vJ 9⟩
theorem kAwake268:KAwake268.Ok Tryz.prog:=CF.of2 noNG mixed (l:=[]) .nil 3000 (by kernel_rfl)
def KAwake269:CF:=⟨58,[vI 1000,vI 100],vI 10⟩
theorem kAwake269:KAwake269.Ok Tryz.prog:=CF.of2 noNG mixed (l:=[KAwake268]) (.cons kAwake268 .nil) 3000 (by kernel_rfl)
def KAwake270:CF:=⟨23,[.agg ⟨[vI 499,vI 499]⟩,.agg ⟨[vI 1499,vI 499]⟩,vI 100],vI 10⟩
theorem kAwake270:KAwake270.Ok Tryz.prog:=CF.of2 noNG mixed (l:=[KAwake269]) (.cons kAwake269 .nil) 3000 (by kernel_rfl)
def KAwake271:CF:=⟨83,[vJ 1999,vI 100],vJ 19⟩
theorem kAwake271:KAwake271.Ok Tryz.prog:=CF.of2 noNG mixed (l:=[]) .nil 3000 (by kernel_rfl)
def KAwake272:CF:=⟨58,[vI 2000,vI 100],vI 20⟩
theorem kAwake272:KAwake272.Ok Tryz.prog:=CF.of2 noNG mixed (l:=[KAwake271]) (.cons kAwake271 .nil) 3000 (by kernel_rfl)
def KAwake273:CF:=⟨23,[.agg ⟨[vI 499,vI 499]⟩,.agg ⟨[vI 2499,vI 499]⟩,vI 100],vI 20⟩
theorem kAwake273:KAwake273.Ok Tryz.prog:=CF.of2 noNG mixed (l:=[KAwake272]) (.cons kAwake272 .nil) 3000 (by kernel_rfl)
def KAwake274:CF:=⟨67,[.agg ⟨[vI 1,vI 45,vI 55]⟩],vI 55⟩
theorem kAwake274:KAwake274.Ok Tryz.prog:=CF.of2 noNG mixed (l:=[]) .nil 3000 (by kernel_rfl)
def KAwake275:CF:=⟨83,[vJ 1414,vI 100],vJ 14⟩
theorem kAwake275:KAwake275.Ok Tryz.prog:=CF.of2 noNG mixed (l:=[]) .nil 3000 (by kernel_rfl)
def KAwake276:CF:=⟨58,[vI 1415,vI 100],vI 15⟩
theorem kAwake276:KAwake276.Ok Tryz.prog:=CF.of2 noNG mixed (l:=[KAwake275]) (.cons kAwake275 .nil) 3000 (by kernel_rfl)
def KAwake277:CF:=⟨23,[.agg ⟨[vI 499,vI 499]⟩,.agg ⟨[vI 1499,vI 1499]⟩,vI 100],vI 15⟩
theorem kAwake277:KAwake277.Ok Tryz.prog:=CF.of2 noNG mixed (l:=[KAwake276]) (.cons kAwake276 .nil) 3000 (by kernel_rfl)
def KAwake278:CF:=⟨67,[.agg ⟨[vI 3,vI 50,vI 60]⟩],vI 60⟩
theorem kAwake278:KAwake278.Ok Tryz.prog:=CF.of2 noNG mixed (l:=[]) .nil 3000 (by kernel_rfl)
def KAwake279:CF:=⟨23,[.agg ⟨[vI 1499,vI 499]⟩,.agg ⟨[vI 2499,vI 499]⟩,vI 100],vI 10⟩
theorem kAwake279:KAwake279.Ok Tryz.prog:=CF.of2 noNG mixed (l:=[KAwake269]) (.cons kAwake269 .nil) 3000 (by kernel_rfl)
def KAwake280:CF:=⟨23,[.agg ⟨[vI 1499,vI 499]⟩,.agg ⟨[vI 1499,vI 1499]⟩,vI 100],vI 10⟩
theorem kAwake280:KAwake280.Ok Tryz.prog:=CF.of2 noNG mixed (l:=[KAwake269]) (.cons kAwake269 .nil) 3000 (by kernel_rfl)
def KAwake281:CF:=⟨67,[.agg ⟨[vI 3,vI 65,vI 75]⟩],vI 75⟩
theorem kAwake281:KAwake281.Ok Tryz.prog:=CF.of2 noNG mixed (l:=[]) .nil 3000 (by kernel_rfl)
def KAwake282:CF:=⟨23,[.agg ⟨[vI 1499,vI 1499]⟩,.agg ⟨[vI 2499,vI 499]⟩,vI 100],vI 15⟩
theorem kAwake282:KAwake282.Ok Tryz.prog:=CF.of2 noNG mixed (l:=[KAwake276]) (.cons kAwake276 .nil) 3000 (by kernel_rfl)
def KAwake283:CF:=⟨13,[.agg wAwake4],.tuple ⟨[.agg ⟨[lstV wAwake10 0 5 3,lstV ⟨[vI 4,vI 1]⟩ 0 1 2]⟩,vI 0]⟩⟩
theorem kAwake283:KAwake283.Ok Tryz.prog:=CF.of2 noNG mixed (l:=[KAwake256,KAwake262,KAwake242,KAwake248,KAwake260,KAwake261,KAwake266,KAwake245,KAwake254,KAwake259,KAwake265,KAwake274,KAwake251,KAwake252,KAwake267,KAwake270,KAwake273,KAwake277,KAwake278,KAwake279,KAwake280,KAwake281,KAwake282,KAwake240,KAwake246,KAwake253]) (.cons kAwake256 (.cons kAwake262 (.cons kAwake242 (.cons kAwake248 (.cons kAwake260 (.cons kAwake261 (.cons kAwake266 (.cons kAwake245 (.cons kAwake254 (.cons kAwake259 (.cons kAwake265 (.cons kAwake274 (.cons kAwake251 (.cons kAwake252 (.cons kAwake267 (.cons kAwake270 (.cons kAwake273 (.cons kAwake277 (.cons kAwake278 (.cons kAwake279 (.cons kAwake280 (.cons kAwake281 (.cons kAwake282 (.cons kAwake240 (.cons kAwake246 (.cons kAwake253 .nil)))))))))))))))))))))))))) 3000 (by kernel_rfl)
def KAwake284:CF:=⟨20,[vI 500,vI 0,vI 999],vT⟩
theorem kAwake284:KAwake284.Ok Tryz.prog:=CF.of2 noNG mixed (l:=[]) .nil 3000 (by kernel_rfl)
def KAwake285:CF:=⟨20,[vI 1500,vI 0,vI 999],vF⟩
theorem kAwake285:KAwake285.Ok Tryz.prog:=CF.of2 noNG mixed (l:=[]) .nil 3000 (by kernel_rfl)
def KAwake286:CF:=⟨20,[vI 500,vI 1000,vI 1999],vF⟩
theorem kAwake286:KAwake286.Ok Tryz.prog:=CF.of2 noNG mixed (l:=[]) .nil 3000 (by kernel_rfl)
def KAwake287:CF:=⟨20,[vI 500,vI 2000,vI 2999],vF⟩
theorem kAwake287:KAwake287.Ok Tryz.prog:=CF.of2 noNG mixed (l:=[]) .nil 3000 (by kernel_rfl)
def KAwake288:CF:=⟨8,[.agg wAwake4,.agg ⟨[vI 500,vI 1500]⟩],.tuple ⟨[vI 0,vI 4]⟩⟩
theorem kAwake288:KAwake288.Ok Tryz.prog:=CF.of2 noNG mixed (l:=[KAwake286,KAwake287,KAwake240,KAwake284,KAwake285]) (.cons kAwake286 (.cons kAwake287 (.cons kAwake240 (.cons kAwake284 (.cons kAwake285 .nil))))) 3000 (by kernel_rfl)
def KAwake289:CF:=⟨32,[vI 3066666,vI 4601000],.agg ⟨[vI 3066666,vI 4601000]⟩⟩
theorem kAwake289:KAwake289.Ok Tryz.prog:=CF.of2 noNG mixed (l:=[]) .nil 3000 (by kernel_rfl)
def KAwake290:CF:=⟨32,[vJ 819999,vI 801000],.agg ⟨[vJ 819999,vI 801000]⟩⟩
theorem kAwake290:KAwake290.Ok Tryz.prog:=CF.of2 noNG mixed (l:=[]) .nil 3000 (by kernel_rfl)
def KAwake291:CF:=⟨31,[vI 3066666,vI 4601000,vJ 819999,vI 801000],.agg ⟨[vI 3066666,vI 4601000,vJ 819999,vI 801000]⟩⟩
theorem kAwake291:KAwake291.Ok Tryz.prog:=CF.of2 noNG mixed (l:=[KAwake289,KAwake290]) (.cons kAwake289 (.cons kAwake290 .nil)) 3000 (by kernel_rfl)
def KAwake292:CF:=⟨32,[vI 5500,vI 6510],.agg ⟨[vI 5500,vI 6510]⟩⟩
theorem kAwake292:KAwake292.Ok Tryz.prog:=CF.of2 noNG mixed (l:=[]) .nil 3000 (by kernel_rfl)
def KAwake293:CF:=⟨33,[],.agg ⟨[lstV wAwake10 0 5 3,lstV ⟨[vI 4,vI 1]⟩ 0 1 2]⟩⟩
theorem kAwake293:KAwake293.Ok Tryz.prog:=CF.of2 noNG mixed (l:=[]) .nil 3000 (by kernel_rfl)
def KAwake294:CF:=⟨15,[.agg ⟨[lstV wAwake10 0 5 3,lstV ⟨[vI 4,vI 1]⟩ 0 1 2]⟩,.agg ⟨[lstV wAwake10 0 5 3,lstV ⟨[vI 4,vI 1]⟩ 0 1 2]⟩],vT⟩
theorem kAwake294:KAwake294.Ok Tryz.prog:=CF.of2 noNG mixed (l:=[]) .nil 3000 (by kernel_rfl)
def KAwake295:CF:=⟨12,[],vT⟩
theorem kAwake295:KAwake295.Ok Tryz.prog:=CF.of2 noNG mixed (l:=[KAwake71,KAwake288,KAwake3,KAwake291,KAwake5,KAwake6,KAwake292,KAwake293,KAwake294,KAwake283,KAwake61]) (.cons kAwake71 (.cons kAwake288 (.cons kAwake3 (.cons kAwake291 (.cons kAwake5 (.cons kAwake6 (.cons kAwake292 (.cons kAwake293 (.cons kAwake294 (.cons kAwake283 (.cons kAwake61 .nil))))))))))) 3000 (by kernel_rfl)
end
end Go.Proofs.YtoghoeebiddblaaGreat
namespace Go.Proofs.YtoghoeebiddblaaGreat
open Go.Gi Go.RowKit
noncomputable section
structure R12 where
  (r0:Bool)
structure A12 where
def rt12:RT R12:=.leaf ⟨true⟩
def F12:Option R12:=rt12.val
def F12_ok:Bool:=F12.isSome
def F12_0:Bool:=match F12 with | some r=>r.r0 | none=>false
def dec12:Task→Option (A12×Hp)
  | .call g ⟨[]⟩ h=>(match Nat.beq g 12 with | true=>some (⟨⟩,h) | false=>none)
  | _=>none
def alt12 (_x:A12)(h:Hp):AT:=.br F12_ok (.leaf (.ret (.bool F12_0) h)) .no
def p12:Ans:=fnAns dec12 alt12
theorem hd12:∀(t:Task) (x:A12)(h:Hp),dec12 t=some (x,h)→t=.call 12 ⟨[]⟩ h:=by
  intro t x h e;unfold dec12 at e
  split at e
  case h_2=>cases e
  split at e
  case h_2=>cases e
  rename_i hg;simp only [Option.some.injEq,Prod.mk.injEq]at e;obtain ⟨_,rfl⟩:=e;rw [Nat.eq_of_beq_eq_true hg]
theorem known12:Known Tryz.prog p12:=by
  intro t x o h ho;unfold p12 fnAns at h
  split at h
  · rename_i x' hp hd
    simp only [Option.some.injEq]at h;subst h;obtain rfl:=hd12 _ _ _ hd;have h2:(alt12 x' hp).out=some (.ret (.bool true) hp):=rfl;rw [h2]at ho
    cases ho
    exact kAwake295 hp
  · cases h
end
end Go.Proofs.YtoghoeebiddblaaGreat
namespace Go.Proofs.YtoghoeebiddblaaGreat
open Go.Gi Go.RowKit Go.Proofs.YtoghoeebiddblaaGreat.Old
noncomputable section
set_option maxRecDepth 100000
set_option maxHeartbeats 4000000
structure R46 where
  (r0 r1:Int)
structure A46 where
  (a0 a1:Int)
  (a2 a3:Int)
def rt46 (a0 a1:Int)(a2 a3:Int):RT R46 :=
  .leaf ⟨(IntKind.wrap .i64 (a0+(IntKind.wrap .i64 (a3*a2)))),(min (IntKind.wrap .i64 ((IntKind.wrap .i64 ((IntKind.wrap .i64 (a0+(IntKind.wrap .i64 (a3*a2))))+a2))-(1:Int))) a1)⟩
def en46 (r:R46):Value:=(.agg ⟨[(.int .i64 r.r0),(.int .i64 r.r1)]⟩)
theorem T46  (a0 a1:Int) (a2 a3:Int):evC Tryz.prog (Ans.c (fun _=>none:Ans)) 60 (.call 46 ⟨[(.agg ⟨[(.int .i64 a0),(.int .i64 a1)]⟩),(.int .i64 a2),(.int .i64 a3)]⟩ ⟨[],0,[]⟩) (frzK [0])=(rt46 a0 a1 a2 a3).out (fun r=>.ret (en46 r) ⟨[],0,[]⟩):=by kernel_rfl
def F46 (a0 a1:Int)(a2 a3:Int):Option R46:=(rt46 a0 a1 a2 a3).val
section
variable (a0 a1:Int) (a2 a3:Int)
def F46_ok:Bool:=(F46 a0 a1 a2 a3).isSome
def F46_0:Int:=match F46 a0 a1 a2 a3 with | some r=>r.r0 | none=>0
def F46_1:Int:=match F46 a0 a1 a2 a3 with | some r=>r.r1 | none=>0
end
def dec46:Task→Option (A46×Hp)
  | .call g ⟨[(.agg ⟨[(.int .i64 a0),(.int .i64 a1)]⟩),(.int .i64 a2),(.int .i64 a3)]⟩ h=>(match Nat.beq g 46 with | true=>some (⟨a0,a1,a2,a3⟩,h) | false=>none)
  | _=>none
def alt46 (x:A46)(h:Hp):AT:=.br (F46_ok x.a0 x.a1 x.a2 x.a3) (.leaf (.ret (.agg ⟨[(.int .i64 (F46_0 x.a0 x.a1 x.a2 x.a3)),(.int .i64 (F46_1 x.a0 x.a1 x.a2 x.a3))]⟩) h)) .no
def p46:Ans:=fnAns dec46 alt46
theorem ha46:∀(x:A46) (h:Hp)(o:Out),(alt46 x h).out=some o→∃r,(rt46 x.a0 x.a1 x.a2 x.a3).val=some r∧o=.ret (en46 r) h:=by
  intro x h o e;unfold alt46 at e;simp only [AT.out]at e;obtain ⟨g,e⟩:=cond_some e;unfold F46_ok at g;obtain ⟨r,hF⟩:=Option.isSome_iff_exists.1 g
  have hv:F46 x.a0 x.a1 x.a2 x.a3=(rt46 x.a0 x.a1 x.a2 x.a3).val:=by delta F46;exact rfl
  refine ⟨r,hv.symm.trans hF,?_⟩
  simp only [Option.some.injEq]at e;rw [← e]
  have k0:F46_0 x.a0 x.a1 x.a2 x.a3=r.r0:=by
    show (match F46 x.a0 x.a1 x.a2 x.a3 with | some r=>r.r0 | none=>0)=r.r0
    rw [hF]
  have k1:F46_1 x.a0 x.a1 x.a2 x.a3=r.r1:=by
    show (match F46 x.a0 x.a1 x.a2 x.a3 with | some r=>r.r1 | none=>0)=r.r1
    rw [hF]
  rw [k0,k1]<;>rfl
theorem hd46:∀(t:Task) (x:A46)(h:Hp),dec46 t=some (x,h)→t=.call 46 ⟨[(.agg ⟨[(.int .i64 x.a0),(.int .i64 x.a1)]⟩),(.int .i64 x.a2),(.int .i64 x.a3)]⟩ h:=by
  intro t x h e;unfold dec46 at e
  split at e
  case h_2=>cases e
  split at e
  case h_2=>cases e
  rename_i hg;simp only [Option.some.injEq,Prod.mk.injEq]at e;obtain ⟨rfl,rfl⟩:=e;rw [Nat.eq_of_beq_eq_true hg]
theorem known46:Known Tryz.prog p46:=by
  exact Known.fn noNG mixed (Known.nothing Tryz.prog) (n:=60) (zs:=[0]) 46 (fun x:A46=>[(.agg ⟨[(.int .i64 x.a0),(.int .i64 x.a1)]⟩),(.int .i64 x.a2),(.int .i64 x.a3)]) (fun x=>rt46 x.a0 x.a1 x.a2 x.a3) en46 (fun x=>T46  x.a0 x.a1 x.a2 x.a3) (fun x=>rfl) dec46 alt46 hd46 ha46
end
end Go.Proofs.YtoghoeebiddblaaGreat
