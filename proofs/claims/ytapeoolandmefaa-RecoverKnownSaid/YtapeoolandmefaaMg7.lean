/- Part 7 of the texts below the claim. Conditions: none. -/
import Derived.Test.YtapeoolandmefaaMg6
import Derived.Test.YtapeoolandmefaaProg
set_option linter.unusedVariables false
set_option linter.unusedSimpArgs false
namespace Go.Gi
open Go.RowKit
noncomputable section
abbrev vT:Value:=.bool true
abbrev vF:Value:=.bool false
abbrev vI (n:Nat):Value:=.int .i64 (.ofNat n)
abbrev vJ (n:Nat):Value:=.int .i64 (.negSucc n)
structure CF where
  g:Nat
  args:List Value
  u:Value
def CF.Ok (P:Program)(c:CF):Prop:=∀h,Fact P (.call c.g ⟨c.args⟩ h) (.ret c.u h)
def lookCF (f:Nat)(vs:List Value)(h:Hp):List CF→Option AT
  | []=>none
  | c::r=>match Nat.beq f c.g with
    | true=>(match eqLs (eqVn 8) vs c.args with
      | true=>some (.leaf (.ret c.u h))
      | false=>lookCF f vs h r)
    | false=>lookCF f vs h r
def tabA (l:List CF):Ans:=fun t=>match t with
  | .call f vs h=>lookCF f vs.toList h l
  | _=>none
inductive CFs (P:Program):List CF→Prop
  | nil:CFs P []
  | cons {c:CF} {l:List CF} (h:c.Ok P) (r:CFs P l):CFs P (c::l)
theorem lookCF_ok {P:Program}{f:Nat}{vs:List Value}{h:Hp}:∀{l:List CF},CFs P l→∀{x:AT}{o:Out},lookCF f vs h l=some x→x.out=some o→Fact P (.call f ⟨vs⟩ h) o
  | [],_,x,o,hx,_=>by cases hx
  | c::r,hl,x,o,hx,ho=>by
    cases hl with
    | cons hc hr =>
      unfold lookCF at hx
      split at hx
      · rename_i hf
        split at hx
        · rename_i ha
          simp only [Option.some.injEq]at hx;subst hx;simp only [AT.out,Option.some.injEq]at ho;subst ho
          rw [Nat.eq_of_beq_eq_true hf,eqLs_eq (fun _ _ h=>eqVn_eq h) ha]
          exact hc h
        · exact lookCF_ok hr hx ho
      · exact lookCF_ok hr hx ho
theorem tabA_ok {P:Program}{l:List CF}(hl:CFs P l):Known P (tabA l):=by
  intro t x o h ho;unfold tabA at h
  split at h
  · rename_i f vs hh
    exact lookCF_ok hl h ho
  · cases h
def frDs (f:Value→Option Value):List Value→Option (List Value)
  | []=>some []
  | v::r=>match f v with
    | some u=>(match frDs f r with
      | some l=>some (u::l)
      | none=>none)
    | none=>none
def frC (f:Value→Option Value)(v:Value):Option Value:=match v with
  | .slice none 0 0=>some (lstV ⟨[]⟩ 0 0 1)
  | v=>f v
def frD (bl:List Ob):Nat→Value→Option Value
  | 0,_=>none
  | n+1,v=>match v with
    | .slice (some ⟨b,off,none⟩) len sz=>(match nthO bl b with
      | some (.cells c false)=>(match frDs (frC (frD bl n)) c.toList with
        | some l=>if off+len*sz≤c.size then some (lstV ⟨l⟩ off len sz) else none
        | none=>none)
      | _=>none)
    | .pointer (some ⟨b,off,none⟩)=>(match nthO bl b with
      | some (.cells c false)=>(match frDs (frC (frD bl n)) c.toList with
        | some l=>some (dptV ⟨l⟩ off)
        | none=>none)
      | _=>none)
    | .agg ⟨l⟩=>(match frDs (frD bl n) l with
      | some l=>some (.agg ⟨l⟩)
      | none=>none)
    | .iface t v=>(match frD bl n v with
      | some v=>some (.iface t v)
      | none=>none)
    | .func (.func g) ⟨l⟩ ⟨m⟩=>(match frDs (frD bl n) l,frDs (frD bl n) m with
      | some l,some m=>some (.func (.func g) ⟨l⟩ ⟨m⟩)
      | _,_=>none)
    | v=>if fz0 v then some v else none
def frDV (bl:List Ob)(v:Value):Option Value:=match v with
  | .tuple ⟨x::l⟩=>(match frDs (frD bl 8) (x::l) with
    | some l=>some (.tuple ⟨l⟩)
    | none=>none)
  | v=>frD bl 8 v
def frDK:Kn
  | .ret v h=>(match frDV h.bl v with
    | some v=>some (.ret v ⟨[],0,[]⟩)
    | none=>none)
  | _=>none
section
variable {K:Nat→Prop}{w0 w:World} {φ:Phi}{X:List Ob}{z:Nat→Option Obj}
theorem frDs_ok {f:Value→Option Value}(hf:∀v u v',f v=some u→VR φ v v'→FR z u v'):∀{l us l':List Value},frDs f l=some us→VRl φ l l'→FRl z us l'
  | [],us,_,h,hv=>by
    cases hv
    simp only [frDs,Option.some.injEq]at h;subst h;exact .nil
  | v::r,us,_,h,hv=>by
    cases hv with
    | cons h1 h2 =>
      simp only [frDs]at h
      split at h
      · rename_i u hu
        split at h
        · rename_i l hl
          simp only [Option.some.injEq]at h;subst h;exact .cons (hf _ _ _ hu h1) (frDs_ok hf hl h2)
        · cases h
      · cases h
theorem FRl.fn {z:Nat→Option Obj} {l l' m m':List Value}(g:FuncId) (h:FRl z l l') (h2:FRl z m m'):FR z (.func (.func g) ⟨l⟩ ⟨m⟩) (.func (.func g) ⟨l'⟩ ⟨m'⟩):=by
  have hh:∀{us ys:List Value},FRl z us ys→(⟨us⟩:Array Value).size=(⟨ys⟩:Array Value).size∧∀i,i<(⟨us⟩:Array Value).size→FR z ((⟨us⟩:Array Value).getD i undef) ((⟨ys⟩:Array Value).getD i undef):=by
    intro us ys hf
    refine ⟨by simpa using hf.agg.1,fun i hi=>?_⟩
    rcases hf.agg.2 i with h5 | h5
    · exact h5
    · simp at hi;omega
  exact .fn (hh h).1 (hh h).2 (hh h2).1 (hh h2).2
theorem cells_frl {c C:Array Value}{base:Nat}(hC:base+c.size≤C.size) (h2:∀(i:Nat) (v:Value),c[i]?=some v→∃v',C[base+i]?=some v'∧VR φ v v'):VRl φ c.toList ((C.toList.drop base).take c.size):=by
  have key:∀(l:List Value) (m:List Value),l.length=m.length→(∀(i:Nat) (v:Value),l[i]?=some v→∃v',m[i]?=some v'∧VR φ v v')→VRl φ l m:=by
    intro l
    induction l with
    | nil=>intro m hl _;cases m with
      | nil=>exact .nil
      | cons _ _=>simp at hl
    | cons x r ih=>intro m hl hh;cases m with
      | nil=>simp at hl
      | cons y s =>
        refine .cons ?_ (ih s (by simpa using hl) fun i v hv=>by simpa using hh (i+1) v (by simpa using hv))
        obtain ⟨v',h3,h4⟩:=hh 0 x rfl
        simp only [List.getElem?_cons_zero,Option.some.injEq]at h3
        rw [h3];exact h4
  refine key _ _ (by simp;omega) fun i v hv=>?_
  have hv2:c[i]?=some v:=by rw [← Array.getElem?_toList];exact hv
  obtain ⟨v',h3,h4⟩:=h2 i v hv2
  refine ⟨v',?_,h4⟩
  have hi:i<c.size:=by rw [Array.getElem?_eq_some_iff]at hv2;exact hv2.1
  rw [List.getElem?_take,if_pos hi,List.getElem?_drop,Array.getElem?_toList]
  exact h3
theorem FRl.cells {l:List Value}{C:Array Value}{base n:Nat}(h:FRl z l ((C.toList.drop base).take n)) (hC:base+n≤C.size):l.length=n∧∀i,i<(⟨l⟩:Array Value).size→FR z ((⟨l⟩:Array Value).getD i undef) (C.getD (base+i) undef):=by
  have hn:l.length=n:=by rw [h.agg.1];simp;omega
  refine ⟨hn,fun i hi=>?_⟩
  have hi':i<n:=by simpa [hn] using hi
  rcases h.agg.2 i with h1 | h1
  · have e:(⟨(C.toList.drop base).take n⟩:Array Value).getD i undef=C.getD (base+i) undef:=by
      rw [Array.getD_eq_getD_getElem?,Array.getD_eq_getD_getElem?]
      have:(⟨(C.toList.drop base).take n⟩:Array Value)[i]?=C[base+i]?:=by
        rw [← Array.getElem?_toList,List.getElem?_take,if_pos hi',List.getElem?_drop,Array.getElem?_toList]
      rw [this]
    rw [← e];exact h1
  · omega
theorem frC_ok {f:Value→Option Value}(hf:∀v u v',f v=some u→VR φ v v'→FR z u v'):∀v u v',frC f v=some u→VR φ v v'→FR z u v':=by
  intro v u v' h hv;unfold frC at h
  split at h
  · cases h;cases hv;exact .lstZ _ _ _ _
  · exact hf _ _ _ h hv
theorem frD_ok (h:Made 0 z φ X w):∀{n:Nat} {v u v':Value},frD X n v=some u→VR φ v v'→FR z u v'
  | 0,_,_,_,hk,_=>by cases hk
  | n+1,v,u,v',hk,hv=>by
    have ih:∀v u v',frD X n v=some u→VR φ v v'→FR z u v':=fun v u v' h1 h2=>frD_ok h h1 h2
    unfold frD at hk
    split at hk
    · rename_i b off len sz
      rw [nthO_eq]at hk
      split at hk
      · rename_i c hb
        split at hk
        · rename_i l hl
          split at hk
          · rename_i hle
            simp only [Option.some.injEq]at hk;subst hk;obtain ⟨B,base,tot,C,el,fr,h3,hz,h8,h6⟩:=h.obs b _ hb (Nat.zero_le _)
            cases hv with
            | sliceZ _ a' k'=>exact .lstZ _ _ _ _
            | slice hφ hl1 hc =>
              rw [h3]at hφ;cases hφ;obtain ⟨k1,k2⟩:=(frDs_ok (frC_ok ih) hl (cells_frl h8 h6)).cells h8
              exact .lst hz (by simpa [k1] using h8) k2 hl1 (by simpa [k1] using hle)
          · cases hk
        · cases hk
      · cases hk
    · rename_i b off
      rw [nthO_eq]at hk
      split at hk
      · rename_i c hb
        split at hk
        · rename_i l hl
          simp only [Option.some.injEq]at hk;subst hk;obtain ⟨B,base,tot,C,el,fr,h3,hz,h8,h6⟩:=h.obs b _ hb (Nat.zero_le _)
          cases hv with
          | ptr hφ =>
            rw [h3]at hφ;cases hφ;obtain ⟨k1,k2⟩:=(frDs_ok (frC_ok ih) hl (cells_frl h8 h6)).cells h8
            exact .dpt hz (by simpa [k1] using h8) k2
        · cases hk
      · cases hk
    · rename_i l
      split at hk
      · rename_i us hl
        simp only [Option.some.injEq]at hk;subst hk;obtain ⟨⟨ys⟩,rfl,hs⟩:=hv.agg_inv;exact (frDs_ok ih hl hs.toList).fr
      · cases hk
    · rename_i t x
      split at hk
      · rename_i y hy
        simp only [Option.some.injEq]at hk;subst hk
        cases hv with
        | iface _ hv=>exact .iface _ (ih _ _ _ hy hv)
      · cases hk
    · rename_i g l m
      split at hk
      · rename_i us ws hl hm
        simp only [Option.some.injEq]at hk;subst hk
        cases hv with
        | @fn _ _ first' _ cap' hg h1 h2 h3 h4 =>
          obtain ⟨first'⟩:=first';obtain ⟨cap'⟩:=cap';exact FRl.fn g (frDs_ok ih hl (VRs.toList (VRs.of h1 h2))) (frDs_ok ih hm (VRs.toList (VRs.of h3 h4)))
      · cases hk
    · split at hk
      · rename_i hf
        simp only [Option.some.injEq]at hk;subst hk;exact fz0_fr h hf hv
      · cases hk
theorem FRl.vrl {ψ:Phi} {l l':List Value}(h:FRl ψ.z l l'):VRl ψ l l':=by
  induction h with
  | nil=>exact .nil
  | cons h _ ih=>exact .cons h.vr ih
theorem frDV_ok {ψ:Phi}(h:Made 0 ψ.z φ X w) {v u v':Value}(hk:frDV X v=some u) (hv:VR φ v v'):VR ψ u v':=by
  unfold frDV at hk
  split at hk
  · rename_i x l
    split at hk
    · rename_i us hl
      simp only [Option.some.injEq]at hk;subst hk;obtain ⟨⟨ys⟩,rfl,hs⟩:=hv.tuple_inv rfl
      exact (frDs_ok (fun _ _ _ h1 h2=>frD_ok h h1 h2) hl hs.toList).vrl.vrs.tuple
    · cases hk
  · exact (frD_ok h hk hv).vr
end
section
variable {P:Program}
theorem Fact.liftD {f:FuncId}{args:Array Value}{v u:Value}{h1:Hp}(hf:Fact P (.call f args ⟨[],0,[]⟩) (.ret v h1)) (hfz:frDV h1.bl v=some u)
    (ha:args.toList.all pureA=true) (h:Hp):Fact P (.call f args h) (.ret u h):=by
  obtain ⟨_,hh⟩:=hf.1 (Nat.le_refl _)
  refine ⟨fun hb=>⟨Pres.refl _,?_⟩,trivial⟩
  intro K w0 φ w args' n hI hA;have hI':Inv K w0 φ ([]++h.bl) w:=hI
  have hN:=hI'.narrow (H0:=[]) (fun b ob h=>by simp at h)
  have hA1:VRs (cut φ ([]:List Ob).length) args args':=VRs.of hA.size fun i hi=>scT_cut (all_getD (p:=pureA) ha hi) (hA.getD i)
  refine (hh _ w _ w args' n hN hA1).mono ?_
  intro e w' he
  cases e with
  | returned v' =>
    obtain ⟨φ',hle,hv',hF⟩:=he
    have hZ:=hF.freeze (H1:=[]) (k:=0) (fun b ob h=>by simp at h)
    have k1:=frDV_ok (ψ:=⟨fun b=>if b<([]:List Ob).length+0 then φ' b else none,zF φ' h1.bl 0 w'⟩) (zF_made hF 0) hfz hv'
    have hle2:le (cut φ ([]:List Ob).length) ⟨fun b=>if b<([]:List Ob).length+0 then φ' b else none,zF φ' h1.bl 0 w'⟩:=by
      refine ⟨fun b x hx=>?_,fun B o hB=>(zF_made hF 0).le B o (hle.zz B o hB)⟩
      rw [cut_ge (show ([]:List Ob).length≤b from Nat.zero_le b)]at hx;cases hx
    obtain ⟨φ'',q1,q2,q3⟩:=hI'.widen (H1:=[]) (X:=[]) hZ hle2 .nil
    refine ⟨φ'',q1,?_,q3⟩
    have hc:cut ⟨fun b=>if b<([]:List Ob).length+0 then φ' b else none,zF φ' h1.bl ([]:List Ob).length w'⟩ ([]:List Ob).length=⟨fun b=>if b<([]:List Ob).length+0 then φ' b else none,zF φ' h1.bl 0 w'⟩:=by
      unfold cut
      simp
    rw [hc]at q2;exact k1.mono q2
  | panicked ch=>exact he.elim
  | outgrown=>exact he.elim
end
def hasApp (os:Array Oper):Bool:=os.toList.any fun o=>match o.op with
  | .call { callee:=.builtin b,.. }=>(match b with | .append | .copy=>true | _=>false)
  | _=>false
def forceK (k:Kn):Kn:=fun o=>match o with
  | .ex e s=>forceE s.h.bl fun bl=>k (.ex e ⟨s.t,s.d,⟨bl,s.h.base,s.h.wr⟩⟩)
  | o=>k o
theorem forceK_eq (k:Kn):forceK k=k:=by
  funext o
  cases o with
  | ex e s=>simp only [forceK,forceE_eq]
  | _=>rfl
def catL:List Value→Nat→Nat→List Value→List Value
  | [],_,_,m=>m
  | x::r,off,n,m=>match off with
    | o+1=>catL r o n m
    | 0=>(match n with
      | k+1=>x::catL r 0 k m
      | 0=>m)
theorem catL_eq:∀(l:List Value) (off n:Nat) (m:List Value),catL l off n m=(l.drop off).take n++m
  | [],off,n,m=>by simp [catL]
  | x::r,0,0,m=>by simp [catL]
  | x::r,0,k+1,m=>by simp [catL,catL_eq r 0 k m]
  | x::r,o+1,n,m=>by simp [catL,catL_eq r o n m]
theorem catA_eq (c:Array Value)(off n:Nat)(m:Array Value):(⟨catL c.toList off n m.toList⟩:Array Value)=c.extract off (off+n)++m:=by
  apply Array.ext'
  rw [catL_eq,Array.toList_append,Array.toList_extract,List.extract]
  simp
def appendZ (P:Program)(h:Hp)(ts tx:TypeId)(s x:Value)(k:Value→Hp→Option Out):Option Out :=
  match P.underlying ts,P.underlying tx with
  | some (.slice e),some d =>
    if intB d=true then none else
    match P.info? e,zeroB P e with
    | some inf,some z =>
      natF inf.size fun isz=>natF inf.bytes fun iby =>
      match s,lenB x with
      | .slice base sl sz,some n =>
        natF n fun n =>
        cond (decide (n=0)) (k (.slice base sl sz) h)
        (newC h.bl isz n x fun news =>
          cond (decide (news.size=n*isz)&&(oneAll news&&decide (z.cells.size=isz))) (cond (decide ((sl+n)*iby≤140737488355328)&&decide (sl+n≤4611686018427387904))
            (match base with
            | none=>cond (decide (sl=0)) (k (.slice (some ⟨h.bl.length,0,none⟩) n isz) (h.push (.cells news false))) none
            | some ⟨b,off,none⟩ =>
              match nthO h.bl b with
              | some (.cells c false) =>
                cond (decide (sz=isz)) (cond (decide (off+sl*isz≤c.size))
                  (k (.slice (some ⟨h.bl.length,0,none⟩) (sl+n) isz) ((h.put b .dead).push (.cells ⟨catL c.toList off (sl*isz) news.toList⟩ false))) none) none
              | _=>none
            | _=>none) none) none)
      | _,_=>none
    | _,_=>none
  | _,_=>none
theorem appendZ_eq:appendZ=appendC:=by
  funext P h ts tx s x k
  simp only [appendZ,appendC,catA_eq]
  rfl
def loudZ (P:Program) (ρ:Operand→Value)(h:Hp)(o:Oper)(k:Ends):Option Out :=
  match o.op with
  | .call { callee:=.builtin .append,args,argTypes } =>
    match args.toList,argTypes.toList with
    | [s,x],[ts,tx]=>if okO s&&okO x then appendZ P h ts tx (ρ s) (ρ x) k.val else none
    | _,_=>none
  | _=>loudC P ρ h o k
theorem loudZ_eq:loudZ=loudC:=by
  funext P ρ h o k
  unfold loudZ
  split
  · rename_i args ts ho
    unfold loudC;simp only [ho,appendZ_eq]
    rfl
  · rfl
def opDZ (P:Program)(self:SelfC)(T:List Value)(h:Hp)(o:Oper)(k:Value→Hp→Bool→Option Out):Option Out :=
  match o.op with
  | .pick c a b=>if okO c&&okO a&&okO b then (match evalT T c with | .bool t=>cond t (k (evalT T a) h false) (k (evalT T b) h false) | _=>none) else none
  | _ =>
    match symR P (evalT T) h.bl o with
    | some (b,v)=>cond b (k v h false) none
    | none=>match aread P (evalT T) h.bl o with
      | some v=>k v h false
      | none=>loudZ P (evalT T) h o {
        val:=fun v h'=>heapK h' fun h'=>k v h' true
        enter:=fun f args=>headsK args fun args=>self (.call f ⟨args⟩ h) fun | .ret v h'=>k v h' true | _=>none
        yield:=fun l args=>headsK args fun args=>self (.round l ⟨args⟩ h) fun | .ret v h'=>k v h' true | _=>none
        defer:=fun _=>none
        panic:=fun _=>none }
theorem opDZ_eq:opDZ=opD:=by
  funext P self T h o k
  simp only [opDZ,loudZ_eq]
  rfl
def drunZ (P:Program)(self:SelfC)(os:Array Oper):List Nat→List Value→Hp→(List Rec→List Value→Hp→Option Out)→Option Out
  | [],T,h,k=>k [] T h
  | i::r,T,h,k =>
    match os[i]? with
    | none=>none
    | some o =>
      guardC os o T
        (fun T=>opDZ P self T h o fun v h' loud=>headK v fun v=>setK' T o.dst v fun T'=>drunZ P self os r T' h' fun l T2 h2=>k (⟨i,o,T,v,h,h',loud⟩::l) T2 h2)
        (fun T=>setK' T o.dst undef fun T'=>drunZ P self os r T' h fun l T2 h2=>k (⟨i,o,T,undef,h,h,false⟩::l) T2 h2)
theorem drunZ_eq (P:Program)(self:SelfC)(os:Array Oper):∀l,drunZ P self os l=drunC P self os l
  | []=>rfl
  | i::r=>by
    funext T h k
    simp only [drunZ,drunC,drunZ_eq P self os r,opDZ_eq]
    rfl
def drawnFZ (P:Program)(self:SelfC)(os:Array Oper)(s:St)(k:Ex→St→Option Out):Option Out :=
  if planOk os (late os) (mkClo os (late os) (List.replicate os.size 0)) then
    drunZ P self os (late os) s.t s.h fun recs T h =>
      if floatOk (mkClo os (late os) (List.replicate os.size 0)) [] recs&&recs.all fun r=>!(r.loud&&isAlR r)||r.o.dst.all fun t=>decide (t<s.t.length) then
        fchkC P os (mkClo os (late os) (List.replicate os.size 0)) recs (k .normal { t:=T,d:=s.d,h:=h })
      else none
  else none
def drawnNZ (P:Program)(self:SelfC)(os:Array Oper)(s:St)(k:Ex→St→Option Out):Option Out :=
  if planOk os (Region.linearise .any os 0) (mkClo os (Region.linearise .any os 0) (List.replicate os.size 0)) then
    drunZ P self os (Region.linearise .any os 0) s.t s.h fun recs T h =>
      chkC P os (mkClo os (Region.linearise .any os 0) (List.replicate os.size 0)) recs (k .normal { t:=T,d:=s.d,h:=h })
  else none
def drawnXZ (P:Program)(self:SelfC)(os:Array Oper)(s:St)(k:Ex→St→Option Out):Option Out :=
  match floaty os (mkClo os (Region.linearise .any os 0) (List.replicate os.size 0)) with
  | true=>drawnFZ P self os s k
  | false=>drawnNZ P self os s k
theorem drawnXZ_eq:drawnXZ=drawnXC:=by
  funext P self os s k
  simp only [drawnXZ,drawnXC,drawnFZ,drawnFC,drawnNZ,drawnC,drunZ_eq]
  rfl
def opZ (P:Program) (ρ:Operand→Value)(h:Hp)(o:Oper)(k:Ends):Option Out :=
  match o.op with
  | .pick c a b=>if okO c&&okO a&&okO b then (match ρ c with | .bool t=>cond t (k.val (ρ a) h) (k.val (ρ b) h) | _=>none) else none
  | _ =>
    match symR P ρ h.bl o with
    | some (b,v)=>cond b (k.val v h) none
    | none=>match aread P ρ h.bl o with
      | some v=>k.val v h
      | none=>loudZ P ρ h o k.heap
theorem opZ_eq:opZ=opC:=by
  funext P ρ h o k
  simp only [opZ,loudZ_eq]
  rfl
def runOpsZ (P:Program)(self:SelfC)(rd:Option Nat)(os:Array Oper):List Nat→St→(Ex→St→Option Out)→Option Out
  | [],s,k=>k .normal s
  | i::r,s,k =>
    match os[i]? with
    | none=>runOpsZ P self rd os r s k
    | some o =>
      guardC os o s.t
        (fun t=>opZ P (evalT t) s.h o {
          val:=fun v h=>setK' t o.dst v fun t=>runOpsZ P self rd os r { t:=t,d:=s.d,h:=h } k
          enter:=fun f args=>headsK args fun args=>self (.call f ⟨args⟩ s.h) fun
            | .ret v h=>setK' t o.dst v fun t=>runOpsZ P self rd os r { t:=t,d:=s.d,h:=h } k
            | .pan v h=>k (.panic v) { t:=t,d:=s.d,h:=h }
            | _=>none
          yield:=fun l args=>headsK args fun args=>self (.round l ⟨args⟩ s.h) fun
            | .ret v h=>setK' t o.dst v fun t=>runOpsZ P self rd os r { t:=t,d:=s.d,h:=h } k
            | _=>none
          defer:=fun d=>if rd.isNone then setK' t o.dst undef fun t=>runOpsZ P self rd os r { t:=t,d:=d::s.d,h:=s.h } k else none
          panic:=fun v=>k (.panic v) { t:=t,d:=s.d,h:=s.h } })
        (fun t=>setK' t o.dst undef fun t=>runOpsZ P self rd os r { t:=t,d:=s.d,h:=s.h } k)
theorem runOpsZ_eq (P:Program)(self:SelfC)(rd:Option Nat)(os:Array Oper):∀l,runOpsZ P self rd os l=runOpsC P self rd os l
  | []=>rfl
  | i::r=>by
    funext s k
    simp only [runOpsZ,runOpsC,runOpsZ_eq P self rd os r,opZ_eq]
    rfl
def drawnWZ (P:Program)(self:SelfC)(rd:Option Nat)(os:Array Oper)(s:St)(k:Ex→St→Option Out):Option Out :=
  match waits os (os.size-1)&&Nat.blt 0 os.size with
  | true=>drawnXZ P self os.pop s fun e s'=>(match e with
    | .normal=>runOpsZ P self rd os [os.size-1] s' k
    | _=>none)
  | false=>drawnXZ P self os s k
theorem drawnWZ_ok {P:Program}{self:SelfC}{sd:Self}(hs:CpsOk self sd) {rd:Option Nat}{id:Nat}{os:Array Oper}{s:St}{k:Ex→St→Option Out}{r:Out}(hc:drawnWZ P self rd os s k=some r) :
    ∃e s',drawnW P sd rd id os s=some (.ex e s')∧k e s'=some r:=by
  unfold drawnWZ at hc;unfold drawnW
  by_cases hw:(waits os (os.size-1)&&Nat.blt 0 os.size)=true
  · rw [hw]at hc ⊢
    simp only [drawnXZ_eq]at hc;obtain ⟨e,s',h1,h2⟩:=drawnXC_ok (rd:=rd) (id:=id) hs hc;simp only [h1]
    cases e with
    | normal =>
      simp only at h2 ⊢;rw [runOpsZ_eq]at h2;exact runOpsC_ok hs h2
    | _=>cases h2
  · rw [Bool.eq_false_iff.2 hw]at hc ⊢
    simp only [drawnXZ_eq]at hc;exact drawnXC_ok hs hc
def stepZ (P:Program)(self:SelfC):SelfC:=fun t k=>match t with
  | .code rd (.region id os dr) s=>(match dr with
    | true=>drawnWZ P self rd os s fun e s'=>(match hasApp os with
      | true=>forceK k (.ex e s')
      | false=>k (.ex e s'))
    | false=>(match hasApp os with
      | true=>runOpsZ P self rd os (List.range os.size) s fun e s'=>forceK k (.ex e s')
      | false=>stepC P self (.code rd (.region id os false) s) k))
  | t=>stepC P self t k
theorem stepF_drawn {P:Program}{sd:Self}{t:Task}{d1 d2:Program→Self→Option Nat→Nat→Array Oper→St→Option Out}(h:∀rd id os s,t≠.code rd (.region id os true) s):stepF d1 P sd t=stepF d2 P sd t:=by
  cases t with
  | code rd c s =>
    cases c with
    | region id os dr =>
      cases dr with
      | true=>exact (h rd id os s rfl).elim
      | false=>rfl
    | _=>rfl
  | _=>rfl
theorem stepZ_ok {P:Program}{self:SelfC}{sd:Self}(hs:CpsOk self sd):CpsOk (stepZ P self) (stepF drawnW P sd):=by
  intro t k r hc;unfold stepZ at hc
  split at hc
  · rename_i rd id os dr s
    cases dr with
    | true =>
      simp only at hc;obtain ⟨e,s',h1,h2⟩:=drawnWZ_ok (id:=id) hs hc
      refine ⟨.ex e s',by simpa only [stepF,if_true] using h1,?_⟩
      split at h2
      · rw [forceK_eq]at h2;exact h2
      · exact h2
    | false =>
      simp only at hc
      split at hc
      · rw [runOpsZ_eq,forceK_eq]at hc
        obtain ⟨o,h1,h2⟩:=stepC_ok hs (.code rd (.region id os false) s) k r hc
        exact ⟨o,(stepF_drawn (fun _ _ _ _ h=>by cases h)).trans h1,h2⟩
      · obtain ⟨o,h1,h2⟩:=stepC_ok hs (.code rd (.region id os false) s) k r hc
        exact ⟨o,(stepF_drawn (fun _ _ _ _ h=>by cases h)).trans h1,h2⟩
  · rename_i hn
    obtain ⟨o,h1,h2⟩:=stepC_ok hs _ k r hc
    exact ⟨o,(stepF_drawn (fun rd id os s h=>hn rd id os true s h)).trans h1,h2⟩
def evZ (P:Program)(oc:Task→Kn→Option (Option Out)):Nat→SelfC
  | 0,_,_=>none
  | n+1,t,k=>match oc t k with
    | some r=>r
    | none=>stepZ P (evZ P oc n) t k
theorem evZ_ok {P:Program}{oc:Task→Kn→Option (Option Out)}{orc:Self}(ho:OcOk oc orc):∀n,CpsOk (evZ P oc n) (iterO orc drawnW P n)
  | 0=>fun _ _ _ h=>by cases h
  | n+1=>by
    intro t k r h;simp only [evZ]at h;simp only [iterO]
    split at h
    · rename_i r' hr
      subst h;obtain ⟨o,h1,h2⟩:=ho.1 _ _ _ hr;rw [h1];exact ⟨_,rfl,h2⟩
    · rename_i hr
      rw [ho.2 _ _ hr];exact stepZ_ok (evZ_ok ho n) t k r h
theorem Known.factZ {P:Program}(hN:NoNG P) (hm:P.follows .mixedOrders=true) {a:Ans}(hk:Known P a) {n:Nat}{t:Task}{k:Kn}{r:Out}(h:evZ P a.c n t k=some r):∃o,k o=some r∧Fact P t o:=by
  obtain ⟨o',h1,h2⟩:=evZ_ok (P:=P) a.oc n t k r h;have hh:=iterO_ok (drawn:=drawnW) hN (drawnW_ok hN hm) hk.selfOk hk.loopOk n
  refine ⟨o',h2,hh.1 _ _ h1,?_⟩
  unfold LoopFact
  split
  · exact fun hb=>hh.2 _ _ _ _ _ h1 hb
  · trivial
def CF.chk (P:Program)(l:List CF)(n:Nat)(c:CF):Bool:=match evZ P (tabA l).c n (.call c.g ⟨c.args⟩ ⟨[],0,[]⟩) frDK with
  | some (.ret u ⟨[],0,[]⟩)=>(match eqVn 12 u c.u with
    | true=>c.args.all pureA
    | false=>false)
  | _=>false
section
variable {P:Program}(hN:NoNG P) (hm:P.follows .mixedOrders=true)
include hN hm
theorem CF.of2 {l:List CF}(hl:CFs P l) (n:Nat) {c:CF}(h:c.chk P l n=true):c.Ok P:=by
  unfold CF.chk at h
  split at h
  · rename_i u he
    split at h
    · rename_i hu
      have e:=eqVn_eq hu;subst e;intro hp;obtain ⟨o,h3,hf⟩:=(tabA_ok hl).factZ hN hm he
      cases o with
      | ret v h' =>
        simp only [frDK]at h3
        split at h3
        · rename_i u hu
          simp only [Option.some.injEq,Out.ret.injEq,and_true]at h3;subst h3;exact hf.liftD hu h hp
        · cases h3
      | _=>cases h3
    · cases h
  · cases h
end
end
end Go.Gi
namespace Go.Proofs.Ytapeoolandmefaa
open Go.Gi Go.RowKit
theorem noNG_of {P : Program} (h : (P.funcs.toList.all fun fn=>!(fn.name == "runtime.NumGoroutine")) = true) : NoNG P:=by
  intro f fn hf _;rw [List.all_eq_true]at h
  have:=h fn (by rw [Array.mem_toList_iff];exact Array.mem_of_getElem? hf)
  simpa using this
theorem noNG:NoNG Try.prog:=noNG_of (by decide +kernel)
theorem mixed:Try.prog.follows .mixedOrders=true:=by decide +kernel
end Go.Proofs.Ytapeoolandmefaa
namespace Go.Proofs.Ytapeoolandmefaa.Old
end Go.Proofs.Ytapeoolandmefaa.Old
namespace Go.Proofs.Ytapeoolandmefaa
open Go.Gi Go.RowKit
noncomputable section
set_option maxRecDepth 100000
set_option maxHeartbeats 4000000
def wKnown0:Array Value:=⟨[.string ⟨⟨[102,97,114,109]⟩⟩,vI 2000,vI 5000,vI 0,vI 999,vI 100,.string ⟨⟨[108,97,107,101]⟩⟩,vI 2500,vI 2600,vI 1500,vI 1600,vJ 0]⟩
def wKnown1:Array Value:=⟨[vI 0,vI 2999,vI 0,vI 1999,vI 1000,lstV ⟨[vJ 999,vI 500,vI 1,vI 0,vI 200]⟩ 0 1 5,lstV wKnown0 0 2 6,vJ 1999,vI 500,vI 0,vI 100,vI 200,vI 10,vI 20]⟩
def wKnown2:Array Value:=⟨[.func (.func 134) ⟨[]⟩ ⟨[dptV ⟨[vJ 999,vI 500,vI 1,vI 0,vI 200]⟩ 0]⟩]⟩
def wKnown3:Array Value:=⟨[.func (.func 135) ⟨[]⟩ ⟨[dptV ⟨[vJ 999,vI 500,vI 1,vI 0,vI 200]⟩ 0]⟩]⟩
def wKnown4:Array Value:=⟨[dptV wKnown3 0,dptV ⟨[vJ 999,vI 500,vI 1,vI 0,vI 200]⟩ 0,dptV wKnown2 0]⟩
def wKnown5:Array Value:=⟨[.func (.func 136) ⟨[]⟩ ⟨[dptV wKnown2 0]⟩,.func (.func 137) ⟨[]⟩ wKnown4,.func (.func 138) ⟨[]⟩ wKnown4]⟩
def wKnown6:Array Value:=⟨[vI 0,vI 999,vI 0,vI 999,vI 0,vI 1000,vI 1999,vI 0,vI 999,vI 0,vI 2000,vI 2999,vI 0,vI 999,vI 100,vI 1000,vI 1999,vI 1000,vI 1999,vI 0,vI 2000,vI 2999,vI 1000,vI 1999,vJ 0]⟩
def wKnown7:Array Value:=⟨[vI 0,vI 25,vI 35,vI 1,vI 45,vI 55,vI 3,vI 65,vI 75,vI 2,vI 100,vI 110,vJ 0,vI 155,vI 175]⟩
def wKnown8:Array Value:=⟨[vI 0,vI 2999,vI 0,vI 1999,vI 1000,lstV ⟨[vJ 999,vI 500,vI 1,vI 0,vI 200]⟩ 0 1 5,lstV wKnown0 0 2 6,vJ 1999,vI 500,vI 0,vI 100,vI 150,vI 10,vI 20]⟩
def wKnown9:Array Value:=⟨[vI 0,vI 25,vI 35,vI 1,vI 45,vI 55,vI 3,vI 65,vI 75,vJ 0,vI 112,vI 132,vI 2,vI 177,vI 187,vJ 0,vI 232,vI 252]⟩
def wKnown10:Array Value:=⟨[vI 0,vI 2999,vI 0,vI 1999,vI 1000,lstV ⟨[vJ 999,vI 500,vI 1,vI 0,vI 200]⟩ 0 1 5,lstV wKnown0 0 2 6,vJ 1999,vI 500,vI 0,vI 100,vI 99,vI 10,vI 20]⟩
def wKnown11:Array Value:=⟨[vI 0,vI 25,vI 35,vI 1,vI 45,vI 55,vJ 0,vI 90,vI 110,vI 3,vI 147,vI 157,vJ 0,vI 194,vI 214]⟩
def wKnown12:Array Value:=⟨[.agg ⟨[lstV wKnown11 0 5 3,lstV ⟨[vI 2,vI 2,vI 4,vI 1]⟩ 0 2 2]⟩,vI 0]⟩
def wKnown13:Array Value:=⟨[vI 0,vI 200000,vI 600,vI 780,vJ 149,vI 80,vI 200000,vI 1000000,vI 640,vI 740,vJ 109,vI 240]⟩
def wKnown14:Array Value:=⟨[.agg ⟨[vI 184000000,vI 230000000]⟩,.agg ⟨[vJ 40999999,vI 40000000]⟩]⟩
def wKnown15:Array Value:=⟨[.agg ⟨[vI 0,vI 3066666,vI 4601000,vJ 819999,vI 801000,vI 5500,vI 6510]⟩,vI 0]⟩
def KKnown0:CF:=⟨38,[vI 0,vI 2999],.agg ⟨[vI 0,vI 2999]⟩⟩
theorem kKnown0:KKnown0.Ok Try.prog:=CF.of2 noNG mixed (l:=[]) .nil 3000 (by kernel_rfl)
def KKnown1:CF:=⟨38,[vI 0,vI 1999],.agg ⟨[vI 0,vI 1999]⟩⟩
theorem kKnown1:KKnown1.Ok Try.prog:=CF.of2 noNG mixed (l:=[]) .nil 3000 (by kernel_rfl)
def KKnown2:CF:=⟨23,[vI 0,vI 2999,vI 0,vI 1999],.agg ⟨[vI 0,vI 2999,vI 0,vI 1999]⟩⟩
theorem kKnown2:KKnown2.Ok Try.prog:=CF.of2 noNG mixed (l:=[KKnown0,KKnown1]) (.cons kKnown0 (.cons kKnown1 .nil)) 3000 (by kernel_rfl)
def KKnown3:CF:=⟨38,[vI 2000,vI 5000],.agg ⟨[vI 2000,vI 5000]⟩⟩
theorem kKnown3:KKnown3.Ok Try.prog:=CF.of2 noNG mixed (l:=[]) .nil 3000 (by kernel_rfl)
def KKnown4:CF:=⟨38,[vI 0,vI 999],.agg ⟨[vI 0,vI 999]⟩⟩
theorem kKnown4:KKnown4.Ok Try.prog:=CF.of2 noNG mixed (l:=[]) .nil 3000 (by kernel_rfl)
def KKnown5:CF:=⟨23,[vI 2000,vI 5000,vI 0,vI 999],.agg ⟨[vI 2000,vI 5000,vI 0,vI 999]⟩⟩
theorem kKnown5:KKnown5.Ok Try.prog:=CF.of2 noNG mixed (l:=[KKnown3,KKnown4]) (.cons kKnown3 (.cons kKnown4 .nil)) 3000 (by kernel_rfl)
def KKnown6:CF:=⟨38,[vI 2500,vI 2600],.agg ⟨[vI 2500,vI 2600]⟩⟩
theorem kKnown6:KKnown6.Ok Try.prog:=CF.of2 noNG mixed (l:=[]) .nil 3000 (by kernel_rfl)
def KKnown7:CF:=⟨38,[vI 1500,vI 1600],.agg ⟨[vI 1500,vI 1600]⟩⟩
theorem kKnown7:KKnown7.Ok Try.prog:=CF.of2 noNG mixed (l:=[]) .nil 3000 (by kernel_rfl)
def KKnown8:CF:=⟨23,[vI 2500,vI 2600,vI 1500,vI 1600],.agg ⟨[vI 2500,vI 2600,vI 1500,vI 1600]⟩⟩
theorem kKnown8:KKnown8.Ok Try.prog:=CF.of2 noNG mixed (l:=[KKnown6,KKnown7]) (.cons kKnown6 (.cons kKnown7 .nil)) 3000 (by kernel_rfl)
def KKnown9:CF:=⟨20,[],.agg wKnown1⟩
theorem kKnown9:KKnown9.Ok Try.prog:=CF.of2 noNG mixed (l:=[KKnown8,KKnown2,KKnown5]) (.cons kKnown8 (.cons kKnown2 (.cons kKnown5 .nil))) 3000 (by kernel_rfl)
def KKnown10:CF:=⟨41,[.agg ⟨[vI 0,vI 2999]⟩,vJ 99999999,vI 100000000],vT⟩
theorem kKnown10:KKnown10.Ok Try.prog:=CF.of2 noNG mixed (l:=[]) .nil 3000 (by kernel_rfl)
def KKnown11:CF:=⟨41,[.agg ⟨[vI 0,vI 1999]⟩,vJ 99999999,vI 100000000],vT⟩
theorem kKnown11:KKnown11.Ok Try.prog:=CF.of2 noNG mixed (l:=[]) .nil 3000 (by kernel_rfl)
def KKnown12:CF:=⟨81,[.agg ⟨[vI 0,vI 2999,vI 0,vI 1999]⟩],vT⟩
theorem kKnown12:KKnown12.Ok Try.prog:=CF.of2 noNG mixed (l:=[KKnown10,KKnown11]) (.cons kKnown10 (.cons kKnown11 .nil)) 3000 (by kernel_rfl)
def KKnown13:CF:=⟨40,[vI 1000,vI 1,vI 100000000],vT⟩
theorem kKnown13:KKnown13.Ok Try.prog:=CF.of2 noNG mixed (l:=[]) .nil 3000 (by kernel_rfl)
def KKnown14:CF:=⟨82,[.agg ⟨[vI 0,vI 2999]⟩,vI 1000],vI 3⟩
theorem kKnown14:KKnown14.Ok Try.prog:=CF.of2 noNG mixed (l:=[]) .nil 3000 (by kernel_rfl)
def KKnown15:CF:=⟨82,[.agg ⟨[vI 0,vI 1999]⟩,vI 1000],vI 2⟩
theorem kKnown15:KKnown15.Ok Try.prog:=CF.of2 noNG mixed (l:=[]) .nil 3000 (by kernel_rfl)
def KKnown16:CF:=⟨57,[.agg wKnown1],vI 0⟩
theorem kKnown16:KKnown16.Ok Try.prog:=CF.of2 noNG mixed (l:=[KKnown12,KKnown13,KKnown14,KKnown15]) (.cons kKnown12 (.cons kKnown13 (.cons kKnown14 (.cons kKnown15 .nil)))) 3000 (by kernel_rfl)
def KKnown17:CF:=⟨40,[vJ 999,vJ 99999999,vI 100000000],vT⟩
theorem kKnown17:KKnown17.Ok Try.prog:=CF.of2 noNG mixed (l:=[]) .nil 3000 (by kernel_rfl)
def KKnown18:CF:=⟨90,[vJ 999],vT⟩
theorem kKnown18:KKnown18.Ok Try.prog:=CF.of2 noNG mixed (l:=[KKnown17]) (.cons kKnown17 .nil) 3000 (by kernel_rfl)
def KKnown19:CF:=⟨40,[vI 500,vJ 99999999,vI 100000000],vT⟩
theorem kKnown19:KKnown19.Ok Try.prog:=CF.of2 noNG mixed (l:=[]) .nil 3000 (by kernel_rfl)
def KKnown20:CF:=⟨90,[vI 500],vT⟩
theorem kKnown20:KKnown20.Ok Try.prog:=CF.of2 noNG mixed (l:=[KKnown19]) (.cons kKnown19 .nil) 3000 (by kernel_rfl)
def KKnown21:CF:=⟨40,[vI 1,vJ 999,vI 1000],vT⟩
theorem kKnown21:KKnown21.Ok Try.prog:=CF.of2 noNG mixed (l:=[]) .nil 3000 (by kernel_rfl)
def KKnown22:CF:=⟨104,[vI 1],vT⟩
theorem kKnown22:KKnown22.Ok Try.prog:=CF.of2 noNG mixed (l:=[KKnown21]) (.cons kKnown21 .nil) 3000 (by kernel_rfl)
def KKnown23:CF:=⟨40,[vI 0,vJ 999,vI 1000],vT⟩
theorem kKnown23:KKnown23.Ok Try.prog:=CF.of2 noNG mixed (l:=[]) .nil 3000 (by kernel_rfl)
def KKnown24:CF:=⟨104,[vI 0],vT⟩
theorem kKnown24:KKnown24.Ok Try.prog:=CF.of2 noNG mixed (l:=[KKnown23]) (.cons kKnown23 .nil) 3000 (by kernel_rfl)
def KKnown25:CF:=⟨40,[vI 200,vI 0,vI 2000],vT⟩
theorem kKnown25:KKnown25.Ok Try.prog:=CF.of2 noNG mixed (l:=[]) .nil 3000 (by kernel_rfl)
def KKnown26:CF:=⟨83,[.agg ⟨[vJ 999,vI 500,vI 1,vI 0,vI 200]⟩],vI 0⟩
theorem kKnown26:KKnown26.Ok Try.prog:=CF.of2 noNG mixed (l:=[KKnown18,KKnown20,KKnown22,KKnown24,KKnown25]) (.cons kKnown18 (.cons kKnown20 (.cons kKnown22 (.cons kKnown24 (.cons kKnown25 .nil))))) 3000 (by kernel_rfl)
def KKnown27:CF:=⟨58,[lstV ⟨[vJ 999,vI 500,vI 1,vI 0,vI 200]⟩ 0 1 5],.tuple ⟨[vI 0,vI 0]⟩⟩
theorem kKnown27:KKnown27.Ok Try.prog:=CF.of2 noNG mixed (l:=[KKnown26]) (.cons kKnown26 .nil) 3000 (by kernel_rfl)
def KKnown28:CF:=⟨124,[.int .u8 (.ofNat 102)],vT⟩
theorem kKnown28:KKnown28.Ok Try.prog:=CF.of2 noNG mixed (l:=[]) .nil 3000 (by kernel_rfl)
def KKnown29:CF:=⟨124,[.int .u8 (.ofNat 97)],vT⟩
theorem kKnown29:KKnown29.Ok Try.prog:=CF.of2 noNG mixed (l:=[]) .nil 3000 (by kernel_rfl)
def KKnown30:CF:=⟨124,[.int .u8 (.ofNat 114)],vT⟩
theorem kKnown30:KKnown30.Ok Try.prog:=CF.of2 noNG mixed (l:=[]) .nil 3000 (by kernel_rfl)
def KKnown31:CF:=⟨124,[.int .u8 (.ofNat 109)],vT⟩
theorem kKnown31:KKnown31.Ok Try.prog:=CF.of2 noNG mixed (l:=[]) .nil 3000 (by kernel_rfl)
def KKnown32:CF:=⟨105,[.string ⟨⟨[102,97,114,109]⟩⟩],vT⟩
theorem kKnown32:KKnown32.Ok Try.prog:=CF.of2 noNG mixed (l:=[KKnown28,KKnown29,KKnown30,KKnown31]) (.cons kKnown28 (.cons kKnown29 (.cons kKnown30 (.cons kKnown31 .nil)))) 3000 (by kernel_rfl)
def KKnown33:CF:=⟨41,[.agg ⟨[vI 2000,vI 5000]⟩,vJ 99999999,vI 100000000],vT⟩
theorem kKnown33:KKnown33.Ok Try.prog:=CF.of2 noNG mixed (l:=[]) .nil 3000 (by kernel_rfl)
def KKnown34:CF:=⟨41,[.agg ⟨[vI 0,vI 999]⟩,vJ 99999999,vI 100000000],vT⟩
theorem kKnown34:KKnown34.Ok Try.prog:=CF.of2 noNG mixed (l:=[]) .nil 3000 (by kernel_rfl)
def KKnown35:CF:=⟨81,[.agg ⟨[vI 2000,vI 5000,vI 0,vI 999]⟩],vT⟩
theorem kKnown35:KKnown35.Ok Try.prog:=CF.of2 noNG mixed (l:=[KKnown33,KKnown34]) (.cons kKnown33 (.cons kKnown34 .nil)) 3000 (by kernel_rfl)
def KKnown36:CF:=⟨40,[vI 100,vI 0,vI 100000],vT⟩
theorem kKnown36:KKnown36.Ok Try.prog:=CF.of2 noNG mixed (l:=[]) .nil 3000 (by kernel_rfl)
def KKnown37:CF:=⟨85,[vI 100],vT⟩
theorem kKnown37:KKnown37.Ok Try.prog:=CF.of2 noNG mixed (l:=[KKnown36]) (.cons kKnown36 .nil) 3000 (by kernel_rfl)
def KKnown38:CF:=⟨84,[.agg ⟨[.string ⟨⟨[102,97,114,109]⟩⟩,vI 2000,vI 5000,vI 0,vI 999,vI 100]⟩,lstV wKnown0 0 0 6],vI 0⟩
theorem kKnown38:KKnown38.Ok Try.prog:=CF.of2 noNG mixed (l:=[KKnown32,KKnown35,KKnown37]) (.cons kKnown32 (.cons kKnown35 (.cons kKnown37 .nil))) 3000 (by kernel_rfl)
def KKnown39:CF:=⟨124,[.int .u8 (.ofNat 108)],vT⟩
theorem kKnown39:KKnown39.Ok Try.prog:=CF.of2 noNG mixed (l:=[]) .nil 3000 (by kernel_rfl)
def KKnown40:CF:=⟨124,[.int .u8 (.ofNat 107)],vT⟩
theorem kKnown40:KKnown40.Ok Try.prog:=CF.of2 noNG mixed (l:=[]) .nil 3000 (by kernel_rfl)
def KKnown41:CF:=⟨124,[.int .u8 (.ofNat 101)],vT⟩
theorem kKnown41:KKnown41.Ok Try.prog:=CF.of2 noNG mixed (l:=[]) .nil 3000 (by kernel_rfl)
def KKnown42:CF:=⟨105,[.string ⟨⟨[108,97,107,101]⟩⟩],vT⟩
theorem kKnown42:KKnown42.Ok Try.prog:=CF.of2 noNG mixed (l:=[KKnown40,KKnown41,KKnown29,KKnown39]) (.cons kKnown40 (.cons kKnown41 (.cons kKnown29 (.cons kKnown39 .nil)))) 3000 (by kernel_rfl)
def KKnown43:CF:=⟨41,[.agg ⟨[vI 2500,vI 2600]⟩,vJ 99999999,vI 100000000],vT⟩
theorem kKnown43:KKnown43.Ok Try.prog:=CF.of2 noNG mixed (l:=[]) .nil 3000 (by kernel_rfl)
def KKnown44:CF:=⟨41,[.agg ⟨[vI 1500,vI 1600]⟩,vJ 99999999,vI 100000000],vT⟩
theorem kKnown44:KKnown44.Ok Try.prog:=CF.of2 noNG mixed (l:=[]) .nil 3000 (by kernel_rfl)
def KKnown45:CF:=⟨81,[.agg ⟨[vI 2500,vI 2600,vI 1500,vI 1600]⟩],vT⟩
theorem kKnown45:KKnown45.Ok Try.prog:=CF.of2 noNG mixed (l:=[KKnown43,KKnown44]) (.cons kKnown43 (.cons kKnown44 .nil)) 3000 (by kernel_rfl)
def KKnown46:CF:=⟨40,[vJ 0,vI 0,vI 100000],vF⟩
theorem kKnown46:KKnown46.Ok Try.prog:=CF.of2 noNG mixed (l:=[]) .nil 3000 (by kernel_rfl)
def KKnown47:CF:=⟨85,[vJ 0],vF⟩
theorem kKnown47:KKnown47.Ok Try.prog:=CF.of2 noNG mixed (l:=[KKnown46]) (.cons kKnown46 .nil) 3000 (by kernel_rfl)
def KKnown48:CF:=⟨84,[.agg ⟨[.string ⟨⟨[108,97,107,101]⟩⟩,vI 2500,vI 2600,vI 1500,vI 1600,vJ 0]⟩,lstV wKnown0 0 1 6],vI 0⟩
theorem kKnown48:KKnown48.Ok Try.prog:=CF.of2 noNG mixed (l:=[KKnown42,KKnown45,KKnown47]) (.cons kKnown42 (.cons kKnown45 (.cons kKnown47 .nil))) 3000 (by kernel_rfl)
def KKnown49:CF:=⟨59,[lstV wKnown0 0 2 6],.tuple ⟨[vI 0,vI 0]⟩⟩
theorem kKnown49:KKnown49.Ok Try.prog:=CF.of2 noNG mixed (l:=[KKnown48,KKnown38]) (.cons kKnown48 (.cons kKnown38 .nil)) 3000 (by kernel_rfl)
def KKnown50:CF:=⟨40,[vJ 1999,vJ 99999999,vI 100000000],vT⟩
theorem kKnown50:KKnown50.Ok Try.prog:=CF.of2 noNG mixed (l:=[]) .nil 3000 (by kernel_rfl)
def KKnown51:CF:=⟨90,[vJ 1999],vT⟩
theorem kKnown51:KKnown51.Ok Try.prog:=CF.of2 noNG mixed (l:=[KKnown50]) (.cons kKnown50 .nil) 3000 (by kernel_rfl)
def KKnown52:CF:=⟨67,[.agg ⟨[vJ 1999,vI 500]⟩],vT⟩
theorem kKnown52:KKnown52.Ok Try.prog:=CF.of2 noNG mixed (l:=[KKnown51,KKnown20]) (.cons kKnown51 (.cons kKnown20 .nil)) 3000 (by kernel_rfl)
def KKnown53:CF:=⟨40,[vI 0,vI 0,vI 100000],vT⟩
theorem kKnown53:KKnown53.Ok Try.prog:=CF.of2 noNG mixed (l:=[]) .nil 3000 (by kernel_rfl)
def KKnown54:CF:=⟨85,[vI 0],vT⟩
theorem kKnown54:KKnown54.Ok Try.prog:=CF.of2 noNG mixed (l:=[KKnown53]) (.cons kKnown53 .nil) 3000 (by kernel_rfl)
def KKnown55:CF:=⟨40,[vI 100,vI 1,vI 1000000],vT⟩
theorem kKnown55:KKnown55.Ok Try.prog:=CF.of2 noNG mixed (l:=[]) .nil 3000 (by kernel_rfl)
def KKnown56:CF:=⟨40,[vI 200,vI 1,vI 100000],vT⟩
theorem kKnown56:KKnown56.Ok Try.prog:=CF.of2 noNG mixed (l:=[]) .nil 3000 (by kernel_rfl)
def KKnown57:CF:=⟨40,[vI 10,vI 1,vI 6000],vT⟩
theorem kKnown57:KKnown57.Ok Try.prog:=CF.of2 noNG mixed (l:=[]) .nil 3000 (by kernel_rfl)
def KKnown58:CF:=⟨40,[vI 20,vI 0,vI 6000],vT⟩
theorem kKnown58:KKnown58.Ok Try.prog:=CF.of2 noNG mixed (l:=[]) .nil 3000 (by kernel_rfl)
def KKnown59:CF:=⟨60,[.agg wKnown1],vT⟩
theorem kKnown59:KKnown59.Ok Try.prog:=CF.of2 noNG mixed (l:=[KKnown52,KKnown54,KKnown55,KKnown56,KKnown57,KKnown58]) (.cons kKnown52 (.cons kKnown54 (.cons kKnown55 (.cons kKnown56 (.cons kKnown57 (.cons kKnown58 .nil)))))) 3000 (by kernel_rfl)
def KKnown60:CF:=⟨18,[.agg wKnown1],.tuple ⟨[vI 0,vI 0,vI 0]⟩⟩
theorem kKnown60:KKnown60.Ok Try.prog:=CF.of2 noNG mixed (l:=[KKnown16,KKnown49,KKnown27,KKnown59]) (.cons kKnown16 (.cons kKnown49 (.cons kKnown27 (.cons kKnown59 .nil)))) 3000 (by kernel_rfl)
def KKnown61:CF:=⟨87,[.agg ⟨[vI 0,vI 2999]⟩,vI 1000,vI 0],.agg ⟨[vI 0,vI 999]⟩⟩
theorem kKnown61:KKnown61.Ok Try.prog:=CF.of2 noNG mixed (l:=[]) .nil 3000 (by kernel_rfl)
def KKnown62:CF:=⟨87,[.agg ⟨[vI 0,vI 1999]⟩,vI 1000,vI 0],.agg ⟨[vI 0,vI 999]⟩⟩
theorem kKnown62:KKnown62.Ok Try.prog:=CF.of2 noNG mixed (l:=[]) .nil 3000 (by kernel_rfl)
def KKnown63:CF:=⟨127,[.agg ⟨[vJ 999,vI 500,vI 1,vI 0,vI 200]⟩],.agg wKnown5⟩
theorem kKnown63:KKnown63.Ok Try.prog:=CF.of2 noNG mixed (l:=[]) .nil 3000 (by kernel_rfl)
def KKnown64:CF:=⟨139,[.agg ⟨[vI 0,vI 999,vI 0,vI 999]⟩],.func (.func 141) ⟨[]⟩ ⟨[dptV ⟨[vI 0,vI 999,vI 0,vI 999]⟩ 0]⟩⟩
theorem kKnown64:KKnown64.Ok Try.prog:=CF.of2 noNG mixed (l:=[]) .nil 3000 (by kernel_rfl)
def KKnown65:CF:=⟨134,[.agg ⟨[vI 0,vI 0]⟩,dptV ⟨[vJ 999,vI 500,vI 1,vI 0,vI 200]⟩ 0],vI 1000⟩
theorem kKnown65:KKnown65.Ok Try.prog:=CF.of2 noNG mixed (l:=[]) .nil 3000 (by kernel_rfl)
def KKnown66:CF:=⟨136,[.agg ⟨[vI 0,vI 0]⟩,dptV wKnown2 0],vT⟩
theorem kKnown66:KKnown66.Ok Try.prog:=CF.of2 noNG mixed (l:=[KKnown65]) (.cons kKnown65 .nil) 3000 (by kernel_rfl)
def KKnown67:CF:=⟨128,[.agg ⟨[vI 0,vI 999,vI 0,vI 999]⟩,.func (.func 136) ⟨[]⟩ ⟨[dptV wKnown2 0]⟩],vT⟩
theorem kKnown67:KKnown67.Ok Try.prog:=CF.of2 noNG mixed (l:=[KKnown64,KKnown66]) (.cons kKnown64 (.cons kKnown66 .nil)) 3000 (by kernel_rfl)
def KKnown68:CF:=⟨135,[.agg ⟨[vI 0,vI 0]⟩,dptV ⟨[vJ 999,vI 500,vI 1,vI 0,vI 200]⟩ 0],vJ 499⟩
theorem kKnown68:KKnown68.Ok Try.prog:=CF.of2 noNG mixed (l:=[]) .nil 3000 (by kernel_rfl)
def KKnown69:CF:=⟨137,[.agg ⟨[vI 0,vI 0]⟩,dptV wKnown3 0,dptV ⟨[vJ 999,vI 500,vI 1,vI 0,vI 200]⟩ 0,dptV wKnown2 0],vT⟩
theorem kKnown69:KKnown69.Ok Try.prog:=CF.of2 noNG mixed (l:=[KKnown65,KKnown68]) (.cons kKnown65 (.cons kKnown68 .nil)) 3000 (by kernel_rfl)
def KKnown70:CF:=⟨128,[.agg ⟨[vI 0,vI 999,vI 0,vI 999]⟩,.func (.func 137) ⟨[]⟩ wKnown4],vT⟩
theorem kKnown70:KKnown70.Ok Try.prog:=CF.of2 noNG mixed (l:=[KKnown64,KKnown69]) (.cons kKnown64 (.cons kKnown69 .nil)) 3000 (by kernel_rfl)
def KKnown71:CF:=⟨138,[.agg ⟨[vI 0,vI 0]⟩,dptV wKnown3 0,dptV ⟨[vJ 999,vI 500,vI 1,vI 0,vI 200]⟩ 0,dptV wKnown2 0],vF⟩
theorem kKnown71:KKnown71.Ok Try.prog:=CF.of2 noNG mixed (l:=[KKnown65,KKnown68]) (.cons kKnown65 (.cons kKnown68 .nil)) 3000 (by kernel_rfl)
def KKnown72:CF:=⟨135,[.agg ⟨[vI 999,vI 0]⟩,dptV ⟨[vJ 999,vI 500,vI 1,vI 0,vI 200]⟩ 0],vJ 499⟩
theorem kKnown72:KKnown72.Ok Try.prog:=CF.of2 noNG mixed (l:=[]) .nil 3000 (by kernel_rfl)
def KKnown73:CF:=⟨134,[.agg ⟨[vI 999,vI 0]⟩,dptV ⟨[vJ 999,vI 500,vI 1,vI 0,vI 200]⟩ 0],vI 1999⟩
theorem kKnown73:KKnown73.Ok Try.prog:=CF.of2 noNG mixed (l:=[]) .nil 3000 (by kernel_rfl)
def KKnown74:CF:=⟨138,[.agg ⟨[vI 999,vI 0]⟩,dptV wKnown3 0,dptV ⟨[vJ 999,vI 500,vI 1,vI 0,vI 200]⟩ 0,dptV wKnown2 0],vF⟩
theorem kKnown74:KKnown74.Ok Try.prog:=CF.of2 noNG mixed (l:=[KKnown72,KKnown73]) (.cons kKnown72 (.cons kKnown73 .nil)) 3000 (by kernel_rfl)
def KKnown75:CF:=⟨135,[.agg ⟨[vI 0,vI 999]⟩,dptV ⟨[vJ 999,vI 500,vI 1,vI 0,vI 200]⟩ 0],vI 499⟩
theorem kKnown75:KKnown75.Ok Try.prog:=CF.of2 noNG mixed (l:=[]) .nil 3000 (by kernel_rfl)
def KKnown76:CF:=⟨134,[.agg ⟨[vI 0,vI 999]⟩,dptV ⟨[vJ 999,vI 500,vI 1,vI 0,vI 200]⟩ 0],vI 1000⟩
theorem kKnown76:KKnown76.Ok Try.prog:=CF.of2 noNG mixed (l:=[]) .nil 3000 (by kernel_rfl)
def KKnown77:CF:=⟨138,[.agg ⟨[vI 0,vI 999]⟩,dptV wKnown3 0,dptV ⟨[vJ 999,vI 500,vI 1,vI 0,vI 200]⟩ 0,dptV wKnown2 0],vT⟩
theorem kKnown77:KKnown77.Ok Try.prog:=CF.of2 noNG mixed (l:=[KKnown75,KKnown76]) (.cons kKnown75 (.cons kKnown76 .nil)) 3000 (by kernel_rfl)
def KKnown78:CF:=⟨128,[.agg ⟨[vI 0,vI 999,vI 0,vI 999]⟩,.func (.func 138) ⟨[]⟩ wKnown4],vT⟩
theorem kKnown78:KKnown78.Ok Try.prog:=CF.of2 noNG mixed (l:=[KKnown64,KKnown74,KKnown77,KKnown71]) (.cons kKnown64 (.cons kKnown74 (.cons kKnown77 (.cons kKnown71 .nil)))) 3000 (by kernel_rfl)
def KKnown79:CF:=⟨108,[.agg ⟨[vJ 999,vI 500,vI 1,vI 0,vI 200]⟩,.agg ⟨[vI 0,vI 999,vI 0,vI 999]⟩],vF⟩
theorem kKnown79:KKnown79.Ok Try.prog:=CF.of2 noNG mixed (l:=[KKnown78,KKnown67,KKnown70,KKnown63]) (.cons kKnown78 (.cons kKnown67 (.cons kKnown70 (.cons kKnown63 .nil)))) 3000 (by kernel_rfl)
def KKnown80:CF:=⟨88,[.agg wKnown1,.agg ⟨[vI 0,vI 999,vI 0,vI 999]⟩],vF⟩
theorem kKnown80:KKnown80.Ok Try.prog:=CF.of2 noNG mixed (l:=[KKnown79]) (.cons kKnown79 .nil) 3000 (by kernel_rfl)
def KKnown81:CF:=⟨129,[.agg ⟨[vI 2000,vI 5000]⟩,.agg ⟨[vI 0,vI 999]⟩],vF⟩
theorem kKnown81:KKnown81.Ok Try.prog:=CF.of2 noNG mixed (l:=[]) .nil 3000 (by kernel_rfl)
def KKnown82:CF:=⟨109,[.agg ⟨[vI 2000,vI 5000,vI 0,vI 999]⟩,.agg ⟨[vI 0,vI 999,vI 0,vI 999]⟩],vF⟩
theorem kKnown82:KKnown82.Ok Try.prog:=CF.of2 noNG mixed (l:=[KKnown81]) (.cons kKnown81 .nil) 3000 (by kernel_rfl)
def KKnown83:CF:=⟨129,[.agg ⟨[vI 2500,vI 2600]⟩,.agg ⟨[vI 0,vI 999]⟩],vF⟩
theorem kKnown83:KKnown83.Ok Try.prog:=CF.of2 noNG mixed (l:=[]) .nil 3000 (by kernel_rfl)
def KKnown84:CF:=⟨109,[.agg ⟨[vI 2500,vI 2600,vI 1500,vI 1600]⟩,.agg ⟨[vI 0,vI 999,vI 0,vI 999]⟩],vF⟩
theorem kKnown84:KKnown84.Ok Try.prog:=CF.of2 noNG mixed (l:=[KKnown83]) (.cons kKnown83 .nil) 3000 (by kernel_rfl)
def KKnown85:CF:=⟨89,[.agg wKnown1,.agg ⟨[vI 0,vI 999,vI 0,vI 999]⟩],vI 0⟩
theorem kKnown85:KKnown85.Ok Try.prog:=CF.of2 noNG mixed (l:=[KKnown82,KKnown84]) (.cons kKnown82 (.cons kKnown84 .nil)) 3000 (by kernel_rfl)
def KKnown86:CF:=⟨87,[.agg ⟨[vI 0,vI 2999]⟩,vI 1000,vI 1],.agg ⟨[vI 1000,vI 1999]⟩⟩
theorem kKnown86:KKnown86.Ok Try.prog:=CF.of2 noNG mixed (l:=[]) .nil 3000 (by kernel_rfl)
def KKnown87:CF:=⟨139,[.agg ⟨[vI 1000,vI 1999,vI 0,vI 999]⟩],.func (.func 141) ⟨[]⟩ ⟨[dptV ⟨[vI 1000,vI 1999,vI 0,vI 999]⟩ 0]⟩⟩
theorem kKnown87:KKnown87.Ok Try.prog:=CF.of2 noNG mixed (l:=[]) .nil 3000 (by kernel_rfl)
def KKnown88:CF:=⟨134,[.agg ⟨[vI 1000,vI 0]⟩,dptV ⟨[vJ 999,vI 500,vI 1,vI 0,vI 200]⟩ 0],vI 2000⟩
theorem kKnown88:KKnown88.Ok Try.prog:=CF.of2 noNG mixed (l:=[]) .nil 3000 (by kernel_rfl)
def KKnown89:CF:=⟨136,[.agg ⟨[vI 1000,vI 0]⟩,dptV wKnown2 0],vT⟩
theorem kKnown89:KKnown89.Ok Try.prog:=CF.of2 noNG mixed (l:=[KKnown88]) (.cons kKnown88 .nil) 3000 (by kernel_rfl)
def KKnown90:CF:=⟨128,[.agg ⟨[vI 1000,vI 1999,vI 0,vI 999]⟩,.func (.func 136) ⟨[]⟩ ⟨[dptV wKnown2 0]⟩],vT⟩
theorem kKnown90:KKnown90.Ok Try.prog:=CF.of2 noNG mixed (l:=[KKnown89,KKnown87]) (.cons kKnown89 (.cons kKnown87 .nil)) 3000 (by kernel_rfl)
def KKnown91:CF:=⟨135,[.agg ⟨[vI 1000,vI 0]⟩,dptV ⟨[vJ 999,vI 500,vI 1,vI 0,vI 200]⟩ 0],vJ 499⟩
theorem kKnown91:KKnown91.Ok Try.prog:=CF.of2 noNG mixed (l:=[]) .nil 3000 (by kernel_rfl)
def KKnown92:CF:=⟨137,[.agg ⟨[vI 1000,vI 0]⟩,dptV wKnown3 0,dptV ⟨[vJ 999,vI 500,vI 1,vI 0,vI 200]⟩ 0,dptV wKnown2 0],vT⟩
theorem kKnown92:KKnown92.Ok Try.prog:=CF.of2 noNG mixed (l:=[KKnown88,KKnown91]) (.cons kKnown88 (.cons kKnown91 .nil)) 3000 (by kernel_rfl)
def KKnown93:CF:=⟨128,[.agg ⟨[vI 1000,vI 1999,vI 0,vI 999]⟩,.func (.func 137) ⟨[]⟩ wKnown4],vT⟩
theorem kKnown93:KKnown93.Ok Try.prog:=CF.of2 noNG mixed (l:=[KKnown92,KKnown87]) (.cons kKnown92 (.cons kKnown87 .nil)) 3000 (by kernel_rfl)
def KKnown94:CF:=⟨138,[.agg ⟨[vI 1000,vI 0]⟩,dptV wKnown3 0,dptV ⟨[vJ 999,vI 500,vI 1,vI 0,vI 200]⟩ 0,dptV wKnown2 0],vF⟩
theorem kKnown94:KKnown94.Ok Try.prog:=CF.of2 noNG mixed (l:=[KKnown88,KKnown91]) (.cons kKnown88 (.cons kKnown91 .nil)) 3000 (by kernel_rfl)
def KKnown95:CF:=⟨135,[.agg ⟨[vI 1999,vI 0]⟩,dptV ⟨[vJ 999,vI 500,vI 1,vI 0,vI 200]⟩ 0],vJ 499⟩
theorem kKnown95:KKnown95.Ok Try.prog:=CF.of2 noNG mixed (l:=[]) .nil 3000 (by kernel_rfl)
def KKnown96:CF:=⟨134,[.agg ⟨[vI 1999,vI 0]⟩,dptV ⟨[vJ 999,vI 500,vI 1,vI 0,vI 200]⟩ 0],vI 2999⟩
theorem kKnown96:KKnown96.Ok Try.prog:=CF.of2 noNG mixed (l:=[]) .nil 3000 (by kernel_rfl)
def KKnown97:CF:=⟨138,[.agg ⟨[vI 1999,vI 0]⟩,dptV wKnown3 0,dptV ⟨[vJ 999,vI 500,vI 1,vI 0,vI 200]⟩ 0,dptV wKnown2 0],vT⟩
theorem kKnown97:KKnown97.Ok Try.prog:=CF.of2 noNG mixed (l:=[KKnown96,KKnown95]) (.cons kKnown96 (.cons kKnown95 .nil)) 3000 (by kernel_rfl)
def KKnown98:CF:=⟨128,[.agg ⟨[vI 1000,vI 1999,vI 0,vI 999]⟩,.func (.func 138) ⟨[]⟩ wKnown4],vT⟩
theorem kKnown98:KKnown98.Ok Try.prog:=CF.of2 noNG mixed (l:=[KKnown97,KKnown94,KKnown87]) (.cons kKnown97 (.cons kKnown94 (.cons kKnown87 .nil))) 3000 (by kernel_rfl)
def KKnown99:CF:=⟨108,[.agg ⟨[vJ 999,vI 500,vI 1,vI 0,vI 200]⟩,.agg ⟨[vI 1000,vI 1999,vI 0,vI 999]⟩],vF⟩
theorem kKnown99:KKnown99.Ok Try.prog:=CF.of2 noNG mixed (l:=[KKnown90,KKnown93,KKnown98,KKnown63]) (.cons kKnown90 (.cons kKnown93 (.cons kKnown98 (.cons kKnown63 .nil)))) 3000 (by kernel_rfl)
def KKnown100:CF:=⟨88,[.agg wKnown1,.agg ⟨[vI 1000,vI 1999,vI 0,vI 999]⟩],vF⟩
theorem kKnown100:KKnown100.Ok Try.prog:=CF.of2 noNG mixed (l:=[KKnown99]) (.cons kKnown99 .nil) 3000 (by kernel_rfl)
def KKnown101:CF:=⟨129,[.agg ⟨[vI 2000,vI 5000]⟩,.agg ⟨[vI 1000,vI 1999]⟩],vF⟩
theorem kKnown101:KKnown101.Ok Try.prog:=CF.of2 noNG mixed (l:=[]) .nil 3000 (by kernel_rfl)
def KKnown102:CF:=⟨109,[.agg ⟨[vI 2000,vI 5000,vI 0,vI 999]⟩,.agg ⟨[vI 1000,vI 1999,vI 0,vI 999]⟩],vF⟩
theorem kKnown102:KKnown102.Ok Try.prog:=CF.of2 noNG mixed (l:=[KKnown101]) (.cons kKnown101 .nil) 3000 (by kernel_rfl)
def KKnown103:CF:=⟨129,[.agg ⟨[vI 2500,vI 2600]⟩,.agg ⟨[vI 1000,vI 1999]⟩],vF⟩
theorem kKnown103:KKnown103.Ok Try.prog:=CF.of2 noNG mixed (l:=[]) .nil 3000 (by kernel_rfl)
def KKnown104:CF:=⟨109,[.agg ⟨[vI 2500,vI 2600,vI 1500,vI 1600]⟩,.agg ⟨[vI 1000,vI 1999,vI 0,vI 999]⟩],vF⟩
theorem kKnown104:KKnown104.Ok Try.prog:=CF.of2 noNG mixed (l:=[KKnown103]) (.cons kKnown103 .nil) 3000 (by kernel_rfl)
def KKnown105:CF:=⟨89,[.agg wKnown1,.agg ⟨[vI 1000,vI 1999,vI 0,vI 999]⟩],vI 0⟩
theorem kKnown105:KKnown105.Ok Try.prog:=CF.of2 noNG mixed (l:=[KKnown104,KKnown102]) (.cons kKnown104 (.cons kKnown102 .nil)) 3000 (by kernel_rfl)
def KKnown106:CF:=⟨87,[.agg ⟨[vI 0,vI 2999]⟩,vI 1000,vI 2],.agg ⟨[vI 2000,vI 2999]⟩⟩
theorem kKnown106:KKnown106.Ok Try.prog:=CF.of2 noNG mixed (l:=[]) .nil 3000 (by kernel_rfl)
def KKnown107:CF:=⟨139,[.agg ⟨[vI 2000,vI 2999,vI 0,vI 999]⟩],.func (.func 141) ⟨[]⟩ ⟨[dptV ⟨[vI 2000,vI 2999,vI 0,vI 999]⟩ 0]⟩⟩
theorem kKnown107:KKnown107.Ok Try.prog:=CF.of2 noNG mixed (l:=[]) .nil 3000 (by kernel_rfl)
def KKnown108:CF:=⟨134,[.agg ⟨[vI 2000,vI 0]⟩,dptV ⟨[vJ 999,vI 500,vI 1,vI 0,vI 200]⟩ 0],vI 3000⟩
theorem kKnown108:KKnown108.Ok Try.prog:=CF.of2 noNG mixed (l:=[]) .nil 3000 (by kernel_rfl)
def KKnown109:CF:=⟨136,[.agg ⟨[vI 2000,vI 0]⟩,dptV wKnown2 0],vT⟩
theorem kKnown109:KKnown109.Ok Try.prog:=CF.of2 noNG mixed (l:=[KKnown108]) (.cons kKnown108 .nil) 3000 (by kernel_rfl)
def KKnown110:CF:=⟨128,[.agg ⟨[vI 2000,vI 2999,vI 0,vI 999]⟩,.func (.func 136) ⟨[]⟩ ⟨[dptV wKnown2 0]⟩],vT⟩
theorem kKnown110:KKnown110.Ok Try.prog:=CF.of2 noNG mixed (l:=[KKnown107,KKnown109]) (.cons kKnown107 (.cons kKnown109 .nil)) 3000 (by kernel_rfl)
def KKnown111:CF:=⟨135,[.agg ⟨[vI 2000,vI 0]⟩,dptV ⟨[vJ 999,vI 500,vI 1,vI 0,vI 200]⟩ 0],vJ 499⟩
theorem kKnown111:KKnown111.Ok Try.prog:=CF.of2 noNG mixed (l:=[]) .nil 3000 (by kernel_rfl)
def KKnown112:CF:=⟨137,[.agg ⟨[vI 2000,vI 0]⟩,dptV wKnown3 0,dptV ⟨[vJ 999,vI 500,vI 1,vI 0,vI 200]⟩ 0,dptV wKnown2 0],vT⟩
theorem kKnown112:KKnown112.Ok Try.prog:=CF.of2 noNG mixed (l:=[KKnown108,KKnown111]) (.cons kKnown108 (.cons kKnown111 .nil)) 3000 (by kernel_rfl)
def KKnown113:CF:=⟨128,[.agg ⟨[vI 2000,vI 2999,vI 0,vI 999]⟩,.func (.func 137) ⟨[]⟩ wKnown4],vT⟩
theorem kKnown113:KKnown113.Ok Try.prog:=CF.of2 noNG mixed (l:=[KKnown112,KKnown107]) (.cons kKnown112 (.cons kKnown107 .nil)) 3000 (by kernel_rfl)
def KKnown114:CF:=⟨138,[.agg ⟨[vI 2000,vI 0]⟩,dptV wKnown3 0,dptV ⟨[vJ 999,vI 500,vI 1,vI 0,vI 200]⟩ 0,dptV wKnown2 0],vT⟩
theorem kKnown114:KKnown114.Ok Try.prog:=CF.of2 noNG mixed (l:=[KKnown108,KKnown111]) (.cons kKnown108 (.cons kKnown111 .nil)) 3000 (by kernel_rfl)
def KKnown115:CF:=⟨128,[.agg ⟨[vI 2000,vI 2999,vI 0,vI 999]⟩,.func (.func 138) ⟨[]⟩ wKnown4],vT⟩
theorem kKnown115:KKnown115.Ok Try.prog:=CF.of2 noNG mixed (l:=[KKnown114,KKnown107]) (.cons kKnown114 (.cons kKnown107 .nil)) 3000 (by kernel_rfl)
def KKnown116:CF:=⟨108,[.agg ⟨[vJ 999,vI 500,vI 1,vI 0,vI 200]⟩,.agg ⟨[vI 2000,vI 2999,vI 0,vI 999]⟩],vF⟩
theorem kKnown116:KKnown116.Ok Try.prog:=CF.of2 noNG mixed (l:=[KKnown113,KKnown115,KKnown110,KKnown63]) (.cons kKnown113 (.cons kKnown115 (.cons kKnown110 (.cons kKnown63 .nil)))) 3000 (by kernel_rfl)
def KKnown117:CF:=⟨88,[.agg wKnown1,.agg ⟨[vI 2000,vI 2999,vI 0,vI 999]⟩],vF⟩
theorem kKnown117:KKnown117.Ok Try.prog:=CF.of2 noNG mixed (l:=[KKnown116]) (.cons kKnown116 .nil) 3000 (by kernel_rfl)
def KKnown118:CF:=⟨129,[.agg ⟨[vI 2000,vI 5000]⟩,.agg ⟨[vI 2000,vI 2999]⟩],vT⟩
theorem kKnown118:KKnown118.Ok Try.prog:=CF.of2 noNG mixed (l:=[]) .nil 3000 (by kernel_rfl)
def KKnown119:CF:=⟨129,[.agg ⟨[vI 0,vI 999]⟩,.agg ⟨[vI 0,vI 999]⟩],vT⟩
theorem kKnown119:KKnown119.Ok Try.prog:=CF.of2 noNG mixed (l:=[]) .nil 3000 (by kernel_rfl)
def KKnown120:CF:=⟨109,[.agg ⟨[vI 2000,vI 5000,vI 0,vI 999]⟩,.agg ⟨[vI 2000,vI 2999,vI 0,vI 999]⟩],vT⟩
theorem kKnown120:KKnown120.Ok Try.prog:=CF.of2 noNG mixed (l:=[KKnown118,KKnown119]) (.cons kKnown118 (.cons kKnown119 .nil)) 3000 (by kernel_rfl)
def KKnown121:CF:=⟨129,[.agg ⟨[vI 2500,vI 2600]⟩,.agg ⟨[vI 2000,vI 2999]⟩],vT⟩
theorem kKnown121:KKnown121.Ok Try.prog:=CF.of2 noNG mixed (l:=[]) .nil 3000 (by kernel_rfl)
def KKnown122:CF:=⟨129,[.agg ⟨[vI 1500,vI 1600]⟩,.agg ⟨[vI 0,vI 999]⟩],vF⟩
theorem kKnown122:KKnown122.Ok Try.prog:=CF.of2 noNG mixed (l:=[]) .nil 3000 (by kernel_rfl)
def KKnown123:CF:=⟨109,[.agg ⟨[vI 2500,vI 2600,vI 1500,vI 1600]⟩,.agg ⟨[vI 2000,vI 2999,vI 0,vI 999]⟩],vF⟩
theorem kKnown123:KKnown123.Ok Try.prog:=CF.of2 noNG mixed (l:=[KKnown121,KKnown122]) (.cons kKnown121 (.cons kKnown122 .nil)) 3000 (by kernel_rfl)
def KKnown124:CF:=⟨89,[.agg wKnown1,.agg ⟨[vI 2000,vI 2999,vI 0,vI 999]⟩],vI 100⟩
theorem kKnown124:KKnown124.Ok Try.prog:=CF.of2 noNG mixed (l:=[KKnown120,KKnown123]) (.cons kKnown120 (.cons kKnown123 .nil)) 3000 (by kernel_rfl)
def KKnown125:CF:=⟨87,[.agg ⟨[vI 0,vI 1999]⟩,vI 1000,vI 1],.agg ⟨[vI 1000,vI 1999]⟩⟩
theorem kKnown125:KKnown125.Ok Try.prog:=CF.of2 noNG mixed (l:=[]) .nil 3000 (by kernel_rfl)
def KKnown126:CF:=⟨139,[.agg ⟨[vI 0,vI 999,vI 1000,vI 1999]⟩],.func (.func 141) ⟨[]⟩ ⟨[dptV ⟨[vI 0,vI 999,vI 1000,vI 1999]⟩ 0]⟩⟩
theorem kKnown126:KKnown126.Ok Try.prog:=CF.of2 noNG mixed (l:=[]) .nil 3000 (by kernel_rfl)
def KKnown127:CF:=⟨134,[.agg ⟨[vI 0,vI 1000]⟩,dptV ⟨[vJ 999,vI 500,vI 1,vI 0,vI 200]⟩ 0],vI 1000⟩
theorem kKnown127:KKnown127.Ok Try.prog:=CF.of2 noNG mixed (l:=[]) .nil 3000 (by kernel_rfl)
def KKnown128:CF:=⟨136,[.agg ⟨[vI 0,vI 1000]⟩,dptV wKnown2 0],vT⟩
theorem kKnown128:KKnown128.Ok Try.prog:=CF.of2 noNG mixed (l:=[KKnown127]) (.cons kKnown127 .nil) 3000 (by kernel_rfl)
def KKnown129:CF:=⟨128,[.agg ⟨[vI 0,vI 999,vI 1000,vI 1999]⟩,.func (.func 136) ⟨[]⟩ ⟨[dptV wKnown2 0]⟩],vT⟩
theorem kKnown129:KKnown129.Ok Try.prog:=CF.of2 noNG mixed (l:=[KKnown128,KKnown126]) (.cons kKnown128 (.cons kKnown126 .nil)) 3000 (by kernel_rfl)
def KKnown130:CF:=⟨135,[.agg ⟨[vI 0,vI 1000]⟩,dptV ⟨[vJ 999,vI 500,vI 1,vI 0,vI 200]⟩ 0],vI 500⟩
theorem kKnown130:KKnown130.Ok Try.prog:=CF.of2 noNG mixed (l:=[]) .nil 3000 (by kernel_rfl)
def KKnown131:CF:=⟨137,[.agg ⟨[vI 0,vI 1000]⟩,dptV wKnown3 0,dptV ⟨[vJ 999,vI 500,vI 1,vI 0,vI 200]⟩ 0,dptV wKnown2 0],vF⟩
theorem kKnown131:KKnown131.Ok Try.prog:=CF.of2 noNG mixed (l:=[KKnown130,KKnown127]) (.cons kKnown130 (.cons kKnown127 .nil)) 3000 (by kernel_rfl)
def KKnown132:CF:=⟨135,[.agg ⟨[vI 999,vI 1000]⟩,dptV ⟨[vJ 999,vI 500,vI 1,vI 0,vI 200]⟩ 0],vI 500⟩
theorem kKnown132:KKnown132.Ok Try.prog:=CF.of2 noNG mixed (l:=[]) .nil 3000 (by kernel_rfl)
def KKnown133:CF:=⟨134,[.agg ⟨[vI 999,vI 1000]⟩,dptV ⟨[vJ 999,vI 500,vI 1,vI 0,vI 200]⟩ 0],vI 1999⟩
theorem kKnown133:KKnown133.Ok Try.prog:=CF.of2 noNG mixed (l:=[]) .nil 3000 (by kernel_rfl)
def KKnown134:CF:=⟨137,[.agg ⟨[vI 999,vI 1000]⟩,dptV wKnown3 0,dptV ⟨[vJ 999,vI 500,vI 1,vI 0,vI 200]⟩ 0,dptV wKnown2 0],vF⟩
theorem kKnown134:KKnown134.Ok Try.prog:=CF.of2 noNG mixed (l:=[KKnown132,KKnown133]) (.cons kKnown132 (.cons kKnown133 .nil)) 3000 (by kernel_rfl)
def KKnown135:CF:=⟨135,[.agg ⟨[vI 0,vI 1999]⟩,dptV ⟨[vJ 999,vI 500,vI 1,vI 0,vI 200]⟩ 0],vI 1499⟩
theorem kKnown135:KKnown135.Ok Try.prog:=CF.of2 noNG mixed (l:=[]) .nil 3000 (by kernel_rfl)
def KKnown136:CF:=⟨134,[.agg ⟨[vI 0,vI 1999]⟩,dptV ⟨[vJ 999,vI 500,vI 1,vI 0,vI 200]⟩ 0],vI 1000⟩
theorem kKnown136:KKnown136.Ok Try.prog:=CF.of2 noNG mixed (l:=[]) .nil 3000 (by kernel_rfl)
def KKnown137:CF:=⟨137,[.agg ⟨[vI 0,vI 1999]⟩,dptV wKnown3 0,dptV ⟨[vJ 999,vI 500,vI 1,vI 0,vI 200]⟩ 0,dptV wKnown2 0],vF⟩
theorem kKnown137:KKnown137.Ok Try.prog:=CF.of2 noNG mixed (l:=[KKnown136,KKnown135]) (.cons kKnown136 (.cons kKnown135 .nil)) 3000 (by kernel_rfl)
def KKnown138:CF:=⟨135,[.agg ⟨[vI 999,vI 1999]⟩,dptV ⟨[vJ 999,vI 500,vI 1,vI 0,vI 200]⟩ 0],vI 1499⟩
theorem kKnown138:KKnown138.Ok Try.prog:=CF.of2 noNG mixed (l:=[]) .nil 3000 (by kernel_rfl)
def KKnown139:CF:=⟨134,[.agg ⟨[vI 999,vI 1999]⟩,dptV ⟨[vJ 999,vI 500,vI 1,vI 0,vI 200]⟩ 0],vI 1999⟩
theorem kKnown139:KKnown139.Ok Try.prog:=CF.of2 noNG mixed (l:=[]) .nil 3000 (by kernel_rfl)
def KKnown140:CF:=⟨137,[.agg ⟨[vI 999,vI 1999]⟩,dptV wKnown3 0,dptV ⟨[vJ 999,vI 500,vI 1,vI 0,vI 200]⟩ 0,dptV wKnown2 0],vF⟩
theorem kKnown140:KKnown140.Ok Try.prog:=CF.of2 noNG mixed (l:=[KKnown138,KKnown139]) (.cons kKnown138 (.cons kKnown139 .nil)) 3000 (by kernel_rfl)
def KKnown141:CF:=⟨128,[.agg ⟨[vI 0,vI 999,vI 1000,vI 1999]⟩,.func (.func 137) ⟨[]⟩ wKnown4],vF⟩
theorem kKnown141:KKnown141.Ok Try.prog:=CF.of2 noNG mixed (l:=[KKnown131,KKnown134,KKnown137,KKnown140,KKnown126]) (.cons kKnown131 (.cons kKnown134 (.cons kKnown137 (.cons kKnown140 (.cons kKnown126 .nil))))) 3000 (by kernel_rfl)
def KKnown142:CF:=⟨108,[.agg ⟨[vJ 999,vI 500,vI 1,vI 0,vI 200]⟩,.agg ⟨[vI 0,vI 999,vI 1000,vI 1999]⟩],vT⟩
theorem kKnown142:KKnown142.Ok Try.prog:=CF.of2 noNG mixed (l:=[KKnown129,KKnown141,KKnown63]) (.cons kKnown129 (.cons kKnown141 (.cons kKnown63 .nil))) 3000 (by kernel_rfl)
def KKnown143:CF:=⟨88,[.agg wKnown1,.agg ⟨[vI 0,vI 999,vI 1000,vI 1999]⟩],vT⟩
theorem kKnown143:KKnown143.Ok Try.prog:=CF.of2 noNG mixed (l:=[KKnown142]) (.cons kKnown142 .nil) 3000 (by kernel_rfl)
def KKnown144:CF:=⟨139,[.agg ⟨[vI 1000,vI 1999,vI 1000,vI 1999]⟩],.func (.func 141) ⟨[]⟩ ⟨[dptV ⟨[vI 1000,vI 1999,vI 1000,vI 1999]⟩ 0]⟩⟩
theorem kKnown144:KKnown144.Ok Try.prog:=CF.of2 noNG mixed (l:=[]) .nil 3000 (by kernel_rfl)
def KKnown145:CF:=⟨134,[.agg ⟨[vI 1000,vI 1000]⟩,dptV ⟨[vJ 999,vI 500,vI 1,vI 0,vI 200]⟩ 0],vI 2000⟩
theorem kKnown145:KKnown145.Ok Try.prog:=CF.of2 noNG mixed (l:=[]) .nil 3000 (by kernel_rfl)
def KKnown146:CF:=⟨136,[.agg ⟨[vI 1000,vI 1000]⟩,dptV wKnown2 0],vT⟩
theorem kKnown146:KKnown146.Ok Try.prog:=CF.of2 noNG mixed (l:=[KKnown145]) (.cons kKnown145 .nil) 3000 (by kernel_rfl)
def KKnown147:CF:=⟨128,[.agg ⟨[vI 1000,vI 1999,vI 1000,vI 1999]⟩,.func (.func 136) ⟨[]⟩ ⟨[dptV wKnown2 0]⟩],vT⟩
theorem kKnown147:KKnown147.Ok Try.prog:=CF.of2 noNG mixed (l:=[KKnown144,KKnown146]) (.cons kKnown144 (.cons kKnown146 .nil)) 3000 (by kernel_rfl)
def KKnown148:CF:=⟨135,[.agg ⟨[vI 1000,vI 1000]⟩,dptV ⟨[vJ 999,vI 500,vI 1,vI 0,vI 200]⟩ 0],vI 500⟩
theorem kKnown148:KKnown148.Ok Try.prog:=CF.of2 noNG mixed (l:=[]) .nil 3000 (by kernel_rfl)
def KKnown149:CF:=⟨137,[.agg ⟨[vI 1000,vI 1000]⟩,dptV wKnown3 0,dptV ⟨[vJ 999,vI 500,vI 1,vI 0,vI 200]⟩ 0,dptV wKnown2 0],vF⟩
theorem kKnown149:KKnown149.Ok Try.prog:=CF.of2 noNG mixed (l:=[KKnown145,KKnown148]) (.cons kKnown145 (.cons kKnown148 .nil)) 3000 (by kernel_rfl)
def KKnown150:CF:=⟨135,[.agg ⟨[vI 1999,vI 1000]⟩,dptV ⟨[vJ 999,vI 500,vI 1,vI 0,vI 200]⟩ 0],vI 500⟩
theorem kKnown150:KKnown150.Ok Try.prog:=CF.of2 noNG mixed (l:=[]) .nil 3000 (by kernel_rfl)
def KKnown151:CF:=⟨134,[.agg ⟨[vI 1999,vI 1000]⟩,dptV ⟨[vJ 999,vI 500,vI 1,vI 0,vI 200]⟩ 0],vI 2999⟩
theorem kKnown151:KKnown151.Ok Try.prog:=CF.of2 noNG mixed (l:=[]) .nil 3000 (by kernel_rfl)
def KKnown152:CF:=⟨137,[.agg ⟨[vI 1999,vI 1000]⟩,dptV wKnown3 0,dptV ⟨[vJ 999,vI 500,vI 1,vI 0,vI 200]⟩ 0,dptV wKnown2 0],vT⟩
theorem kKnown152:KKnown152.Ok Try.prog:=CF.of2 noNG mixed (l:=[KKnown150,KKnown151]) (.cons kKnown150 (.cons kKnown151 .nil)) 3000 (by kernel_rfl)
def KKnown153:CF:=⟨128,[.agg ⟨[vI 1000,vI 1999,vI 1000,vI 1999]⟩,.func (.func 137) ⟨[]⟩ wKnown4],vT⟩
theorem kKnown153:KKnown153.Ok Try.prog:=CF.of2 noNG mixed (l:=[KKnown144,KKnown152,KKnown149]) (.cons kKnown144 (.cons kKnown152 (.cons kKnown149 .nil))) 3000 (by kernel_rfl)
def KKnown154:CF:=⟨138,[.agg ⟨[vI 1000,vI 1000]⟩,dptV wKnown3 0,dptV ⟨[vJ 999,vI 500,vI 1,vI 0,vI 200]⟩ 0,dptV wKnown2 0],vT⟩
theorem kKnown154:KKnown154.Ok Try.prog:=CF.of2 noNG mixed (l:=[KKnown145,KKnown148]) (.cons kKnown145 (.cons kKnown148 .nil)) 3000 (by kernel_rfl)
def KKnown155:CF:=⟨128,[.agg ⟨[vI 1000,vI 1999,vI 1000,vI 1999]⟩,.func (.func 138) ⟨[]⟩ wKnown4],vT⟩
theorem kKnown155:KKnown155.Ok Try.prog:=CF.of2 noNG mixed (l:=[KKnown144,KKnown154]) (.cons kKnown144 (.cons kKnown154 .nil)) 3000 (by kernel_rfl)
def KKnown156:CF:=⟨108,[.agg ⟨[vJ 999,vI 500,vI 1,vI 0,vI 200]⟩,.agg ⟨[vI 1000,vI 1999,vI 1000,vI 1999]⟩],vF⟩
theorem kKnown156:KKnown156.Ok Try.prog:=CF.of2 noNG mixed (l:=[KKnown153,KKnown147,KKnown155,KKnown63]) (.cons kKnown153 (.cons kKnown147 (.cons kKnown155 (.cons kKnown63 .nil)))) 3000 (by kernel_rfl)
def KKnown157:CF:=⟨88,[.agg wKnown1,.agg ⟨[vI 1000,vI 1999,vI 1000,vI 1999]⟩],vF⟩
theorem kKnown157:KKnown157.Ok Try.prog:=CF.of2 noNG mixed (l:=[KKnown156]) (.cons kKnown156 .nil) 3000 (by kernel_rfl)
def KKnown158:CF:=⟨109,[.agg ⟨[vI 2000,vI 5000,vI 0,vI 999]⟩,.agg ⟨[vI 1000,vI 1999,vI 1000,vI 1999]⟩],vF⟩
theorem kKnown158:KKnown158.Ok Try.prog:=CF.of2 noNG mixed (l:=[KKnown101]) (.cons kKnown101 .nil) 3000 (by kernel_rfl)
def KKnown159:CF:=⟨109,[.agg ⟨[vI 2500,vI 2600,vI 1500,vI 1600]⟩,.agg ⟨[vI 1000,vI 1999,vI 1000,vI 1999]⟩],vF⟩
theorem kKnown159:KKnown159.Ok Try.prog:=CF.of2 noNG mixed (l:=[KKnown103]) (.cons kKnown103 .nil) 3000 (by kernel_rfl)
def KKnown160:CF:=⟨89,[.agg wKnown1,.agg ⟨[vI 1000,vI 1999,vI 1000,vI 1999]⟩],vI 0⟩
theorem kKnown160:KKnown160.Ok Try.prog:=CF.of2 noNG mixed (l:=[KKnown158,KKnown159]) (.cons kKnown158 (.cons kKnown159 .nil)) 3000 (by kernel_rfl)
def KKnown161:CF:=⟨139,[.agg ⟨[vI 2000,vI 2999,vI 1000,vI 1999]⟩],.func (.func 141) ⟨[]⟩ ⟨[dptV ⟨[vI 2000,vI 2999,vI 1000,vI 1999]⟩ 0]⟩⟩
theorem kKnown161:KKnown161.Ok Try.prog:=CF.of2 noNG mixed (l:=[]) .nil 3000 (by kernel_rfl)
def KKnown162:CF:=⟨134,[.agg ⟨[vI 2000,vI 1000]⟩,dptV ⟨[vJ 999,vI 500,vI 1,vI 0,vI 200]⟩ 0],vI 3000⟩
theorem kKnown162:KKnown162.Ok Try.prog:=CF.of2 noNG mixed (l:=[]) .nil 3000 (by kernel_rfl)
def KKnown163:CF:=⟨136,[.agg ⟨[vI 2000,vI 1000]⟩,dptV wKnown2 0],vT⟩
theorem kKnown163:KKnown163.Ok Try.prog:=CF.of2 noNG mixed (l:=[KKnown162]) (.cons kKnown162 .nil) 3000 (by kernel_rfl)
def KKnown164:CF:=⟨128,[.agg ⟨[vI 2000,vI 2999,vI 1000,vI 1999]⟩,.func (.func 136) ⟨[]⟩ ⟨[dptV wKnown2 0]⟩],vT⟩
theorem kKnown164:KKnown164.Ok Try.prog:=CF.of2 noNG mixed (l:=[KKnown161,KKnown163]) (.cons kKnown161 (.cons kKnown163 .nil)) 3000 (by kernel_rfl)
def KKnown165:CF:=⟨135,[.agg ⟨[vI 2000,vI 1000]⟩,dptV ⟨[vJ 999,vI 500,vI 1,vI 0,vI 200]⟩ 0],vI 500⟩
theorem kKnown165:KKnown165.Ok Try.prog:=CF.of2 noNG mixed (l:=[]) .nil 3000 (by kernel_rfl)
def KKnown166:CF:=⟨137,[.agg ⟨[vI 2000,vI 1000]⟩,dptV wKnown3 0,dptV ⟨[vJ 999,vI 500,vI 1,vI 0,vI 200]⟩ 0,dptV wKnown2 0],vT⟩
theorem kKnown166:KKnown166.Ok Try.prog:=CF.of2 noNG mixed (l:=[KKnown162,KKnown165]) (.cons kKnown162 (.cons kKnown165 .nil)) 3000 (by kernel_rfl)
def KKnown167:CF:=⟨128,[.agg ⟨[vI 2000,vI 2999,vI 1000,vI 1999]⟩,.func (.func 137) ⟨[]⟩ wKnown4],vT⟩
theorem kKnown167:KKnown167.Ok Try.prog:=CF.of2 noNG mixed (l:=[KKnown161,KKnown166]) (.cons kKnown161 (.cons kKnown166 .nil)) 3000 (by kernel_rfl)
def KKnown168:CF:=⟨138,[.agg ⟨[vI 2000,vI 1000]⟩,dptV wKnown3 0,dptV ⟨[vJ 999,vI 500,vI 1,vI 0,vI 200]⟩ 0,dptV wKnown2 0],vT⟩
theorem kKnown168:KKnown168.Ok Try.prog:=CF.of2 noNG mixed (l:=[KKnown162,KKnown165]) (.cons kKnown162 (.cons kKnown165 .nil)) 3000 (by kernel_rfl)
def KKnown169:CF:=⟨128,[.agg ⟨[vI 2000,vI 2999,vI 1000,vI 1999]⟩,.func (.func 138) ⟨[]⟩ wKnown4],vT⟩
theorem kKnown169:KKnown169.Ok Try.prog:=CF.of2 noNG mixed (l:=[KKnown168,KKnown161]) (.cons kKnown168 (.cons kKnown161 .nil)) 3000 (by kernel_rfl)
def KKnown170:CF:=⟨108,[.agg ⟨[vJ 999,vI 500,vI 1,vI 0,vI 200]⟩,.agg ⟨[vI 2000,vI 2999,vI 1000,vI 1999]⟩],vF⟩
theorem kKnown170:KKnown170.Ok Try.prog:=CF.of2 noNG mixed (l:=[KKnown167,KKnown169,KKnown164,KKnown63]) (.cons kKnown167 (.cons kKnown169 (.cons kKnown164 (.cons kKnown63 .nil)))) 3000 (by kernel_rfl)
def KKnown171:CF:=⟨88,[.agg wKnown1,.agg ⟨[vI 2000,vI 2999,vI 1000,vI 1999]⟩],vF⟩
theorem kKnown171:KKnown171.Ok Try.prog:=CF.of2 noNG mixed (l:=[KKnown170]) (.cons kKnown170 .nil) 3000 (by kernel_rfl)
def KKnown172:CF:=⟨129,[.agg ⟨[vI 0,vI 999]⟩,.agg ⟨[vI 1000,vI 1999]⟩],vF⟩
theorem kKnown172:KKnown172.Ok Try.prog:=CF.of2 noNG mixed (l:=[]) .nil 3000 (by kernel_rfl)
def KKnown173:CF:=⟨109,[.agg ⟨[vI 2000,vI 5000,vI 0,vI 999]⟩,.agg ⟨[vI 2000,vI 2999,vI 1000,vI 1999]⟩],vF⟩
theorem kKnown173:KKnown173.Ok Try.prog:=CF.of2 noNG mixed (l:=[KKnown172,KKnown118]) (.cons kKnown172 (.cons kKnown118 .nil)) 3000 (by kernel_rfl)
def KKnown174:CF:=⟨129,[.agg ⟨[vI 1500,vI 1600]⟩,.agg ⟨[vI 1000,vI 1999]⟩],vT⟩
theorem kKnown174:KKnown174.Ok Try.prog:=CF.of2 noNG mixed (l:=[]) .nil 3000 (by kernel_rfl)
def KKnown175:CF:=⟨109,[.agg ⟨[vI 2500,vI 2600,vI 1500,vI 1600]⟩,.agg ⟨[vI 2000,vI 2999,vI 1000,vI 1999]⟩],vT⟩
theorem kKnown175:KKnown175.Ok Try.prog:=CF.of2 noNG mixed (l:=[KKnown121,KKnown174]) (.cons kKnown121 (.cons kKnown174 .nil)) 3000 (by kernel_rfl)
def KKnown176:CF:=⟨89,[.agg wKnown1,.agg ⟨[vI 2000,vI 2999,vI 1000,vI 1999]⟩],vJ 0⟩
theorem kKnown176:KKnown176.Ok Try.prog:=CF.of2 noNG mixed (l:=[KKnown173,KKnown175]) (.cons kKnown173 (.cons kKnown175 .nil)) 3000 (by kernel_rfl)
def KKnown177:CF:=⟨66,[.agg wKnown1],lstV wKnown6 0 5 5⟩
theorem kKnown177:KKnown177.Ok Try.prog:=CF.of2 noNG mixed (l:=[KKnown125,KKnown62,KKnown106,KKnown14,KKnown86,KKnown61,KKnown160,KKnown100,KKnown105,KKnown171,KKnown15,KKnown80,KKnown143,KKnown176,KKnown85,KKnown117,KKnown157,KKnown124]) (.cons kKnown125 (.cons kKnown62 (.cons kKnown106 (.cons kKnown14 (.cons kKnown86 (.cons kKnown61 (.cons kKnown160 (.cons kKnown100 (.cons kKnown105 (.cons kKnown171 (.cons kKnown15 (.cons kKnown80 (.cons kKnown143 (.cons kKnown176 (.cons kKnown85 (.cons kKnown117 (.cons kKnown157 (.cons kKnown124 .nil)))))))))))))))))) 3000 (by kernel_rfl)
def KKnown178:CF:=⟨21,[.agg wKnown1],.tuple ⟨[lstV wKnown6 0 5 5,vI 0]⟩⟩
theorem kKnown178:KKnown178.Ok Try.prog:=CF.of2 noNG mixed (l:=[KKnown177,KKnown60]) (.cons kKnown177 (.cons kKnown60 .nil)) 3000 (by kernel_rfl)
def KKnown179:CF:=⟨23,[vI 0,vI 999,vI 0,vI 999],.agg ⟨[vI 0,vI 999,vI 0,vI 999]⟩⟩
theorem kKnown179:KKnown179.Ok Try.prog:=CF.of2 noNG mixed (l:=[KKnown4]) (.cons kKnown4 .nil) 3000 (by kernel_rfl)
def KKnown180:CF:=⟨38,[vI 1000,vI 1999],.agg ⟨[vI 1000,vI 1999]⟩⟩
theorem kKnown180:KKnown180.Ok Try.prog:=CF.of2 noNG mixed (l:=[]) .nil 3000 (by kernel_rfl)
def KKnown181:CF:=⟨23,[vI 1000,vI 1999,vI 0,vI 999],.agg ⟨[vI 1000,vI 1999,vI 0,vI 999]⟩⟩
theorem kKnown181:KKnown181.Ok Try.prog:=CF.of2 noNG mixed (l:=[KKnown180,KKnown4]) (.cons kKnown180 (.cons kKnown4 .nil)) 3000 (by kernel_rfl)
def KKnown182:CF:=⟨38,[vI 2000,vI 2999],.agg ⟨[vI 2000,vI 2999]⟩⟩
theorem kKnown182:KKnown182.Ok Try.prog:=CF.of2 noNG mixed (l:=[]) .nil 3000 (by kernel_rfl)
def KKnown183:CF:=⟨23,[vI 2000,vI 2999,vI 0,vI 999],.agg ⟨[vI 2000,vI 2999,vI 0,vI 999]⟩⟩
theorem kKnown183:KKnown183.Ok Try.prog:=CF.of2 noNG mixed (l:=[KKnown4,KKnown182]) (.cons kKnown4 (.cons kKnown182 .nil)) 3000 (by kernel_rfl)
def KKnown184:CF:=⟨23,[vI 1000,vI 1999,vI 1000,vI 1999],.agg ⟨[vI 1000,vI 1999,vI 1000,vI 1999]⟩⟩
theorem kKnown184:KKnown184.Ok Try.prog:=CF.of2 noNG mixed (l:=[KKnown180]) (.cons kKnown180 .nil) 3000 (by kernel_rfl)
def KKnown185:CF:=⟨23,[vI 2000,vI 2999,vI 1000,vI 1999],.agg ⟨[vI 2000,vI 2999,vI 1000,vI 1999]⟩⟩
theorem kKnown185:KKnown185.Ok Try.prog:=CF.of2 noNG mixed (l:=[KKnown180,KKnown182]) (.cons kKnown180 (.cons kKnown182 .nil)) 3000 (by kernel_rfl)
def KKnown186:CF:=⟨40,[vI 1200,vI 0,vI 999],vF⟩
theorem kKnown186:KKnown186.Ok Try.prog:=CF.of2 noNG mixed (l:=[]) .nil 3000 (by kernel_rfl)
def KKnown187:CF:=⟨40,[vI 1200,vI 1000,vI 1999],vT⟩
theorem kKnown187:KKnown187.Ok Try.prog:=CF.of2 noNG mixed (l:=[]) .nil 3000 (by kernel_rfl)
def KKnown188:CF:=⟨40,[vI 300,vI 0,vI 999],vT⟩
theorem kKnown188:KKnown188.Ok Try.prog:=CF.of2 noNG mixed (l:=[]) .nil 3000 (by kernel_rfl)
def KKnown189:CF:=⟨24,[.agg wKnown1,.agg ⟨[vI 1200,vI 300]⟩],.tuple ⟨[vI 1,vI 0]⟩⟩
theorem kKnown189:KKnown189.Ok Try.prog:=CF.of2 noNG mixed (l:=[KKnown186,KKnown178,KKnown187,KKnown188]) (.cons kKnown186 (.cons kKnown178 (.cons kKnown187 (.cons kKnown188 .nil)))) 3000 (by kernel_rfl)
def KKnown190:CF:=⟨40,[vI 2550,vI 0,vI 999],vF⟩
theorem kKnown190:KKnown190.Ok Try.prog:=CF.of2 noNG mixed (l:=[]) .nil 3000 (by kernel_rfl)
def KKnown191:CF:=⟨40,[vI 2550,vI 1000,vI 1999],vF⟩
theorem kKnown191:KKnown191.Ok Try.prog:=CF.of2 noNG mixed (l:=[]) .nil 3000 (by kernel_rfl)
def KKnown192:CF:=⟨40,[vI 2550,vI 2000,vI 2999],vT⟩
theorem kKnown192:KKnown192.Ok Try.prog:=CF.of2 noNG mixed (l:=[]) .nil 3000 (by kernel_rfl)
def KKnown193:CF:=⟨40,[vI 1550,vI 0,vI 999],vF⟩
theorem kKnown193:KKnown193.Ok Try.prog:=CF.of2 noNG mixed (l:=[]) .nil 3000 (by kernel_rfl)
def KKnown194:CF:=⟨40,[vI 1550,vI 1000,vI 1999],vT⟩
theorem kKnown194:KKnown194.Ok Try.prog:=CF.of2 noNG mixed (l:=[]) .nil 3000 (by kernel_rfl)
def KKnown195:CF:=⟨24,[.agg wKnown1,.agg ⟨[vI 2550,vI 1550]⟩],.tuple ⟨[vI 4,vI 0]⟩⟩
theorem kKnown195:KKnown195.Ok Try.prog:=CF.of2 noNG mixed (l:=[KKnown192,KKnown191,KKnown193,KKnown194,KKnown178,KKnown190]) (.cons kKnown192 (.cons kKnown191 (.cons kKnown193 (.cons kKnown194 (.cons kKnown178 (.cons kKnown190 .nil)))))) 3000 (by kernel_rfl)
def KKnown196:CF:=⟨40,[vI 499,vJ 99999999,vI 100000000],vT⟩
theorem kKnown196:KKnown196.Ok Try.prog:=CF.of2 noNG mixed (l:=[]) .nil 3000 (by kernel_rfl)
def KKnown197:CF:=⟨90,[vI 499],vT⟩
theorem kKnown197:KKnown197.Ok Try.prog:=CF.of2 noNG mixed (l:=[KKnown196]) (.cons kKnown196 .nil) 3000 (by kernel_rfl)
def KKnown198:CF:=⟨67,[.agg ⟨[vI 499,vI 499]⟩],vT⟩
theorem kKnown198:KKnown198.Ok Try.prog:=CF.of2 noNG mixed (l:=[KKnown197]) (.cons kKnown197 .nil) 3000 (by kernel_rfl)
def KKnown199:CF:=⟨77,[vJ 2499,vI 100],vJ 24⟩
theorem kKnown199:KKnown199.Ok Try.prog:=CF.of2 noNG mixed (l:=[]) .nil 3000 (by kernel_rfl)
def KKnown200:CF:=⟨78,[vI 2500,vI 100],vI 25⟩
theorem kKnown200:KKnown200.Ok Try.prog:=CF.of2 noNG mixed (l:=[KKnown199]) (.cons kKnown199 .nil) 3000 (by kernel_rfl)
def KKnown201:CF:=⟨68,[.agg ⟨[vJ 1999,vI 500]⟩,.agg ⟨[vI 499,vI 499]⟩,vI 100],vI 25⟩
theorem kKnown201:KKnown201.Ok Try.prog:=CF.of2 noNG mixed (l:=[KKnown200]) (.cons kKnown200 .nil) 3000 (by kernel_rfl)
def KKnown202:CF:=⟨25,[.agg wKnown1,.agg ⟨[vJ 1999,vI 500]⟩,.agg ⟨[vI 499,vI 499]⟩],.tuple ⟨[vI 25,vI 0]⟩⟩
theorem kKnown202:KKnown202.Ok Try.prog:=CF.of2 noNG mixed (l:=[KKnown201,KKnown60,KKnown198,KKnown52]) (.cons kKnown201 (.cons kKnown60 (.cons kKnown198 (.cons kKnown52 .nil)))) 3000 (by kernel_rfl)
def KKnown203:CF:=⟨40,[vI 1499,vJ 99999999,vI 100000000],vT⟩
theorem kKnown203:KKnown203.Ok Try.prog:=CF.of2 noNG mixed (l:=[]) .nil 3000 (by kernel_rfl)
def KKnown204:CF:=⟨90,[vI 1499],vT⟩
theorem kKnown204:KKnown204.Ok Try.prog:=CF.of2 noNG mixed (l:=[KKnown203]) (.cons kKnown203 .nil) 3000 (by kernel_rfl)
def KKnown205:CF:=⟨67,[.agg ⟨[vI 1499,vI 1499]⟩],vT⟩
theorem kKnown205:KKnown205.Ok Try.prog:=CF.of2 noNG mixed (l:=[KKnown204]) (.cons kKnown204 .nil) 3000 (by kernel_rfl)
def KKnown206:CF:=⟨77,[vJ 3638,vI 100],vJ 36⟩
theorem kKnown206:KKnown206.Ok Try.prog:=CF.of2 noNG mixed (l:=[]) .nil 3000 (by kernel_rfl)
def KKnown207:CF:=⟨78,[vI 3639,vI 100],vI 37⟩
theorem kKnown207:KKnown207.Ok Try.prog:=CF.of2 noNG mixed (l:=[KKnown206]) (.cons kKnown206 .nil) 3000 (by kernel_rfl)
def KKnown208:CF:=⟨68,[.agg ⟨[vJ 1999,vI 500]⟩,.agg ⟨[vI 1499,vI 1499]⟩,vI 100],vI 37⟩
theorem kKnown208:KKnown208.Ok Try.prog:=CF.of2 noNG mixed (l:=[KKnown207]) (.cons kKnown207 .nil) 3000 (by kernel_rfl)
def KKnown209:CF:=⟨25,[.agg wKnown1,.agg ⟨[vJ 1999,vI 500]⟩,.agg ⟨[vI 1499,vI 1499]⟩],.tuple ⟨[vI 37,vI 0]⟩⟩
theorem kKnown209:KKnown209.Ok Try.prog:=CF.of2 noNG mixed (l:=[KKnown208,KKnown60,KKnown205,KKnown52]) (.cons kKnown208 (.cons kKnown60 (.cons kKnown205 (.cons kKnown52 .nil)))) 3000 (by kernel_rfl)
def KKnown210:CF:=⟨27,[],.agg ⟨[lstV wKnown7 0 5 3,lstV ⟨[vI 4,vI 1]⟩ 0 1 2]⟩⟩
theorem kKnown210:KKnown210.Ok Try.prog:=CF.of2 noNG mixed (l:=[]) .nil 3000 (by kernel_rfl)
def KKnown211:CF:=⟨116,[lstV wKnown6 0 5 5,vI 0],vT⟩
theorem kKnown211:KKnown211.Ok Try.prog:=CF.of2 noNG mixed (l:=[]) .nil 3000 (by kernel_rfl)
def KKnown212:CF:=⟨40,[vI 25,vJ 999999999,vI 1000000000],vT⟩
theorem kKnown212:KKnown212.Ok Try.prog:=CF.of2 noNG mixed (l:=[]) .nil 3000 (by kernel_rfl)
def KKnown213:CF:=⟨117,[vI 25],vT⟩
theorem kKnown213:KKnown213.Ok Try.prog:=CF.of2 noNG mixed (l:=[KKnown212]) (.cons kKnown212 .nil) 3000 (by kernel_rfl)
def KKnown214:CF:=⟨40,[vI 35,vJ 999999999,vI 1000000000],vT⟩
theorem kKnown214:KKnown214.Ok Try.prog:=CF.of2 noNG mixed (l:=[]) .nil 3000 (by kernel_rfl)
def KKnown215:CF:=⟨117,[vI 35],vT⟩
theorem kKnown215:KKnown215.Ok Try.prog:=CF.of2 noNG mixed (l:=[KKnown214]) (.cons kKnown214 .nil) 3000 (by kernel_rfl)
def KKnown216:CF:=⟨77,[vI 999,vI 2],vI 499⟩
theorem kKnown216:KKnown216.Ok Try.prog:=CF.of2 noNG mixed (l:=[]) .nil 3000 (by kernel_rfl)
def KKnown217:CF:=⟨140,[.agg ⟨[vI 0,vI 999,vI 0,vI 999]⟩],.agg ⟨[vI 499,vI 499]⟩⟩
theorem kKnown217:KKnown217.Ok Try.prog:=CF.of2 noNG mixed (l:=[KKnown216]) (.cons kKnown216 .nil) 3000 (by kernel_rfl)
def KKnown218:CF:=⟨68,[.agg ⟨[vI 499,vI 499]⟩,.agg ⟨[vJ 1999,vI 500]⟩,vI 100],vI 25⟩
theorem kKnown218:KKnown218.Ok Try.prog:=CF.of2 noNG mixed (l:=[KKnown200]) (.cons kKnown200 .nil) 3000 (by kernel_rfl)
def KKnown219:CF:=⟨116,[lstV wKnown6 0 5 5,vI 1],vT⟩
theorem kKnown219:KKnown219.Ok Try.prog:=CF.of2 noNG mixed (l:=[]) .nil 3000 (by kernel_rfl)
def KKnown220:CF:=⟨40,[vI 45,vJ 999999999,vI 1000000000],vT⟩
theorem kKnown220:KKnown220.Ok Try.prog:=CF.of2 noNG mixed (l:=[]) .nil 3000 (by kernel_rfl)
def KKnown221:CF:=⟨117,[vI 45],vT⟩
theorem kKnown221:KKnown221.Ok Try.prog:=CF.of2 noNG mixed (l:=[KKnown220]) (.cons kKnown220 .nil) 3000 (by kernel_rfl)
def KKnown222:CF:=⟨40,[vI 55,vJ 999999999,vI 1000000000],vT⟩
theorem kKnown222:KKnown222.Ok Try.prog:=CF.of2 noNG mixed (l:=[]) .nil 3000 (by kernel_rfl)
def KKnown223:CF:=⟨117,[vI 55],vT⟩
theorem kKnown223:KKnown223.Ok Try.prog:=CF.of2 noNG mixed (l:=[KKnown222]) (.cons kKnown222 .nil) 3000 (by kernel_rfl)
def KKnown224:CF:=⟨77,[vI 2999,vI 2],vI 1499⟩
theorem kKnown224:KKnown224.Ok Try.prog:=CF.of2 noNG mixed (l:=[]) .nil 3000 (by kernel_rfl)
def KKnown225:CF:=⟨140,[.agg ⟨[vI 1000,vI 1999,vI 0,vI 999]⟩],.agg ⟨[vI 1499,vI 499]⟩⟩
theorem kKnown225:KKnown225.Ok Try.prog:=CF.of2 noNG mixed (l:=[KKnown224,KKnown216]) (.cons kKnown224 (.cons kKnown216 .nil)) 3000 (by kernel_rfl)
def KKnown226:CF:=⟨77,[vJ 999,vI 100],vJ 9⟩
theorem kKnown226:KKnown226.Ok Try.prog:=CF.of2 noNG mixed (l:=[]) .nil 3000 (by kernel_rfl)
def KKnown227:CF:=⟨78,[vI 1000,vI 100],vI 10⟩
theorem kKnown227:KKnown227.Ok Try.prog:=CF.of2 noNG mixed (l:=[KKnown226]) (.cons kKnown226 .nil) 3000 (by kernel_rfl)
def KKnown228:CF:=⟨68,[.agg ⟨[vI 499,vI 499]⟩,.agg ⟨[vI 1499,vI 499]⟩,vI 100],vI 10⟩
theorem kKnown228:KKnown228.Ok Try.prog:=CF.of2 noNG mixed (l:=[KKnown227]) (.cons kKnown227 .nil) 3000 (by kernel_rfl)
def KKnown229:CF:=⟨77,[vJ 3499,vI 100],vJ 34⟩
theorem kKnown229:KKnown229.Ok Try.prog:=CF.of2 noNG mixed (l:=[]) .nil 3000 (by kernel_rfl)
def KKnown230:CF:=⟨78,[vI 3500,vI 100],vI 35⟩
theorem kKnown230:KKnown230.Ok Try.prog:=CF.of2 noNG mixed (l:=[KKnown229]) (.cons kKnown229 .nil) 3000 (by kernel_rfl)
def KKnown231:CF:=⟨68,[.agg ⟨[vI 1499,vI 499]⟩,.agg ⟨[vJ 1999,vI 500]⟩,vI 100],vI 35⟩
theorem kKnown231:KKnown231.Ok Try.prog:=CF.of2 noNG mixed (l:=[KKnown230]) (.cons kKnown230 .nil) 3000 (by kernel_rfl)
def KKnown232:CF:=⟨116,[lstV wKnown6 0 5 5,vI 3],vT⟩
theorem kKnown232:KKnown232.Ok Try.prog:=CF.of2 noNG mixed (l:=[]) .nil 3000 (by kernel_rfl)
def KKnown233:CF:=⟨40,[vI 65,vJ 999999999,vI 1000000000],vT⟩
theorem kKnown233:KKnown233.Ok Try.prog:=CF.of2 noNG mixed (l:=[]) .nil 3000 (by kernel_rfl)
def KKnown234:CF:=⟨117,[vI 65],vT⟩
theorem kKnown234:KKnown234.Ok Try.prog:=CF.of2 noNG mixed (l:=[KKnown233]) (.cons kKnown233 .nil) 3000 (by kernel_rfl)
def KKnown235:CF:=⟨40,[vI 75,vJ 999999999,vI 1000000000],vT⟩
theorem kKnown235:KKnown235.Ok Try.prog:=CF.of2 noNG mixed (l:=[]) .nil 3000 (by kernel_rfl)
def KKnown236:CF:=⟨117,[vI 75],vT⟩
theorem kKnown236:KKnown236.Ok Try.prog:=CF.of2 noNG mixed (l:=[KKnown235]) (.cons kKnown235 .nil) 3000 (by kernel_rfl)
def KKnown237:CF:=⟨140,[.agg ⟨[vI 1000,vI 1999,vI 1000,vI 1999]⟩],.agg ⟨[vI 1499,vI 1499]⟩⟩
theorem kKnown237:KKnown237.Ok Try.prog:=CF.of2 noNG mixed (l:=[KKnown224]) (.cons kKnown224 .nil) 3000 (by kernel_rfl)
def KKnown238:CF:=⟨68,[.agg ⟨[vI 1499,vI 499]⟩,.agg ⟨[vI 1499,vI 1499]⟩,vI 100],vI 10⟩
theorem kKnown238:KKnown238.Ok Try.prog:=CF.of2 noNG mixed (l:=[KKnown227]) (.cons kKnown227 .nil) 3000 (by kernel_rfl)
def KKnown239:CF:=⟨68,[.agg ⟨[vI 1499,vI 1499]⟩,.agg ⟨[vJ 1999,vI 500]⟩,vI 100],vI 37⟩
theorem kKnown239:KKnown239.Ok Try.prog:=CF.of2 noNG mixed (l:=[KKnown207]) (.cons kKnown207 .nil) 3000 (by kernel_rfl)
def KKnown240:CF:=⟨116,[lstV wKnown6 0 5 5,vI 2],vT⟩
theorem kKnown240:KKnown240.Ok Try.prog:=CF.of2 noNG mixed (l:=[]) .nil 3000 (by kernel_rfl)
def KKnown241:CF:=⟨40,[vI 100,vJ 999999999,vI 1000000000],vT⟩
theorem kKnown241:KKnown241.Ok Try.prog:=CF.of2 noNG mixed (l:=[]) .nil 3000 (by kernel_rfl)
def KKnown242:CF:=⟨117,[vI 100],vT⟩
theorem kKnown242:KKnown242.Ok Try.prog:=CF.of2 noNG mixed (l:=[KKnown241]) (.cons kKnown241 .nil) 3000 (by kernel_rfl)
def KKnown243:CF:=⟨40,[vI 110,vJ 999999999,vI 1000000000],vT⟩
theorem kKnown243:KKnown243.Ok Try.prog:=CF.of2 noNG mixed (l:=[]) .nil 3000 (by kernel_rfl)
def KKnown244:CF:=⟨117,[vI 110],vT⟩
theorem kKnown244:KKnown244.Ok Try.prog:=CF.of2 noNG mixed (l:=[KKnown243]) (.cons kKnown243 .nil) 3000 (by kernel_rfl)
def KKnown245:CF:=⟨77,[vI 4999,vI 2],vI 2499⟩
theorem kKnown245:KKnown245.Ok Try.prog:=CF.of2 noNG mixed (l:=[]) .nil 3000 (by kernel_rfl)
def KKnown246:CF:=⟨140,[.agg ⟨[vI 2000,vI 2999,vI 0,vI 999]⟩],.agg ⟨[vI 2499,vI 499]⟩⟩
theorem kKnown246:KKnown246.Ok Try.prog:=CF.of2 noNG mixed (l:=[KKnown216,KKnown245]) (.cons kKnown216 (.cons kKnown245 .nil)) 3000 (by kernel_rfl)
def KKnown247:CF:=⟨77,[vJ 1414,vI 100],vJ 14⟩
theorem kKnown247:KKnown247.Ok Try.prog:=CF.of2 noNG mixed (l:=[]) .nil 3000 (by kernel_rfl)
def KKnown248:CF:=⟨78,[vI 1415,vI 100],vI 15⟩
theorem kKnown248:KKnown248.Ok Try.prog:=CF.of2 noNG mixed (l:=[KKnown247]) (.cons kKnown247 .nil) 3000 (by kernel_rfl)
def KKnown249:CF:=⟨68,[.agg ⟨[vI 1499,vI 1499]⟩,.agg ⟨[vI 2499,vI 499]⟩,vI 100],vI 15⟩
theorem kKnown249:KKnown249.Ok Try.prog:=CF.of2 noNG mixed (l:=[KKnown248]) (.cons kKnown248 .nil) 3000 (by kernel_rfl)
def KKnown250:CF:=⟨77,[vJ 4499,vI 100],vJ 44⟩
theorem kKnown250:KKnown250.Ok Try.prog:=CF.of2 noNG mixed (l:=[]) .nil 3000 (by kernel_rfl)
def KKnown251:CF:=⟨78,[vI 4500,vI 100],vI 45⟩
theorem kKnown251:KKnown251.Ok Try.prog:=CF.of2 noNG mixed (l:=[KKnown250]) (.cons kKnown250 .nil) 3000 (by kernel_rfl)
def KKnown252:CF:=⟨68,[.agg ⟨[vI 2499,vI 499]⟩,.agg ⟨[vJ 1999,vI 500]⟩,vI 100],vI 45⟩
theorem kKnown252:KKnown252.Ok Try.prog:=CF.of2 noNG mixed (l:=[KKnown251]) (.cons kKnown251 .nil) 3000 (by kernel_rfl)
def KKnown253:CF:=⟨40,[vI 155,vJ 999999999,vI 1000000000],vT⟩
theorem kKnown253:KKnown253.Ok Try.prog:=CF.of2 noNG mixed (l:=[]) .nil 3000 (by kernel_rfl)
def KKnown254:CF:=⟨117,[vI 155],vT⟩
theorem kKnown254:KKnown254.Ok Try.prog:=CF.of2 noNG mixed (l:=[KKnown253]) (.cons kKnown253 .nil) 3000 (by kernel_rfl)
def KKnown255:CF:=⟨40,[vI 175,vJ 999999999,vI 1000000000],vT⟩
theorem kKnown255:KKnown255.Ok Try.prog:=CF.of2 noNG mixed (l:=[]) .nil 3000 (by kernel_rfl)
def KKnown256:CF:=⟨117,[vI 175],vT⟩
theorem kKnown256:KKnown256.Ok Try.prog:=CF.of2 noNG mixed (l:=[KKnown255]) (.cons kKnown255 .nil) 3000 (by kernel_rfl)
def KKnown257:CF:=⟨116,[lstV wKnown6 0 5 5,vI 4],vT⟩
theorem kKnown257:KKnown257.Ok Try.prog:=CF.of2 noNG mixed (l:=[]) .nil 3000 (by kernel_rfl)
def KKnown258:CF:=⟨34,[.agg wKnown1,.agg ⟨[lstV wKnown7 0 5 3,lstV ⟨[vI 4,vI 1]⟩ 0 1 2]⟩],.tuple ⟨[vI 0,vI 0]⟩⟩
theorem kKnown258:KKnown258.Ok Try.prog:=CF.of2 noNG mixed (l:=[KKnown217,KKnown201,KKnown225,KKnown237,KKnown246,KKnown252,KKnown256,KKnown257,KKnown178,KKnown211,KKnown213,KKnown215,KKnown218,KKnown219,KKnown221,KKnown223,KKnown228,KKnown231,KKnown232,KKnown234,KKnown236,KKnown238,KKnown239,KKnown240,KKnown242,KKnown244,KKnown249,KKnown254]) (.cons kKnown217 (.cons kKnown201 (.cons kKnown225 (.cons kKnown237 (.cons kKnown246 (.cons kKnown252 (.cons kKnown256 (.cons kKnown257 (.cons kKnown178 (.cons kKnown211 (.cons kKnown213 (.cons kKnown215 (.cons kKnown218 (.cons kKnown219 (.cons kKnown221 (.cons kKnown223 (.cons kKnown228 (.cons kKnown231 (.cons kKnown232 (.cons kKnown234 (.cons kKnown236 (.cons kKnown238 (.cons kKnown239 (.cons kKnown240 (.cons kKnown242 (.cons kKnown244 (.cons kKnown249 (.cons kKnown254 .nil)))))))))))))))))))))))))))) 3000 (by kernel_rfl)
def KKnown259:CF:=⟨26,[.agg wKnown1,.agg ⟨[lstV wKnown7 0 5 3,lstV ⟨[vI 4,vI 1]⟩ 0 1 2]⟩,.agg ⟨[vI 1200,vI 300]⟩],.tuple ⟨[vI 55,vI 0]⟩⟩
theorem kKnown259:KKnown259.Ok Try.prog:=CF.of2 noNG mixed (l:=[KKnown258,KKnown189]) (.cons kKnown258 (.cons kKnown189 .nil)) 3000 (by kernel_rfl)
def KKnown260:CF:=⟨26,[.agg wKnown1,.agg ⟨[lstV wKnown7 0 5 3,lstV ⟨[vI 4,vI 1]⟩ 0 1 2]⟩,.agg ⟨[vI 2550,vI 1550]⟩],.tuple ⟨[vI 0,vI 9]⟩⟩
theorem kKnown260:KKnown260.Ok Try.prog:=CF.of2 noNG mixed (l:=[KKnown258,KKnown195]) (.cons kKnown258 (.cons kKnown195 .nil)) 3000 (by kernel_rfl)
def KKnown261:CF:=⟨57,[.agg wKnown8],vI 0⟩
theorem kKnown261:KKnown261.Ok Try.prog:=CF.of2 noNG mixed (l:=[KKnown12,KKnown13,KKnown14,KKnown15]) (.cons kKnown12 (.cons kKnown13 (.cons kKnown14 (.cons kKnown15 .nil)))) 3000 (by kernel_rfl)
def KKnown262:CF:=⟨40,[vI 150,vI 1,vI 100000],vT⟩
theorem kKnown262:KKnown262.Ok Try.prog:=CF.of2 noNG mixed (l:=[]) .nil 3000 (by kernel_rfl)
def KKnown263:CF:=⟨60,[.agg wKnown8],vT⟩
theorem kKnown263:KKnown263.Ok Try.prog:=CF.of2 noNG mixed (l:=[KKnown262,KKnown52,KKnown54,KKnown55,KKnown57,KKnown58]) (.cons kKnown262 (.cons kKnown52 (.cons kKnown54 (.cons kKnown55 (.cons kKnown57 (.cons kKnown58 .nil)))))) 3000 (by kernel_rfl)
def KKnown264:CF:=⟨18,[.agg wKnown8],.tuple ⟨[vI 0,vI 0,vI 0]⟩⟩
theorem kKnown264:KKnown264.Ok Try.prog:=CF.of2 noNG mixed (l:=[KKnown49,KKnown27,KKnown261,KKnown263]) (.cons kKnown49 (.cons kKnown27 (.cons kKnown261 (.cons kKnown263 .nil)))) 3000 (by kernel_rfl)
def KKnown265:CF:=⟨88,[.agg wKnown8,.agg ⟨[vI 0,vI 999,vI 0,vI 999]⟩],vF⟩
theorem kKnown265:KKnown265.Ok Try.prog:=CF.of2 noNG mixed (l:=[KKnown79]) (.cons kKnown79 .nil) 3000 (by kernel_rfl)
def KKnown266:CF:=⟨89,[.agg wKnown8,.agg ⟨[vI 0,vI 999,vI 0,vI 999]⟩],vI 0⟩
theorem kKnown266:KKnown266.Ok Try.prog:=CF.of2 noNG mixed (l:=[KKnown82,KKnown84]) (.cons kKnown82 (.cons kKnown84 .nil)) 3000 (by kernel_rfl)
def KKnown267:CF:=⟨88,[.agg wKnown8,.agg ⟨[vI 1000,vI 1999,vI 0,vI 999]⟩],vF⟩
theorem kKnown267:KKnown267.Ok Try.prog:=CF.of2 noNG mixed (l:=[KKnown99]) (.cons kKnown99 .nil) 3000 (by kernel_rfl)
def KKnown268:CF:=⟨89,[.agg wKnown8,.agg ⟨[vI 1000,vI 1999,vI 0,vI 999]⟩],vI 0⟩
theorem kKnown268:KKnown268.Ok Try.prog:=CF.of2 noNG mixed (l:=[KKnown104,KKnown102]) (.cons kKnown104 (.cons kKnown102 .nil)) 3000 (by kernel_rfl)
def KKnown269:CF:=⟨88,[.agg wKnown8,.agg ⟨[vI 2000,vI 2999,vI 0,vI 999]⟩],vF⟩
theorem kKnown269:KKnown269.Ok Try.prog:=CF.of2 noNG mixed (l:=[KKnown116]) (.cons kKnown116 .nil) 3000 (by kernel_rfl)
def KKnown270:CF:=⟨89,[.agg wKnown8,.agg ⟨[vI 2000,vI 2999,vI 0,vI 999]⟩],vI 100⟩
theorem kKnown270:KKnown270.Ok Try.prog:=CF.of2 noNG mixed (l:=[KKnown120,KKnown123]) (.cons kKnown120 (.cons kKnown123 .nil)) 3000 (by kernel_rfl)
def KKnown271:CF:=⟨88,[.agg wKnown8,.agg ⟨[vI 0,vI 999,vI 1000,vI 1999]⟩],vT⟩
theorem kKnown271:KKnown271.Ok Try.prog:=CF.of2 noNG mixed (l:=[KKnown142]) (.cons kKnown142 .nil) 3000 (by kernel_rfl)
def KKnown272:CF:=⟨88,[.agg wKnown8,.agg ⟨[vI 1000,vI 1999,vI 1000,vI 1999]⟩],vF⟩
theorem kKnown272:KKnown272.Ok Try.prog:=CF.of2 noNG mixed (l:=[KKnown156]) (.cons kKnown156 .nil) 3000 (by kernel_rfl)
def KKnown273:CF:=⟨89,[.agg wKnown8,.agg ⟨[vI 1000,vI 1999,vI 1000,vI 1999]⟩],vI 0⟩
theorem kKnown273:KKnown273.Ok Try.prog:=CF.of2 noNG mixed (l:=[KKnown158,KKnown159]) (.cons kKnown158 (.cons kKnown159 .nil)) 3000 (by kernel_rfl)
def KKnown274:CF:=⟨88,[.agg wKnown8,.agg ⟨[vI 2000,vI 2999,vI 1000,vI 1999]⟩],vF⟩
theorem kKnown274:KKnown274.Ok Try.prog:=CF.of2 noNG mixed (l:=[KKnown170]) (.cons kKnown170 .nil) 3000 (by kernel_rfl)
def KKnown275:CF:=⟨89,[.agg wKnown8,.agg ⟨[vI 2000,vI 2999,vI 1000,vI 1999]⟩],vJ 0⟩
theorem kKnown275:KKnown275.Ok Try.prog:=CF.of2 noNG mixed (l:=[KKnown173,KKnown175]) (.cons kKnown173 (.cons kKnown175 .nil)) 3000 (by kernel_rfl)
def KKnown276:CF:=⟨66,[.agg wKnown8],lstV wKnown6 0 5 5⟩
theorem kKnown276:KKnown276.Ok Try.prog:=CF.of2 noNG mixed (l:=[KKnown125,KKnown62,KKnown106,KKnown14,KKnown86,KKnown61,KKnown265,KKnown266,KKnown267,KKnown268,KKnown15,KKnown269,KKnown270,KKnown271,KKnown272,KKnown273,KKnown274,KKnown275]) (.cons kKnown125 (.cons kKnown62 (.cons kKnown106 (.cons kKnown14 (.cons kKnown86 (.cons kKnown61 (.cons kKnown265 (.cons kKnown266 (.cons kKnown267 (.cons kKnown268 (.cons kKnown15 (.cons kKnown269 (.cons kKnown270 (.cons kKnown271 (.cons kKnown272 (.cons kKnown273 (.cons kKnown274 (.cons kKnown275 .nil)))))))))))))))))) 3000 (by kernel_rfl)
def KKnown277:CF:=⟨21,[.agg wKnown8],.tuple ⟨[lstV wKnown6 0 5 5,vI 0]⟩⟩
theorem kKnown277:KKnown277.Ok Try.prog:=CF.of2 noNG mixed (l:=[KKnown264,KKnown276]) (.cons kKnown264 (.cons kKnown276 .nil)) 3000 (by kernel_rfl)
def KKnown278:CF:=⟨68,[.agg ⟨[vJ 1999,vI 500]⟩,.agg ⟨[vI 1499,vI 499]⟩,vI 100],vI 35⟩
theorem kKnown278:KKnown278.Ok Try.prog:=CF.of2 noNG mixed (l:=[KKnown230]) (.cons kKnown230 .nil) 3000 (by kernel_rfl)
def KKnown279:CF:=⟨95,[.agg ⟨[vI 1,vI 35,vI 45]⟩],vI 45⟩
theorem kKnown279:KKnown279.Ok Try.prog:=CF.of2 noNG mixed (l:=[]) .nil 3000 (by kernel_rfl)
def KKnown280:CF:=⟨95,[.agg ⟨[vI 0,vI 25,vI 35]⟩],vI 35⟩
theorem kKnown280:KKnown280.Ok Try.prog:=CF.of2 noNG mixed (l:=[]) .nil 3000 (by kernel_rfl)
def KKnown281:CF:=⟨68,[.agg ⟨[vJ 1999,vI 500]⟩,.agg ⟨[vI 2499,vI 499]⟩,vI 100],vI 45⟩
theorem kKnown281:KKnown281.Ok Try.prog:=CF.of2 noNG mixed (l:=[KKnown251]) (.cons kKnown251 .nil) 3000 (by kernel_rfl)
def KKnown282:CF:=⟨95,[.agg ⟨[vI 2,vI 100,vI 110]⟩],vI 110⟩
theorem kKnown282:KKnown282.Ok Try.prog:=CF.of2 noNG mixed (l:=[]) .nil 3000 (by kernel_rfl)
def KKnown283:CF:=⟨95,[.agg ⟨[vI 3,vI 37,vI 47]⟩],vI 47⟩
theorem kKnown283:KKnown283.Ok Try.prog:=CF.of2 noNG mixed (l:=[]) .nil 3000 (by kernel_rfl)
def KKnown284:CF:=⟨77,[vJ 1999,vI 100],vJ 19⟩
theorem kKnown284:KKnown284.Ok Try.prog:=CF.of2 noNG mixed (l:=[]) .nil 3000 (by kernel_rfl)
def KKnown285:CF:=⟨78,[vI 2000,vI 100],vI 20⟩
theorem kKnown285:KKnown285.Ok Try.prog:=CF.of2 noNG mixed (l:=[KKnown284]) (.cons kKnown284 .nil) 3000 (by kernel_rfl)
def KKnown286:CF:=⟨68,[.agg ⟨[vI 499,vI 499]⟩,.agg ⟨[vI 2499,vI 499]⟩,vI 100],vI 20⟩
theorem kKnown286:KKnown286.Ok Try.prog:=CF.of2 noNG mixed (l:=[KKnown285]) (.cons kKnown285 .nil) 3000 (by kernel_rfl)
def KKnown287:CF:=⟨68,[.agg ⟨[vI 499,vI 499]⟩,.agg ⟨[vI 1499,vI 1499]⟩,vI 100],vI 15⟩
theorem kKnown287:KKnown287.Ok Try.prog:=CF.of2 noNG mixed (l:=[KKnown248]) (.cons kKnown248 .nil) 3000 (by kernel_rfl)
def KKnown288:CF:=⟨95,[.agg ⟨[vI 3,vI 50,vI 60]⟩],vI 60⟩
theorem kKnown288:KKnown288.Ok Try.prog:=CF.of2 noNG mixed (l:=[]) .nil 3000 (by kernel_rfl)
def KKnown289:CF:=⟨95,[.agg ⟨[vI 1,vI 45,vI 55]⟩],vI 55⟩
theorem kKnown289:KKnown289.Ok Try.prog:=CF.of2 noNG mixed (l:=[]) .nil 3000 (by kernel_rfl)
def KKnown290:CF:=⟨68,[.agg ⟨[vI 1499,vI 499]⟩,.agg ⟨[vI 2499,vI 499]⟩,vI 100],vI 10⟩
theorem kKnown290:KKnown290.Ok Try.prog:=CF.of2 noNG mixed (l:=[KKnown227]) (.cons kKnown227 .nil) 3000 (by kernel_rfl)
def KKnown291:CF:=⟨28,[.agg wKnown8],.tuple ⟨[.agg ⟨[lstV wKnown9 0 6 3,lstV ⟨[vI 4,vI 1]⟩ 0 1 2]⟩,vI 0]⟩⟩
theorem kKnown291:KKnown291.Ok Try.prog:=CF.of2 noNG mixed (l:=[KKnown246,KKnown237,KKnown217,KKnown225,KKnown252,KKnown281,KKnown239,KKnown280,KKnown201,KKnown278,KKnown208,KKnown231,KKnown277,KKnown279,KKnown282,KKnown283,KKnown286,KKnown287,KKnown288,KKnown289,KKnown290,KKnown218,KKnown228,KKnown238,KKnown249]) (.cons kKnown246 (.cons kKnown237 (.cons kKnown217 (.cons kKnown225 (.cons kKnown252 (.cons kKnown281 (.cons kKnown239 (.cons kKnown280 (.cons kKnown201 (.cons kKnown278 (.cons kKnown208 (.cons kKnown231 (.cons kKnown277 (.cons kKnown279 (.cons kKnown282 (.cons kKnown283 (.cons kKnown286 (.cons kKnown287 (.cons kKnown288 (.cons kKnown289 (.cons kKnown290 (.cons kKnown218 (.cons kKnown228 (.cons kKnown238 (.cons kKnown249 .nil))))))))))))))))))))))))) 3000 (by kernel_rfl)
def KKnown292:CF:=⟨57,[.agg wKnown10],vI 0⟩
theorem kKnown292:KKnown292.Ok Try.prog:=CF.of2 noNG mixed (l:=[KKnown12,KKnown13,KKnown14,KKnown15]) (.cons kKnown12 (.cons kKnown13 (.cons kKnown14 (.cons kKnown15 .nil)))) 3000 (by kernel_rfl)
def KKnown293:CF:=⟨40,[vI 99,vI 1,vI 100000],vT⟩
theorem kKnown293:KKnown293.Ok Try.prog:=CF.of2 noNG mixed (l:=[]) .nil 3000 (by kernel_rfl)
def KKnown294:CF:=⟨60,[.agg wKnown10],vT⟩
theorem kKnown294:KKnown294.Ok Try.prog:=CF.of2 noNG mixed (l:=[KKnown293,KKnown52,KKnown54,KKnown55,KKnown57,KKnown58]) (.cons kKnown293 (.cons kKnown52 (.cons kKnown54 (.cons kKnown55 (.cons kKnown57 (.cons kKnown58 .nil)))))) 3000 (by kernel_rfl)
def KKnown295:CF:=⟨18,[.agg wKnown10],.tuple ⟨[vI 0,vI 0,vI 0]⟩⟩
theorem kKnown295:KKnown295.Ok Try.prog:=CF.of2 noNG mixed (l:=[KKnown49,KKnown27,KKnown292,KKnown294]) (.cons kKnown49 (.cons kKnown27 (.cons kKnown292 (.cons kKnown294 .nil)))) 3000 (by kernel_rfl)
def KKnown296:CF:=⟨88,[.agg wKnown10,.agg ⟨[vI 0,vI 999,vI 0,vI 999]⟩],vF⟩
theorem kKnown296:KKnown296.Ok Try.prog:=CF.of2 noNG mixed (l:=[KKnown79]) (.cons kKnown79 .nil) 3000 (by kernel_rfl)
def KKnown297:CF:=⟨89,[.agg wKnown10,.agg ⟨[vI 0,vI 999,vI 0,vI 999]⟩],vI 0⟩
theorem kKnown297:KKnown297.Ok Try.prog:=CF.of2 noNG mixed (l:=[KKnown82,KKnown84]) (.cons kKnown82 (.cons kKnown84 .nil)) 3000 (by kernel_rfl)
def KKnown298:CF:=⟨88,[.agg wKnown10,.agg ⟨[vI 1000,vI 1999,vI 0,vI 999]⟩],vF⟩
theorem kKnown298:KKnown298.Ok Try.prog:=CF.of2 noNG mixed (l:=[KKnown99]) (.cons kKnown99 .nil) 3000 (by kernel_rfl)
def KKnown299:CF:=⟨89,[.agg wKnown10,.agg ⟨[vI 1000,vI 1999,vI 0,vI 999]⟩],vI 0⟩
theorem kKnown299:KKnown299.Ok Try.prog:=CF.of2 noNG mixed (l:=[KKnown104,KKnown102]) (.cons kKnown104 (.cons kKnown102 .nil)) 3000 (by kernel_rfl)
def KKnown300:CF:=⟨88,[.agg wKnown10,.agg ⟨[vI 2000,vI 2999,vI 0,vI 999]⟩],vF⟩
theorem kKnown300:KKnown300.Ok Try.prog:=CF.of2 noNG mixed (l:=[KKnown116]) (.cons kKnown116 .nil) 3000 (by kernel_rfl)
def KKnown301:CF:=⟨89,[.agg wKnown10,.agg ⟨[vI 2000,vI 2999,vI 0,vI 999]⟩],vI 100⟩
theorem kKnown301:KKnown301.Ok Try.prog:=CF.of2 noNG mixed (l:=[KKnown120,KKnown123]) (.cons kKnown120 (.cons kKnown123 .nil)) 3000 (by kernel_rfl)
def KKnown302:CF:=⟨88,[.agg wKnown10,.agg ⟨[vI 0,vI 999,vI 1000,vI 1999]⟩],vT⟩
theorem kKnown302:KKnown302.Ok Try.prog:=CF.of2 noNG mixed (l:=[KKnown142]) (.cons kKnown142 .nil) 3000 (by kernel_rfl)
def KKnown303:CF:=⟨88,[.agg wKnown10,.agg ⟨[vI 1000,vI 1999,vI 1000,vI 1999]⟩],vF⟩
theorem kKnown303:KKnown303.Ok Try.prog:=CF.of2 noNG mixed (l:=[KKnown156]) (.cons kKnown156 .nil) 3000 (by kernel_rfl)
def KKnown304:CF:=⟨89,[.agg wKnown10,.agg ⟨[vI 1000,vI 1999,vI 1000,vI 1999]⟩],vI 0⟩
theorem kKnown304:KKnown304.Ok Try.prog:=CF.of2 noNG mixed (l:=[KKnown158,KKnown159]) (.cons kKnown158 (.cons kKnown159 .nil)) 3000 (by kernel_rfl)
def KKnown305:CF:=⟨88,[.agg wKnown10,.agg ⟨[vI 2000,vI 2999,vI 1000,vI 1999]⟩],vF⟩
theorem kKnown305:KKnown305.Ok Try.prog:=CF.of2 noNG mixed (l:=[KKnown170]) (.cons kKnown170 .nil) 3000 (by kernel_rfl)
def KKnown306:CF:=⟨89,[.agg wKnown10,.agg ⟨[vI 2000,vI 2999,vI 1000,vI 1999]⟩],vJ 0⟩
theorem kKnown306:KKnown306.Ok Try.prog:=CF.of2 noNG mixed (l:=[KKnown173,KKnown175]) (.cons kKnown173 (.cons kKnown175 .nil)) 3000 (by kernel_rfl)
def KKnown307:CF:=⟨66,[.agg wKnown10],lstV wKnown6 0 5 5⟩
theorem kKnown307:KKnown307.Ok Try.prog:=CF.of2 noNG mixed (l:=[KKnown125,KKnown62,KKnown106,KKnown14,KKnown86,KKnown61,KKnown296,KKnown297,KKnown298,KKnown299,KKnown300,KKnown15,KKnown301,KKnown302,KKnown303,KKnown304,KKnown305,KKnown306]) (.cons kKnown125 (.cons kKnown62 (.cons kKnown106 (.cons kKnown14 (.cons kKnown86 (.cons kKnown61 (.cons kKnown296 (.cons kKnown297 (.cons kKnown298 (.cons kKnown299 (.cons kKnown300 (.cons kKnown15 (.cons kKnown301 (.cons kKnown302 (.cons kKnown303 (.cons kKnown304 (.cons kKnown305 (.cons kKnown306 .nil)))))))))))))))))) 3000 (by kernel_rfl)
def KKnown308:CF:=⟨21,[.agg wKnown10],.tuple ⟨[lstV wKnown6 0 5 5,vI 0]⟩⟩
theorem kKnown308:KKnown308.Ok Try.prog:=CF.of2 noNG mixed (l:=[KKnown307,KKnown295]) (.cons kKnown307 (.cons kKnown295 .nil)) 3000 (by kernel_rfl)
def KKnown309:CF:=⟨28,[.agg wKnown10],.tuple wKnown12⟩
theorem kKnown309:KKnown309.Ok Try.prog:=CF.of2 noNG mixed (l:=[KKnown246,KKnown237,KKnown225,KKnown217,KKnown281,KKnown252,KKnown208,KKnown239,KKnown201,KKnown231,KKnown278,KKnown280,KKnown279,KKnown283,KKnown286,KKnown287,KKnown288,KKnown289,KKnown290,KKnown308,KKnown218,KKnown228,KKnown238,KKnown249]) (.cons kKnown246 (.cons kKnown237 (.cons kKnown225 (.cons kKnown217 (.cons kKnown281 (.cons kKnown252 (.cons kKnown208 (.cons kKnown239 (.cons kKnown201 (.cons kKnown231 (.cons kKnown278 (.cons kKnown280 (.cons kKnown279 (.cons kKnown283 (.cons kKnown286 (.cons kKnown287 (.cons kKnown288 (.cons kKnown289 (.cons kKnown290 (.cons kKnown308 (.cons kKnown218 (.cons kKnown228 (.cons kKnown238 (.cons kKnown249 .nil)))))))))))))))))))))))) 3000 (by kernel_rfl)
end
end Go.Proofs.Ytapeoolandmefaa
