/- Part 8 of the texts below the claim. Conditions: none. -/
import Derived.Test.YtoghoeebiddblaaMg7
import Derived.Test.YtoghoeebiddblaaMg5
import Derived.Test.YtoghoeebiddblaaMg6
set_option linter.unusedVariables false
set_option linter.unusedSimpArgs false
namespace Go.Proofs.Ytoghoeebiddblaa
open Go.Gi Go.RowKit Go.Proofs.Ytoghoeebiddblaa.Old
noncomputable section
set_option maxRecDepth 100000
set_option maxHeartbeats 4000000
structure X45_0 where
  (v0:Int)
  (v1:Array Value)
  (v2 v3:Nat)
  (v4 v5:Int)
  (v6 v7:Int)
  (v8 v9:Int)
inductive D45_0 where
  | k0 (d0 d1:Int) (d2 d3:Int)
def Lp45_0:LoopOf X45_0 D45_0 where
  c:=(theLoop Try.prog 45 0)
  N:=38
  M:=2
  S:=[1,4,5,9,10,11]
  sl:=fun x=>[(.int .i64 x.v0),(Value.pointer (Option.some (Addr.mk 0 0 Option.none))),(Value.pointer (Option.some (Addr.mk 1 0 Option.none))),(lstV x.v1 x.v2 x.v3 6),(.int .i64 x.v4),(.int .i64 x.v5)]
  hp:=fun x=>[.cells ⟨[(.int .i64 x.v6),(.int .i64 x.v7)]⟩ false,.cells ⟨[(.int .i64 x.v8),(.int .i64 x.v9)]⟩ false]
  ex:=fun d=>match d with | .k0 ..=>.exit 0
  pick:=fun e=>match e with | .exit 0=>[4,5] | _=>[]
  dv:=fun d=>match d with | .k0 d0 d1 d2 d3=>[(Value.pointer (Option.some (Addr.mk 0 0 Option.none))),(Value.pointer (Option.some (Addr.mk 1 0 Option.none)))]
  dh:=fun d=>match d with | .k0 d0 d1 d2 d3=>[.cells ⟨[(.int .i64 d0),(.int .i64 d1)]⟩ false,.cells ⟨[(.int .i64 d2),(.int .i64 d3)]⟩ false]
theorem ok45_0:Lp45_0.Ok:=⟨fun x=>rfl,fun x=>rfl,fun x=>rfl,fun x=>rfl,fun d=>by cases d<;>rfl,fun d=>by cases d<;>rfl,fun d=>by cases d<;>rfl,fun d=>by cases d<;>(intro h;cases h),fun d=>by cases d<;>rfl,fun d=>by cases d<;>rfl⟩
def rd45_0 (x:X45_0):RT (Sum X45_0 D45_0):=match x with
  | ⟨v0,v1,v2,v3,v4,v5,v6,v7,v8,v9⟩ =>
     .br (decide (v5<v4)) (.br (and (decide ((0:Int)≤v5)) (decide (v5<(Int.ofNat v3)))) (.br (rdOk v1 [(Leaf.int .i64),(Leaf.int .i64),(Leaf.int .i64),(Leaf.int .i64),(Leaf.int .i64),(Leaf.int .i64)] (v2+((Int.toNat v5)*6))) (.br (decide (v6=v6)) (.br (decide (v7=v7)) (.br (decide (v6=v6)) (.br (decide (v7=v7)) (.br (decide (v8=v8)) (.br (decide (v9=v9)) (.br (decide (v8=v8)) (.br (decide (v9=v9)) (.br (decide ((getInt v1 (((((v2+((Int.toNat v5)*6))+1)+1)+1)+1))=(getInt v1 (((((v2+((Int.toNat v5)*6))+1)+1)+1)+1)))) (.br (decide ((getInt v1 ((((((v2+((Int.toNat v5)*6))+1)+1)+1)+1)+1))=(getInt v1 ((((((v2+((Int.toNat v5)*6))+1)+1)+1)+1)+1)))) (.br (decide ((getInt v1 (((((v2+((Int.toNat v5)*6))+1)+1)+1)+1))=(getInt v1 (((((v2+((Int.toNat v5)*6))+1)+1)+1)+1)))) (.br (decide ((getInt v1 ((((((v2+((Int.toNat v5)*6))+1)+1)+1)+1)+1))=(getInt v1 ((((((v2+((Int.toNat v5)*6))+1)+1)+1)+1)+1)))) (.br (decide (v8=v8)) (.br (decide (v9=v9)) (.br (decide (v8=v8)) (.br (decide (v9=v9))
     (.br (decide ((getInt v1 (((((v2+((Int.toNat v5)*6))+1)+1)+1)+1))=(getInt v1 (((((v2+((Int.toNat v5)*6))+1)+1)+1)+1)))) (.br (decide ((getInt v1 ((((((v2+((Int.toNat v5)*6))+1)+1)+1)+1)+1))=(getInt v1 ((((((v2+((Int.toNat v5)*6))+1)+1)+1)+1)+1)))) (.br (decide ((getInt v1 (((((v2+((Int.toNat v5)*6))+1)+1)+1)+1))=(getInt v1 (((((v2+((Int.toNat v5)*6))+1)+1)+1)+1)))) (.br (decide ((getInt v1 ((((((v2+((Int.toNat v5)*6))+1)+1)+1)+1)+1))=(getInt v1 ((((((v2+((Int.toNat v5)*6))+1)+1)+1)+1)+1)))) (.br (decide (v8=v8)) (.br (decide (v9=v9)) (.br (decide (v8=v8))
     (.br (decide (v9=v9)) (.leaf (.inl ⟨v0,v1,v2,v3,v4,(IntKind.wrap .i64 (v5+(1:Int))),(F46_0 v6 v7 (F76_0 (getInt v1 (((v2+((Int.toNat v5)*6))+1)+1)) (getInt v1 ((((v2+((Int.toNat v5)*6))+1)+1)+1)) (max (IntKind.wrap .i64 ((min (getInt v1 ((v2+((Int.toNat v5)*6))+1)) v0)-(getInt v1 (v2+((Int.toNat v5)*6))))) (0:Int))) (F76_1 (getInt v1 (((v2+((Int.toNat v5)*6))+1)+1)) (getInt v1 ((((v2+((Int.toNat v5)*6))+1)+1)+1)) (max (IntKind.wrap .i64 ((min (getInt v1 ((v2+((Int.toNat v5)*6))+1)) v0)-(getInt v1 (v2+((Int.toNat v5)*6))))) (0:Int)))),(F46_1 v6 v7 (F76_0 (getInt v1 (((v2+((Int.toNat v5)*6))+1)+1)) (getInt v1 ((((v2+((Int.toNat v5)*6))+1)+1)+1)) (max (IntKind.wrap .i64 ((min (getInt v1 ((v2+((Int.toNat v5)*6))+1)) v0)-(getInt v1 (v2+((Int.toNat v5)*6))))) (0:Int))) (F76_1 (getInt v1 (((v2+((Int.toNat v5)*6))+1)+1)) (getInt v1 ((((v2+((Int.toNat v5)*6))+1)+1)+1)) (max (IntKind.wrap .i64 ((min (getInt v1 ((v2+((Int.toNat v5)*6))+1)) v0)-(getInt v1 (v2+((Int.toNat v5)*6))))) (0:Int)))),(F46_0 v8 v9 (F76_0 (getInt v1 (((((v2+((Int.toNat v5)*6))+1)+1)+1)+1)) (getInt v1 ((((((v2+((Int.toNat v5)*6))+1)+1)+1)+1)+1)) (max (IntKind.wrap .i64 ((min (getInt v1 ((v2+((Int.toNat v5)*6))+1)) v0)-(getInt v1 (v2+((Int.toNat v5)*6))))) (0:Int))) (F76_1 (getInt v1 (((((v2+((Int.toNat v5)*6))+1)+1)+1)+1)) (getInt v1 ((((((v2+((Int.toNat v5)*6))+1)+1)+1)+1)+1)) (max (IntKind.wrap .i64 ((min (getInt v1 ((v2+((Int.toNat v5)*6))+1)) v0)-(getInt v1 (v2+((Int.toNat v5)*6))))) (0:Int)))),(F46_1 v8 v9 (F76_0 (getInt v1 (((((v2+((Int.toNat v5)*6))+1)+1)+1)+1)) (getInt v1 ((((((v2+((Int.toNat v5)*6))+1)+1)+1)+1)+1)) (max (IntKind.wrap .i64 ((min (getInt v1 ((v2+((Int.toNat v5)*6))+1)) v0)-(getInt v1 (v2+((Int.toNat v5)*6))))) (0:Int))) (F76_1 (getInt v1 (((((v2+((Int.toNat v5)*6))+1)+1)+1)+1)) (getInt v1 ((((((v2+((Int.toNat v5)*6))+1)+1)+1)+1)+1)) (max (IntKind.wrap .i64 ((min (getInt v1 ((v2+((Int.toNat v5)*6))+1)) v0)-(getInt v1 (v2+((Int.toNat v5)*6))))) (0:Int))))⟩)) (.no)) (.no)) (.no)) (.no)) (.no)) (.no)) (.no)) (.no)) (.no)) (.no)) (.no)) (.no)) (.no)) (.no)) (.no)) (.no)) (.no)) (.no)) (.no)) (.no)) (.no)) (.no)) (.no)) (.no)) (.no)) (.no)) (.leaf (.inr (.k0 v6 v7 v8 v9)))
theorem T45_0  (y:List Value) (v0:Int) (v1:Array Value) (v2 v3:Nat) (v4 v5:Int) (v6 v7:Int) (v8 v9:Int):evC Try.prog (Ans.c (p46.or p76)) 60 (.code none (theLoop Try.prog 45 0) ⟨sets (junkF 38 y) [(1,(.int .i64 v0)),(4,(Value.pointer (some (Addr.mk 0 0 none)))),(5,(Value.pointer (some (Addr.mk 1 0 none)))),(9,(lstV v1 v2 v3 6)),(10,(.int .i64 v4)),(11,(.int .i64 v5))],[],⟨[.cells ⟨[(.int .i64 v6),(.int .i64 v7)]⟩ false,.cells ⟨[(.int .i64 v8),(.int .i64 v9)]⟩ false],0,[]⟩⟩) (sumK 2 38 Lp45_0.pk)=(rd45_0 ⟨v0,v1,v2,v3,v4,v5,v6,v7,v8,v9⟩).out Lp45_0.enc:=by kernel_rfl
def L45_0 (x:X45_0):Option D45_0:=loopR rd45_0 x
section
variable (x:X45_0)
def L45_0_k0:Bool:=match L45_0 x with | some (.k0 ..)=>true | _=>false
def Qb0:Int:=match L45_0 x with | some (.k0 d _ _ _)=>d | _=>0
def Qb1:Int:=match L45_0 x with | some (.k0 _ d _ _)=>d | _=>0
def Qb2:Int:=match L45_0 x with | some (.k0 _ _ d _)=>d | _=>0
def Qb3:Int:=match L45_0 x with | some (.k0 _ _ _ d)=>d | _=>0
end
def dec45_0:Task→Option (Code×X45_0)
  | .code none (.loop code) ⟨t,[],⟨[.cells ⟨[(.int .i64 v6),(.int .i64 v7)]⟩ false,.cells ⟨[(.int .i64 v8),(.int .i64 v9)]⟩ false],0,[]⟩⟩ =>
    (match Nat.beq (firstReg code) 2,lenIs t 38,lget t 1,lget t 4,lget t 5,lget t 9,lget t 10,lget t 11 with
    | true,true,(.int .i64 v0),(Value.pointer (Option.some (Addr.mk 0 0 Option.none))),(Value.pointer (Option.some (Addr.mk 1 0 Option.none))),(.func (.via 0 ⟨[]⟩ 0 true) v1 ⟨[.slice (some ⟨0,v2,none⟩) v3 6]⟩),(.int .i64 v4),(.int .i64 v5)=>some (code,⟨v0,v1,v2,v3,v4,v5,v6,v7,v8,v9⟩)
    | _,_,_,_,_,_,_,_=>none)
  | _=>none
def alt45_0 (x:X45_0)(j:List Value):AT:=.br (L45_0_k0 x) (loopEnd 38 (.exit 0) [(4,(Value.pointer (Option.some (Addr.mk 0 0 Option.none)))),(5,(Value.pointer (Option.some (Addr.mk 1 0 Option.none))))] ⟨[.cells ⟨[(.int .i64 (Qb0 x)),(.int .i64 (Qb1 x))]⟩ false,.cells ⟨[(.int .i64 (Qb2 x)),(.int .i64 (Qb3 x))]⟩ false],0,[]⟩ j) (.no)
def la45_0 (J:Task→List Value):Ans:=loopAns Lp45_0.c dec45_0 alt45_0 J
theorem ha45_0:∀(x:X45_0) (j:List Value)(o:Out),(alt45_0 x j).out=some o→∃d,loopR rd45_0 x=some d∧o=Lp45_0.tail d j:=by
  intro x j o h
  unfold alt45_0 at h
  cases hL:L45_0 x with
  | none=>simp [L45_0_k0,Qb0,Qb1,Qb2,Qb3,hL,AT.out]at h
  | some d =>
    refine ⟨d,hL,?_⟩
    cases d<;>(simp only [L45_0_k0,Qb0,Qb1,Qb2,Qb3,hL,AT.out,loopEnd,cond_true,cond_false,Option.some.injEq]at h;rw [← h];rfl)
theorem hd45_0:∀(t:Task) (c:Code)(x:X45_0),dec45_0 t=some (c,x)→c=Lp45_0.c→∃T,t=.code none (.loop Lp45_0.c) ⟨T,[],⟨Lp45_0.hp x,0,[]⟩⟩∧T.length=Lp45_0.N∧∀kv∈Lp45_0.S.zip (Lp45_0.sl x),lget T kv.1=kv.2:=by
  intro t c x h hc
  unfold dec45_0 at h
  split at h
  case h_2=>cases h
  split at h
  case h_2=>cases h
  simp only [Option.some.injEq,Prod.mk.injEq]at h
  obtain ⟨rfl,rfl⟩:=h
  subst hc
  refine ⟨_,rfl,lenIs_eq _ _ (by assumption),?_⟩
  intro kv hk
  simp only [Lp45_0,List.zip_cons_cons,List.zip_nil_right,List.mem_cons,List.not_mem_nil,or_false]at hk
  rcases hk with rfl | rfl | rfl | rfl | rfl | rfl<;>assumption
theorem kl45_0:∃J,Known Try.prog (la45_0 J):=by
  exact LoopOf.known noNG mixed ok45_0 (by decide) (by decide) (Known.or known46 known76) (n:=60) (rd:=rd45_0) (fun x j=>T45_0  j x.v0 x.v1 x.v2 x.v3 x.v4 x.v5 x.v6 x.v7 x.v8 x.v9) dec45_0 alt45_0 hd45_0 ha45_0
structure R45 where
  (r0 r1:Int)
  (r2 r3:Int)
structure A45 where
  (a0:Array Value)
  (a1 a2:Nat)
  (a3:Int)
def rt45 (a0:Array Value)(a1 a2:Nat)(a3:Int):RT R45 :=
  .sw (eqCode (Lp45_0.c) (Lp45_0.c)) true (by simp only [eqCode_self,arrEq_self]) (.br (L45_0_k0 (X45_0.mk a3 a0 a1 a2 (Int.ofNat a2) (0:Int) (0:Int) (0:Int) (0:Int) (0:Int))) (.br (decide ((Qb2 (X45_0.mk a3 a0 a1 a2 (Int.ofNat a2) (0:Int) (0:Int) (0:Int) (0:Int) (0:Int)))=(Qb2 (X45_0.mk a3 a0 a1 a2 (Int.ofNat a2) (0:Int) (0:Int) (0:Int) (0:Int) (0:Int))))) (.br (decide ((Qb3 (X45_0.mk a3 a0 a1 a2 (Int.ofNat a2) (0:Int) (0:Int) (0:Int) (0:Int) (0:Int)))=(Qb3 (X45_0.mk a3 a0 a1 a2 (Int.ofNat a2) (0:Int) (0:Int) (0:Int) (0:Int) (0:Int))))) (.br (decide ((Qb2 (X45_0.mk a3 a0 a1 a2 (Int.ofNat a2) (0:Int) (0:Int) (0:Int) (0:Int) (0:Int)))=(Qb2 (X45_0.mk a3 a0 a1 a2 (Int.ofNat a2) (0:Int) (0:Int) (0:Int) (0:Int) (0:Int)))))
     (.br (decide ((Qb3 (X45_0.mk a3 a0 a1 a2 (Int.ofNat a2) (0:Int) (0:Int) (0:Int) (0:Int) (0:Int)))=(Qb3 (X45_0.mk a3 a0 a1 a2 (Int.ofNat a2) (0:Int) (0:Int) (0:Int) (0:Int) (0:Int))))) (.leaf ⟨(Qb0 (X45_0.mk a3 a0 a1 a2 (Int.ofNat a2) (0:Int) (0:Int) (0:Int) (0:Int) (0:Int))),(Qb1 (X45_0.mk a3 a0 a1 a2 (Int.ofNat a2) (0:Int) (0:Int) (0:Int) (0:Int) (0:Int))),(Qb2 (X45_0.mk a3 a0 a1 a2 (Int.ofNat a2) (0:Int) (0:Int) (0:Int) (0:Int) (0:Int))),(Qb3 (X45_0.mk a3 a0 a1 a2 (Int.ofNat a2) (0:Int) (0:Int) (0:Int) (0:Int) (0:Int)))⟩) (.no)) (.no)) (.no)) (.no)) (.no)) (.no)
def en45 (r:R45):Value:=(.tuple ⟨[(.agg ⟨[(.int .i64 r.r0),(.int .i64 r.r1)]⟩),(.agg ⟨[(.int .i64 r.r2),(.int .i64 r.r3)]⟩)]⟩)
theorem T45 (J0:Task→List Value)(a0:Array Value)(a1 a2:Nat)(a3:Int):evC Try.prog (Ans.c (p46.or (p76.or (la45_0 J0)))) 60 (.call 45 ⟨[(lstV a0 a1 a2 6),(.int .i64 a3)]⟩ ⟨[],0,[]⟩) (frzK [0,0])=(rt45 a0 a1 a2 a3).out (fun r=>.ret (en45 r) ⟨[],0,[]⟩):=by kernel_rfl
def F45 (a0:Array Value)(a1 a2:Nat)(a3:Int):Option R45:=(rt45 a0 a1 a2 a3).val
section
variable (a0:Array Value) (a1 a2:Nat) (a3:Int)
def F45_ok:Bool:=(F45 a0 a1 a2 a3).isSome
def F45_0:Int:=match F45 a0 a1 a2 a3 with | some r=>r.r0 | none=>0
def F45_1:Int:=match F45 a0 a1 a2 a3 with | some r=>r.r1 | none=>0
def F45_2:Int:=match F45 a0 a1 a2 a3 with | some r=>r.r2 | none=>0
def F45_3:Int:=match F45 a0 a1 a2 a3 with | some r=>r.r3 | none=>0
end
def dec45:Task→Option (A45×Hp)
  | .call g ⟨[(.func (.via 0 ⟨[]⟩ 0 true) a0 ⟨[.slice (some ⟨0,a1,none⟩) a2 6]⟩),(.int .i64 a3)]⟩ h=>(match Nat.beq g 45 with | true=>some (⟨a0,a1,a2,a3⟩,h) | false=>none)
  | _=>none
def alt45 (x:A45)(h:Hp):AT:=.br (F45_ok x.a0 x.a1 x.a2 x.a3) (.leaf (.ret (.tuple ⟨[(.agg ⟨[(.int .i64 (F45_0 x.a0 x.a1 x.a2 x.a3)),(.int .i64 (F45_1 x.a0 x.a1 x.a2 x.a3))]⟩),(.agg ⟨[(.int .i64 (F45_2 x.a0 x.a1 x.a2 x.a3)),(.int .i64 (F45_3 x.a0 x.a1 x.a2 x.a3))]⟩)]⟩) h)) .no
def p45:Ans:=fnAns dec45 alt45
theorem ha45:∀(x:A45) (h:Hp)(o:Out),(alt45 x h).out=some o→∃r,(rt45 x.a0 x.a1 x.a2 x.a3).val=some r∧o=.ret (en45 r) h:=by
  intro x h o e
  unfold alt45 at e
  simp only [AT.out]at e
  obtain ⟨g,e⟩:=cond_some e
  unfold F45_ok at g
  obtain ⟨r,hF⟩:=Option.isSome_iff_exists.1 g
  have hv:F45 x.a0 x.a1 x.a2 x.a3=(rt45 x.a0 x.a1 x.a2 x.a3).val:=by delta F45;exact rfl
  refine ⟨r,hv.symm.trans hF,?_⟩
  simp only [Option.some.injEq]at e
  rw [← e]
  have k0:F45_0 x.a0 x.a1 x.a2 x.a3=r.r0:=by
    show (match F45 x.a0 x.a1 x.a2 x.a3 with | some r=>r.r0 | none=>0)=r.r0
    rw [hF]
  have k1:F45_1 x.a0 x.a1 x.a2 x.a3=r.r1:=by
    show (match F45 x.a0 x.a1 x.a2 x.a3 with | some r=>r.r1 | none=>0)=r.r1
    rw [hF]
  have k2:F45_2 x.a0 x.a1 x.a2 x.a3=r.r2:=by
    show (match F45 x.a0 x.a1 x.a2 x.a3 with | some r=>r.r2 | none=>0)=r.r2
    rw [hF]
  have k3:F45_3 x.a0 x.a1 x.a2 x.a3=r.r3:=by
    show (match F45 x.a0 x.a1 x.a2 x.a3 with | some r=>r.r3 | none=>0)=r.r3
    rw [hF]
  rw [k0,k1,k2,k3]<;>rfl
theorem hd45:∀(t:Task) (x:A45)(h:Hp),dec45 t=some (x,h)→t=.call 45 ⟨[(lstV x.a0 x.a1 x.a2 6),(.int .i64 x.a3)]⟩ h:=by
  intro t x h e
  unfold dec45 at e
  split at e
  case h_2=>cases e
  split at e
  case h_2=>cases e
  rename_i hg
  simp only [Option.some.injEq,Prod.mk.injEq]at e
  obtain ⟨rfl,rfl⟩:=e
  rw [Nat.eq_of_beq_eq_true hg]
theorem known45:Known Try.prog p45:=by
  obtain ⟨J0,hJ0⟩:=kl45_0
  exact Known.fn noNG mixed (Known.or known46 (Known.or known76 hJ0)) (n:=60) (zs:=[0,0]) 45 (fun x:A45=>[(lstV x.a0 x.a1 x.a2 6),(.int .i64 x.a3)]) (fun x=>rt45 x.a0 x.a1 x.a2 x.a3) en45 (fun x=>T45 J0 x.a0 x.a1 x.a2 x.a3) (fun x=>rfl) dec45 alt45 hd45 ha45
structure R77 where
  (r0:Int)
structure A77 where
  (a0 a1:Int)
def rt77 (a0 a1:Int):RT R77 :=
  .br (not (decide (a1=(0:Int)))) (.br (not (decide (a1=(0:Int)))) (.br (decide ((Int.tmod a0 a1)<(0:Int))) (.leaf ⟨(IntKind.wrap .i64 ((IntKind.wrap .i64 (Int.tdiv a0 a1))-(1:Int)))⟩) (.leaf ⟨(IntKind.wrap .i64 (Int.tdiv a0 a1))⟩)) (.no)) (.no)
def en77 (r:R77):Value:=(.int .i64 r.r0)
theorem T77  (a0 a1:Int):evC Try.prog (Ans.c (fun _=>none:Ans)) 60 (.call 77 ⟨[(.int .i64 a0),(.int .i64 a1)]⟩ ⟨[],0,[]⟩) (frzK [0])=(rt77 a0 a1).out (fun r=>.ret (en77 r) ⟨[],0,[]⟩):=by kernel_rfl
def F77 (a0 a1:Int):Option R77:=(rt77 a0 a1).val
section
variable (a0 a1:Int)
def F77_ok:Bool:=(F77 a0 a1).isSome
def F77_0:Int:=match F77 a0 a1 with | some r=>r.r0 | none=>0
end
def dec77:Task→Option (A77×Hp)
  | .call g ⟨[(.int .i64 a0),(.int .i64 a1)]⟩ h=>(match Nat.beq g 77 with | true=>some (⟨a0,a1⟩,h) | false=>none)
  | _=>none
def alt77 (x:A77)(h:Hp):AT:=.br (F77_ok x.a0 x.a1) (.leaf (.ret (.int .i64 (F77_0 x.a0 x.a1)) h)) .no
def p77:Ans:=fnAns dec77 alt77
theorem ha77:∀(x:A77) (h:Hp)(o:Out),(alt77 x h).out=some o→∃r,(rt77 x.a0 x.a1).val=some r∧o=.ret (en77 r) h:=by
  intro x h o e
  unfold alt77 at e
  simp only [AT.out]at e
  obtain ⟨g,e⟩:=cond_some e
  unfold F77_ok at g
  obtain ⟨r,hF⟩:=Option.isSome_iff_exists.1 g
  have hv:F77 x.a0 x.a1=(rt77 x.a0 x.a1).val:=by delta F77;exact rfl
  refine ⟨r,hv.symm.trans hF,?_⟩
  simp only [Option.some.injEq]at e
  rw [← e]
  have k0:F77_0 x.a0 x.a1=r.r0:=by
    show (match F77 x.a0 x.a1 with | some r=>r.r0 | none=>0)=r.r0
    rw [hF]
  rw [k0]<;>rfl
theorem hd77:∀(t:Task) (x:A77)(h:Hp),dec77 t=some (x,h)→t=.call 77 ⟨[(.int .i64 x.a0),(.int .i64 x.a1)]⟩ h:=by
  intro t x h e
  unfold dec77 at e
  split at e
  case h_2=>cases e
  split at e
  case h_2=>cases e
  rename_i hg
  simp only [Option.some.injEq,Prod.mk.injEq]at e
  obtain ⟨rfl,rfl⟩:=e
  rw [Nat.eq_of_beq_eq_true hg]
theorem known77:Known Try.prog p77:=by
  exact Known.fn noNG mixed (Known.nothing Try.prog) (n:=60) (zs:=[0]) 77 (fun x:A77=>[(.int .i64 x.a0),(.int .i64 x.a1)]) (fun x=>rt77 x.a0 x.a1) en77 (fun x=>T77  x.a0 x.a1) (fun x=>rfl) dec77 alt77 hd77 ha77
structure R78 where
  (r0:Int)
structure A78 where
  (a0 a1:Int)
def rt78 (a0 a1:Int):RT R78 :=
  .br (F77_ok (IntKind.wrap .i64 ((0:Int)-a0)) a1) (.leaf ⟨(IntKind.wrap .i64 ((0:Int)-(F77_0 (IntKind.wrap .i64 ((0:Int)-a0)) a1)))⟩) (.no)
def en78 (r:R78):Value:=(.int .i64 r.r0)
theorem T78  (a0 a1:Int):evC Try.prog (Ans.c p77) 60 (.call 78 ⟨[(.int .i64 a0),(.int .i64 a1)]⟩ ⟨[],0,[]⟩) (frzK [0])=(rt78 a0 a1).out (fun r=>.ret (en78 r) ⟨[],0,[]⟩):=by kernel_rfl
def F78 (a0 a1:Int):Option R78:=(rt78 a0 a1).val
section
variable (a0 a1:Int)
def F78_ok:Bool:=(F78 a0 a1).isSome
def F78_0:Int:=match F78 a0 a1 with | some r=>r.r0 | none=>0
end
def dec78:Task→Option (A78×Hp)
  | .call g ⟨[(.int .i64 a0),(.int .i64 a1)]⟩ h=>(match Nat.beq g 78 with | true=>some (⟨a0,a1⟩,h) | false=>none)
  | _=>none
def alt78 (x:A78)(h:Hp):AT:=.br (F78_ok x.a0 x.a1) (.leaf (.ret (.int .i64 (F78_0 x.a0 x.a1)) h)) .no
def p78:Ans:=fnAns dec78 alt78
theorem ha78:∀(x:A78) (h:Hp)(o:Out),(alt78 x h).out=some o→∃r,(rt78 x.a0 x.a1).val=some r∧o=.ret (en78 r) h:=by
  intro x h o e
  unfold alt78 at e
  simp only [AT.out]at e
  obtain ⟨g,e⟩:=cond_some e
  unfold F78_ok at g
  obtain ⟨r,hF⟩:=Option.isSome_iff_exists.1 g
  have hv:F78 x.a0 x.a1=(rt78 x.a0 x.a1).val:=by delta F78;exact rfl
  refine ⟨r,hv.symm.trans hF,?_⟩
  simp only [Option.some.injEq]at e
  rw [← e]
  have k0:F78_0 x.a0 x.a1=r.r0:=by
    show (match F78 x.a0 x.a1 with | some r=>r.r0 | none=>0)=r.r0
    rw [hF]
  rw [k0]<;>rfl
theorem hd78:∀(t:Task) (x:A78)(h:Hp),dec78 t=some (x,h)→t=.call 78 ⟨[(.int .i64 x.a0),(.int .i64 x.a1)]⟩ h:=by
  intro t x h e
  unfold dec78 at e
  split at e
  case h_2=>cases e
  split at e
  case h_2=>cases e
  rename_i hg
  simp only [Option.some.injEq,Prod.mk.injEq]at e
  obtain ⟨rfl,rfl⟩:=e
  rw [Nat.eq_of_beq_eq_true hg]
theorem known78:Known Try.prog p78:=by
  exact Known.fn noNG mixed known77 (n:=60) (zs:=[0]) 78 (fun x:A78=>[(.int .i64 x.a0),(.int .i64 x.a1)]) (fun x=>rt78 x.a0 x.a1) en78 (fun x=>T78  x.a0 x.a1) (fun x=>rfl) dec78 alt78 hd78 ha78
structure R47 where
  (r0 r1:Int)
structure A47 where
  (a0 a1:Int)
  (a2 a3:Int)
def rt47 (a0 a1:Int)(a2 a3:Int):RT R47 :=
  .br (F77_ok a0 a2) (.br (F77_ok a0 a3) (.br (F78_ok a1 a2) (.br (F78_ok a1 a3) (.br (decide (a0=a0)) (.br (decide (a0=a0)) (.br (decide (a3=a3)) (.br (decide (a3=a3)) (.br (decide (a1=a1)) (.br (decide (a1=a1)) (.br (decide (a2=a2)) (.br (decide (a2=a2)) (.br (decide (a1=a1)) (.br (decide (a1=a1)) (.br (decide (a3=a3)) (.br (decide (a3=a3)) (.br (decide (a1=a1)) (.br (decide (a1=a1)) (.br (decide (a2=a2)) (.br (decide (a2=a2)) (.br (decide (a1=a1)) (.br (decide (a1=a1)) (.br (decide (a3=a3)) (.br (decide (a3=a3)) (.br (decide ((min (F77_0 a0 a2) (F77_0 a0 a3))=(min (F77_0 a0 a2) (F77_0 a0 a3)))) (.br (decide ((min (F77_0 a0 a2) (F77_0 a0 a3))=(min (F77_0 a0 a2) (F77_0 a0 a3)))) (.br (decide (a1=a1)) (.br (decide (a1=a1)) (.br (decide (a3=a3)) (.br (decide (a3=a3)) (.br (decide ((min (F77_0 a0 a2) (F77_0 a0 a3))=(min (F77_0 a0 a2) (F77_0 a0 a3))))
 (.br (decide ((min (F77_0 a0 a2) (F77_0 a0 a3))=(min (F77_0 a0 a2) (F77_0 a0 a3)))) (.leaf ⟨(min (F77_0 a0 a2) (F77_0 a0 a3)),(max (F78_0 a1 a2) (F78_0 a1 a3))⟩) (.no)) (.no)) (.no)) (.no)) (.no)) (.no)) (.no)) (.no)) (.no)) (.no)) (.no)) (.no)) (.no)) (.no)) (.no)) (.no)) (.no)) (.no)) (.no)) (.no)) (.no)) (.no)) (.no)) (.no)) (.no)) (.no)) (.no)) (.no)) (.no)) (.no)) (.no)) (.no)
def en47 (r:R47):Value:=(.agg ⟨[(.int .i64 r.r0),(.int .i64 r.r1)]⟩)
theorem T47  (a0 a1:Int) (a2 a3:Int):evC Try.prog (Ans.c (p77.or p78)) 60 (.call 47 ⟨[(.agg ⟨[(.int .i64 a0),(.int .i64 a1)]⟩),(.agg ⟨[(.int .i64 a2),(.int .i64 a3)]⟩)]⟩ ⟨[],0,[]⟩) (frzK [0])=(rt47 a0 a1 a2 a3).out (fun r=>.ret (en47 r) ⟨[],0,[]⟩):=by kernel_rfl
def F47 (a0 a1:Int)(a2 a3:Int):Option R47:=(rt47 a0 a1 a2 a3).val
section
variable (a0 a1:Int) (a2 a3:Int)
def F47_ok:Bool:=(F47 a0 a1 a2 a3).isSome
def F47_0:Int:=match F47 a0 a1 a2 a3 with | some r=>r.r0 | none=>0
def F47_1:Int:=match F47 a0 a1 a2 a3 with | some r=>r.r1 | none=>0
end
def dec47:Task→Option (A47×Hp)
  | .call g ⟨[(.agg ⟨[(.int .i64 a0),(.int .i64 a1)]⟩),(.agg ⟨[(.int .i64 a2),(.int .i64 a3)]⟩)]⟩ h=>(match Nat.beq g 47 with | true=>some (⟨a0,a1,a2,a3⟩,h) | false=>none)
  | _=>none
def alt47 (x:A47)(h:Hp):AT:=.br (F47_ok x.a0 x.a1 x.a2 x.a3) (.leaf (.ret (.agg ⟨[(.int .i64 (F47_0 x.a0 x.a1 x.a2 x.a3)),(.int .i64 (F47_1 x.a0 x.a1 x.a2 x.a3))]⟩) h)) .no
def p47:Ans:=fnAns dec47 alt47
theorem ha47:∀(x:A47) (h:Hp)(o:Out),(alt47 x h).out=some o→∃r,(rt47 x.a0 x.a1 x.a2 x.a3).val=some r∧o=.ret (en47 r) h:=by
  intro x h o e
  unfold alt47 at e
  simp only [AT.out]at e
  obtain ⟨g,e⟩:=cond_some e
  unfold F47_ok at g
  obtain ⟨r,hF⟩:=Option.isSome_iff_exists.1 g
  have hv:F47 x.a0 x.a1 x.a2 x.a3=(rt47 x.a0 x.a1 x.a2 x.a3).val:=by delta F47;exact rfl
  refine ⟨r,hv.symm.trans hF,?_⟩
  simp only [Option.some.injEq]at e
  rw [← e]
  have k0:F47_0 x.a0 x.a1 x.a2 x.a3=r.r0:=by
    show (match F47 x.a0 x.a1 x.a2 x.a3 with | some r=>r.r0 | none=>0)=r.r0
    rw [hF]
  have k1:F47_1 x.a0 x.a1 x.a2 x.a3=r.r1:=by
    show (match F47 x.a0 x.a1 x.a2 x.a3 with | some r=>r.r1 | none=>0)=r.r1
    rw [hF]
  rw [k0,k1]<;>rfl
theorem hd47:∀(t:Task) (x:A47)(h:Hp),dec47 t=some (x,h)→t=.call 47 ⟨[(.agg ⟨[(.int .i64 x.a0),(.int .i64 x.a1)]⟩),(.agg ⟨[(.int .i64 x.a2),(.int .i64 x.a3)]⟩)]⟩ h:=by
  intro t x h e
  unfold dec47 at e
  split at e
  case h_2=>cases e
  split at e
  case h_2=>cases e
  rename_i hg
  simp only [Option.some.injEq,Prod.mk.injEq]at e
  obtain ⟨rfl,rfl⟩:=e
  rw [Nat.eq_of_beq_eq_true hg]
theorem known47:Known Try.prog p47:=by
  exact Known.fn noNG mixed (Known.or known77 known78) (n:=60) (zs:=[0]) 47 (fun x:A47=>[(.agg ⟨[(.int .i64 x.a0),(.int .i64 x.a1)]⟩),(.agg ⟨[(.int .i64 x.a2),(.int .i64 x.a3)]⟩)]) (fun x=>rt47 x.a0 x.a1 x.a2 x.a3) en47 (fun x=>T47  x.a0 x.a1 x.a2 x.a3) (fun x=>rfl) dec47 alt47 hd47 ha47
structure R15 where
  (r0 r1:Int)
  (r2 r3:Int)
  (r4 r5:Int)
  (r6 r7:Int)
structure A15 where
  (a0 a1:Int)
  (a2 a3:Int)
  (a4 a5:Int)
  (a6 a7:Int)
  (a8 a9:Int)
  (a10:Array Value)
  (a11 a12:Nat)
def rt15 (a0 a1:Int)(a2 a3:Int)(a4 a5:Int)(a6 a7:Int)(a8 a9:Int)(a10:Array Value)(a11 a12:Nat):RT R15 :=
  .br (F13_ok a7 a8 a9) (.br (not (decide ((F13_0 a7 a8 a9)=(0:Int)))) (.leaf ⟨(0:Int),(0:Int),(0:Int),(0:Int),(0:Int),(0:Int),(0:Int),(F13_0 a7 a8 a9)⟩) (.br (F43_ok a10 a11 a12) (.br (not (decide ((F43_1 a10 a11 a12)=(0:Int)))) (.leaf ⟨(0:Int),(0:Int),(0:Int),(0:Int),(0:Int),(0:Int),(0:Int),(F43_1 a10 a11 a12)⟩) (.br (F44_ok a0 a1 a2 a3 a4 a5 a6) (.br (not (F44_0 a0 a1 a2 a3 a4 a5 a6)) (.leaf ⟨(0:Int),(0:Int),(0:Int),(0:Int),(0:Int),(0:Int),(0:Int),(7:Int)⟩) (.br (and (decide ((0:Int)≤(IntKind.wrap .i64 ((Int.ofNat a12)-(1:Int))))) (decide ((IntKind.wrap .i64 ((Int.ofNat a12)-(1:Int)))<(Int.ofNat a12)))) (.br (isInt .i64 a10 ((a11+((Int.toNat (IntKind.wrap .i64 ((Int.ofNat a12)-(1:Int))))*6))+1)) (.br (decide ((getInt a10 ((a11+((Int.toNat (IntKind.wrap .i64 ((Int.ofNat a12)-(1:Int))))*6))+1))<a7)) (.leaf ⟨(0:Int),(0:Int),(0:Int),(0:Int),(0:Int),(0:Int),(0:Int),(4:Int)⟩) (.br (F45_ok a10 a11 a12 a7) (.br (F47_ok (F45_0 a10 a11 a12 a7) (F45_1 a10 a11 a12 a7) a8 a9)
 (.br (F47_ok (F45_2 a10 a11 a12 a7) (F45_3 a10 a11 a12 a7) a8 a9) (.br (decide (a1=a1)) (.br (decide (a2=a2)) (.br (decide (a1=a1)) (.br (decide (a2=a2)) (.br (decide (a3=a3)) (.br (decide (a4=a4)) (.br (decide (a3=a3)) (.br (decide (a4=a4)) (.br (decide ((F45_2 a10 a11 a12 a7)=(F45_2 a10 a11 a12 a7))) (.br (decide ((F45_3 a10 a11 a12 a7)=(F45_3 a10 a11 a12 a7))) (.br (decide ((F45_2 a10 a11 a12 a7)=(F45_2 a10 a11 a12 a7))) (.br (decide ((F45_3 a10 a11 a12 a7)=(F45_3 a10 a11 a12 a7))) (.br (decide (a8=a8)) (.br (decide (a9=a9)) (.br (decide (a8=a8)) (.br (decide (a9=a9)) (.br (decide (a3=a3)) (.br (decide (a4=a4)) (.br (decide (a3=a3)) (.br (decide (a4=a4)) (.br (decide ((F45_2 a10 a11 a12 a7)=(F45_2 a10 a11 a12 a7))) (.br (decide ((F45_3 a10 a11 a12 a7)=(F45_3 a10 a11 a12 a7))) (.br (decide ((F45_2 a10 a11 a12 a7)=(F45_2 a10 a11 a12 a7))) (.br (decide ((F45_3 a10 a11 a12 a7)=(F45_3 a10 a11 a12 a7))) (.br (decide (a8=a8)) (.br (decide (a9=a9)) (.br (decide (a8=a8))
 (.br (decide (a9=a9)) (.br (decide (a3=a3)) (.br (decide (a4=a4)) (.br (decide (a3=a3)) (.br (decide (a4=a4)) (.br (F47_ok a7 a7 a8 a9) (.br (decide (a5=a5)) (.br (decide (a6=a6)) (.br (decide (a5=a5))
 (.br (decide (a6=a6)) (.leaf ⟨a0,(F46_0 a1 a2 (F47_0 (F45_0 a10 a11 a12 a7) (F45_1 a10 a11 a12 a7) a8 a9) (F47_1 (F45_0 a10 a11 a12 a7) (F45_1 a10 a11 a12 a7) a8 a9)),(F46_1 a1 a2 (F47_0 (F45_0 a10 a11 a12 a7) (F45_1 a10 a11 a12 a7) a8 a9) (F47_1 (F45_0 a10 a11 a12 a7) (F45_1 a10 a11 a12 a7) a8 a9)),(F46_0 a3 a4 (F47_0 (F45_2 a10 a11 a12 a7) (F45_3 a10 a11 a12 a7) a8 a9) (F47_1 (F45_2 a10 a11 a12 a7) (F45_3 a10 a11 a12 a7) a8 a9)),(F46_1 a3 a4 (F47_0 (F45_2 a10 a11 a12 a7) (F45_3 a10 a11 a12 a7) a8 a9) (F47_1 (F45_2 a10 a11 a12 a7) (F45_3 a10 a11 a12 a7) a8 a9)),(F46_0 a5 a6 (F47_0 a7 a7 a8 a9) (F47_1 a7 a7 a8 a9)),(F46_1 a5 a6 (F47_0 a7 a7 a8 a9) (F47_1 a7 a7 a8 a9)),(0:Int)⟩) (.no)) (.no)) (.no)) (.no)) (.no)) (.no)) (.no)) (.no)) (.no)) (.no)) (.no)) (.no)) (.no)) (.no)) (.no)) (.no)) (.no)) (.no)) (.no)) (.no)) (.no)) (.no)) (.no)) (.no)) (.no)) (.no)) (.no)) (.no)) (.no)) (.no)) (.no)) (.no)) (.no)) (.no)) (.no)) (.no)) (.no)) (.no)) (.no)) (.no))) (.no)) (.no))) (.no))) (.no))) (.no)
def en15 (r:R15):Value:=(.tuple ⟨[(.agg ⟨[(.int .i64 r.r0),(.int .i64 r.r1),(.int .i64 r.r2),(.int .i64 r.r3),(.int .i64 r.r4),(.int .i64 r.r5),(.int .i64 r.r6)]⟩),(.int .i64 r.r7)]⟩)
theorem T15  (a0 a1:Int) (a2 a3:Int) (a4 a5:Int) (a6 a7:Int) (a8 a9:Int) (a10:Array Value) (a11 a12:Nat):evC Try.prog (Ans.c (p13.or (p43.or (p44.or (p45.or (p46.or p47)))))) 60 (.call 15 ⟨[(.agg ⟨[(.int .i64 a0),(.int .i64 a1),(.int .i64 a2),(.int .i64 a3),(.int .i64 a4),(.int .i64 a5),(.int .i64 a6)]⟩),(.agg ⟨[(.int .i64 a7),(.int .i64 a8),(.int .i64 a9)]⟩),(lstV a10 a11 a12 6)]⟩ ⟨[],0,[]⟩) (frzK [0,0])=(rt15 a0 a1 a2 a3 a4 a5 a6 a7 a8 a9 a10 a11 a12).out (fun r=>.ret (en15 r) ⟨[],0,[]⟩):=by kernel_rfl
def F15 (a0 a1:Int)(a2 a3:Int)(a4 a5:Int)(a6 a7:Int)(a8 a9:Int)(a10:Array Value)(a11 a12:Nat):Option R15:=(rt15 a0 a1 a2 a3 a4 a5 a6 a7 a8 a9 a10 a11 a12).val
section
variable (a0 a1:Int) (a2 a3:Int) (a4 a5:Int) (a6 a7:Int) (a8 a9:Int) (a10:Array Value) (a11 a12:Nat)
def F15_ok:Bool:=(F15 a0 a1 a2 a3 a4 a5 a6 a7 a8 a9 a10 a11 a12).isSome
def F15_0:Int:=match F15 a0 a1 a2 a3 a4 a5 a6 a7 a8 a9 a10 a11 a12 with | some r=>r.r0 | none=>0
def F15_1:Int:=match F15 a0 a1 a2 a3 a4 a5 a6 a7 a8 a9 a10 a11 a12 with | some r=>r.r1 | none=>0
def F15_2:Int:=match F15 a0 a1 a2 a3 a4 a5 a6 a7 a8 a9 a10 a11 a12 with | some r=>r.r2 | none=>0
def F15_3:Int:=match F15 a0 a1 a2 a3 a4 a5 a6 a7 a8 a9 a10 a11 a12 with | some r=>r.r3 | none=>0
def F15_4:Int:=match F15 a0 a1 a2 a3 a4 a5 a6 a7 a8 a9 a10 a11 a12 with | some r=>r.r4 | none=>0
def F15_5:Int:=match F15 a0 a1 a2 a3 a4 a5 a6 a7 a8 a9 a10 a11 a12 with | some r=>r.r5 | none=>0
def F15_6:Int:=match F15 a0 a1 a2 a3 a4 a5 a6 a7 a8 a9 a10 a11 a12 with | some r=>r.r6 | none=>0
def F15_7:Int:=match F15 a0 a1 a2 a3 a4 a5 a6 a7 a8 a9 a10 a11 a12 with | some r=>r.r7 | none=>0
end
def dec15:Task→Option (A15×Hp)
  | .call g ⟨[(.agg ⟨[(.int .i64 a0),(.int .i64 a1),(.int .i64 a2),(.int .i64 a3),(.int .i64 a4),(.int .i64 a5),(.int .i64 a6)]⟩),(.agg ⟨[(.int .i64 a7),(.int .i64 a8),(.int .i64 a9)]⟩),(.func (.via 0 ⟨[]⟩ 0 true) a10 ⟨[.slice (some ⟨0,a11,none⟩) a12 6]⟩)]⟩ h=>(match Nat.beq g 15 with | true=>some (⟨a0,a1,a2,a3,a4,a5,a6,a7,a8,a9,a10,a11,a12⟩,h) | false=>none)
  | _=>none
def alt15 (x:A15)(h:Hp):AT:=.br (F15_ok x.a0 x.a1 x.a2 x.a3 x.a4 x.a5 x.a6 x.a7 x.a8 x.a9 x.a10 x.a11 x.a12) (.leaf (.ret (.tuple ⟨[(.agg ⟨[(.int .i64 (F15_0 x.a0 x.a1 x.a2 x.a3 x.a4 x.a5 x.a6 x.a7 x.a8 x.a9 x.a10 x.a11 x.a12)),(.int .i64 (F15_1 x.a0 x.a1 x.a2 x.a3 x.a4 x.a5 x.a6 x.a7 x.a8 x.a9 x.a10 x.a11 x.a12)),(.int .i64 (F15_2 x.a0 x.a1 x.a2 x.a3 x.a4 x.a5 x.a6 x.a7 x.a8 x.a9 x.a10 x.a11 x.a12)),(.int .i64 (F15_3 x.a0 x.a1 x.a2 x.a3 x.a4 x.a5 x.a6 x.a7 x.a8 x.a9 x.a10 x.a11 x.a12)),(.int .i64 (F15_4 x.a0 x.a1 x.a2 x.a3 x.a4 x.a5 x.a6 x.a7 x.a8 x.a9 x.a10 x.a11 x.a12)),(.int .i64 (F15_5 x.a0 x.a1 x.a2 x.a3 x.a4 x.a5 x.a6 x.a7 x.a8 x.a9 x.a10 x.a11 x.a12)),(.int .i64 (F15_6 x.a0 x.a1 x.a2 x.a3 x.a4 x.a5 x.a6 x.a7 x.a8 x.a9 x.a10 x.a11 x.a12))]⟩),(.int .i64 (F15_7 x.a0 x.a1 x.a2 x.a3 x.a4 x.a5 x.a6 x.a7 x.a8 x.a9 x.a10 x.a11 x.a12))]⟩) h)) .no
def p15:Ans:=fnAns dec15 alt15
theorem ha15:∀(x:A15) (h:Hp)(o:Out),(alt15 x h).out=some o→∃r,(rt15 x.a0 x.a1 x.a2 x.a3 x.a4 x.a5 x.a6 x.a7 x.a8 x.a9 x.a10 x.a11 x.a12).val=some r∧o=.ret (en15 r) h:=by
  intro x h o e
  unfold alt15 at e
  simp only [AT.out]at e
  obtain ⟨g,e⟩:=cond_some e
  unfold F15_ok at g
  obtain ⟨r,hF⟩:=Option.isSome_iff_exists.1 g
  have hv:F15 x.a0 x.a1 x.a2 x.a3 x.a4 x.a5 x.a6 x.a7 x.a8 x.a9 x.a10 x.a11 x.a12=(rt15 x.a0 x.a1 x.a2 x.a3 x.a4 x.a5 x.a6 x.a7 x.a8 x.a9 x.a10 x.a11 x.a12).val:=by delta F15;exact rfl
  refine ⟨r,hv.symm.trans hF,?_⟩
  simp only [Option.some.injEq]at e
  rw [← e]
  have k0:F15_0 x.a0 x.a1 x.a2 x.a3 x.a4 x.a5 x.a6 x.a7 x.a8 x.a9 x.a10 x.a11 x.a12=r.r0:=by
    show (match F15 x.a0 x.a1 x.a2 x.a3 x.a4 x.a5 x.a6 x.a7 x.a8 x.a9 x.a10 x.a11 x.a12 with | some r=>r.r0 | none=>0)=r.r0
    rw [hF]
  have k1:F15_1 x.a0 x.a1 x.a2 x.a3 x.a4 x.a5 x.a6 x.a7 x.a8 x.a9 x.a10 x.a11 x.a12=r.r1:=by
    show (match F15 x.a0 x.a1 x.a2 x.a3 x.a4 x.a5 x.a6 x.a7 x.a8 x.a9 x.a10 x.a11 x.a12 with | some r=>r.r1 | none=>0)=r.r1
    rw [hF]
  have k2:F15_2 x.a0 x.a1 x.a2 x.a3 x.a4 x.a5 x.a6 x.a7 x.a8 x.a9 x.a10 x.a11 x.a12=r.r2:=by
    show (match F15 x.a0 x.a1 x.a2 x.a3 x.a4 x.a5 x.a6 x.a7 x.a8 x.a9 x.a10 x.a11 x.a12 with | some r=>r.r2 | none=>0)=r.r2
    rw [hF]
  have k3:F15_3 x.a0 x.a1 x.a2 x.a3 x.a4 x.a5 x.a6 x.a7 x.a8 x.a9 x.a10 x.a11 x.a12=r.r3:=by
    show (match F15 x.a0 x.a1 x.a2 x.a3 x.a4 x.a5 x.a6 x.a7 x.a8 x.a9 x.a10 x.a11 x.a12 with | some r=>r.r3 | none=>0)=r.r3
    rw [hF]
  have k4:F15_4 x.a0 x.a1 x.a2 x.a3 x.a4 x.a5 x.a6 x.a7 x.a8 x.a9 x.a10 x.a11 x.a12=r.r4:=by
    show (match F15 x.a0 x.a1 x.a2 x.a3 x.a4 x.a5 x.a6 x.a7 x.a8 x.a9 x.a10 x.a11 x.a12 with | some r=>r.r4 | none=>0)=r.r4
    rw [hF]
  have k5:F15_5 x.a0 x.a1 x.a2 x.a3 x.a4 x.a5 x.a6 x.a7 x.a8 x.a9 x.a10 x.a11 x.a12=r.r5:=by
    show (match F15 x.a0 x.a1 x.a2 x.a3 x.a4 x.a5 x.a6 x.a7 x.a8 x.a9 x.a10 x.a11 x.a12 with | some r=>r.r5 | none=>0)=r.r5
    rw [hF]
  have k6:F15_6 x.a0 x.a1 x.a2 x.a3 x.a4 x.a5 x.a6 x.a7 x.a8 x.a9 x.a10 x.a11 x.a12=r.r6:=by
    show (match F15 x.a0 x.a1 x.a2 x.a3 x.a4 x.a5 x.a6 x.a7 x.a8 x.a9 x.a10 x.a11 x.a12 with | some r=>r.r6 | none=>0)=r.r6
    rw [hF]
  have k7:F15_7 x.a0 x.a1 x.a2 x.a3 x.a4 x.a5 x.a6 x.a7 x.a8 x.a9 x.a10 x.a11 x.a12=r.r7:=by
    show (match F15 x.a0 x.a1 x.a2 x.a3 x.a4 x.a5 x.a6 x.a7 x.a8 x.a9 x.a10 x.a11 x.a12 with | some r=>r.r7 | none=>0)=r.r7
    rw [hF]
  rw [k0,k1,k2,k3,k4,k5,k6,k7]<;>rfl
theorem hd15:∀(t:Task) (x:A15)(h:Hp),dec15 t=some (x,h)→t=.call 15 ⟨[(.agg ⟨[(.int .i64 x.a0),(.int .i64 x.a1),(.int .i64 x.a2),(.int .i64 x.a3),(.int .i64 x.a4),(.int .i64 x.a5),(.int .i64 x.a6)]⟩),(.agg ⟨[(.int .i64 x.a7),(.int .i64 x.a8),(.int .i64 x.a9)]⟩),(lstV x.a10 x.a11 x.a12 6)]⟩ h:=by
  intro t x h e
  unfold dec15 at e
  split at e
  case h_2=>cases e
  split at e
  case h_2=>cases e
  rename_i hg
  simp only [Option.some.injEq,Prod.mk.injEq]at e
  obtain ⟨rfl,rfl⟩:=e
  rw [Nat.eq_of_beq_eq_true hg]
theorem known15:Known Try.prog p15:=by
  exact Known.fn noNG mixed (Known.or known13 (Known.or known43 (Known.or known44 (Known.or known45 (Known.or known46 known47))))) (n:=60) (zs:=[0,0]) 15 (fun x:A15=>[(.agg ⟨[(.int .i64 x.a0),(.int .i64 x.a1),(.int .i64 x.a2),(.int .i64 x.a3),(.int .i64 x.a4),(.int .i64 x.a5),(.int .i64 x.a6)]⟩),(.agg ⟨[(.int .i64 x.a7),(.int .i64 x.a8),(.int .i64 x.a9)]⟩),(lstV x.a10 x.a11 x.a12 6)]) (fun x=>rt15 x.a0 x.a1 x.a2 x.a3 x.a4 x.a5 x.a6 x.a7 x.a8 x.a9 x.a10 x.a11 x.a12) en15 (fun x=>T15  x.a0 x.a1 x.a2 x.a3 x.a4 x.a5 x.a6 x.a7 x.a8 x.a9 x.a10 x.a11 x.a12) (fun x=>rfl) dec15 alt15 hd15 ha15
end
end Go.Proofs.Ytoghoeebiddblaa
namespace Go.Gi
open Go.RowKit
noncomputable section
def AnyOk (P:Program)(os:Array Oper) (s s':St):Prop :=
  s.h.base≤s.h.bl.length→Pres s.h s'.h∧∀(K:Nat→Prop) (w0:World) (φ:Phi) (w:World) (a:Act) (F:Fence) (n:Nat) (rd:Option Nat) (Q:Exit→Act→World→Prop),
    Inv K w0 φ s.h.bl w→VRs φ s.t.toArray a.tmps→DRs φ s.d a.defers→FenceOk φ rd F→(∀x a w',CodeR K w0 φ .normal s' x a w'→Q x a w')→wpAnyIn F n P .any os Q os.size (Array.replicate os.size false) a { w with drawn:=w.drawn+1 }
theorem drawn_any {P:Program}{self:Self}(hN:NoNG P) (hs:SelfOk P self) {rd:Option Nat}{id:Nat}{os:Array Oper}{s:St}{o:Out}(h:drawn P self rd id os s=some o):∃s',o=.ex .normal s'∧AnyOk P os s s':=by
  unfold drawn at h
  split at h
  case isFalse=>cases h
  rename_i hp
  split at h
  case h_2=>cases h
  rename_i recs T h1 hr
  split at h
  case isFalse=>cases h
  rename_i hc
  simp only [Option.some.injEq]at h
  subst h
  have p:=plan_of hp hr hc
  refine ⟨_,rfl,fun hb=>⟨(p.tr.pres hs hb).1,?_⟩⟩
  intro K w0 φ w a F n rd Q hI ht hd hF hQ
  have h0:∀j,(Array.replicate os.size false).getD j false=false:=fun j=>by
    simp only [Array.getD_eq_getD_getElem?,Array.getElem?_replicate]
    split<;>rfl
  refine p.run hN hs hb os.size _ (List.range os.size) φ a _ (by simp) ?_ ?_ (by simp) ?_ ?_ hd hF hQ
  · intro j k hj;simp only [h0]at hj;cases hj
  · intro i hi _;exact List.mem_range.2 hi
  · rw [HD_none _ fun r _ _=>h0 r.i];exact hI.drew
  · rw [TD_none _ fun r _=>h0 r.i];exact ht
theorem drawnF_any {P:Program}{self:Self}(hN:NoNG P) (hs:SelfOk P self) {rd:Option Nat}{id:Nat}{os:Array Oper}{s:St}{o:Out}(h:drawnF P self rd id os s=some o):∃s',o=.ex .normal s'∧AnyOk P os s s':=by
  unfold drawnF at h
  split at h
  case isFalse=>cases h
  rename_i hp
  split at h
  case h_2=>cases h
  rename_i recs T h1 hr
  split at h
  case isFalse=>cases h
  rename_i hc
  simp only [Option.some.injEq]at h
  subst h
  simp only [Bool.and_eq_true]at hc
  have p:=planF_of hp hr hc.1 hc.2.1
  have hdl:∀r∈recs,r.loud=true→isAl r.o=true→∀t,r.o.dst=some t→t<s.t.length:=by
    intro r hr hl ha t ht
    have:=hc.2.2
    rw [List.all_eq_true]at this
    have:=this r hr
    rw [hl,ha,ht]at this
    simpa using this
  refine ⟨_,rfl,fun hb=>⟨(p.tr.pres hs hb).1,?_⟩⟩
  intro K w0 φ w a F n rd Q hI ht hd hF hQ
  have h0:∀j,(Array.replicate os.size false).getD j false=false:=fun j=>by
    simp only [Array.getD_eq_getD_getElem?,Array.getElem?_replicate]
    split<;>rfl
  have hnf:∀r,¬IsFl recs (fun j=>(Array.replicate os.size false).getD j false) (fun _=>false) r:=fun r hr=>by have:=hr.2.2.2.1;simp only [h0]at this;cases this
  have hI':=hI.drew
  refine p.run hN hs hb hdl os.size _ (List.range os.size) (fun _=>false) (fun _=>0) φ s.t a _ (by simp) ?_ (by simp) ?_ hd hF hQ
  · intro i hi _;exact List.mem_range.2 hi
  · refine ⟨fun i hi=>by (cases hi),fun r _ hD=>by (simp only [h0]at hD;cases hD),pw_all fun _ _ _ _ _ _ h=>by (cases h),fun j k hj=>by (simp only [h0]at hj;cases hj),rfl,fun t _=>?_,ht,?_,?_,fun r hr=>(hnf r hr).elim,fun r _ hr=>(hnf r hr).elim,fun r hr=>(hnf r hr).elim⟩
    · rw [TD_none _ fun r _=>rfl]
    · rw [HD_none _ fun r _ _=>rfl]
      refine hI'.rebase.weaken ?_
      rintro k (hk | ⟨r,hr,_⟩)
      · exact hk
      · exact (hnf r hr).elim
    · exact ⟨hI'.keep,hI'.klt,hI'.size,hI'.os,hI'.tape,hI'.output⟩
theorem drawnX_any {P:Program}{self:Self}(hN:NoNG P) (hs:SelfOk P self) {rd:Option Nat}{id:Nat}{os:Array Oper}{s:St}{o:Out}(h:drawnX P self rd id os s=some o):∃s',o=.ex .normal s'∧AnyOk P os s s':=by
  unfold drawnX at h
  split at h
  · exact drawnF_any hN hs h
  · exact drawn_any hN hs h
theorem blt_lt {a b:Nat}(h:Nat.blt a b=true):a<b:=by rwa [Nat.blt_eq]at h
def depsAt (os:Array Oper)(i:Nat):List Nat:=((os[i]?).map depsOf).getD []
def depsAsc (os:Array Oper):Bool:=(List.range os.size).all fun i=>(depsAt os i).all fun d=>Nat.blt d i
def guardsIn (os:Array Oper)(m:Nat):Bool:=(List.range m).all fun i=>match (os[i]?).bind (·.guard) with
  | none=>true
  | some (j,_)=>Nat.blt j m
def ancs (os:Array Oper):Nat→List Nat→List Nat
  | 0,s=>s
  | f+1,s=>ancs os f (s++((s.flatMap (depsAt os)).filter fun d=>!s.contains d).eraseDups)
def waits (os:Array Oper)(m:Nat):Bool:=depsAsc os&&(guardsIn os m&&(List.range m).all fun j=>(ancs os m (depsAt os m)).contains j)
theorem dep_mem {os:Array Oper}{i:Nat}{o:Oper}(ho:os[i]?=some o) {d:Nat}:d∈depsAt os i↔∃e∈o.after,Region.binds .any e=true∧e.on=d:=by
  unfold depsAt depsOf
  rw [ho]
  simp only [Option.map_some,Option.getD_some,List.mem_map,List.mem_filter,Array.mem_toList_iff,and_assoc]
def ShutL (os:Array Oper)(D:Nat→Prop):Prop:=∀i,D i→∀d∈depsAt os i,D d
theorem ancs_ok {os:Array Oper}{D:Nat→Prop}(hs:ShutL os D):∀(f:Nat) (s:List Nat),(∀i∈s,D i)→∀i∈ancs os f s,D i
  | 0,s,h=>h
  | f+1,s,h=>by
    refine ancs_ok hs f _ fun i hi=>?_
    rcases List.mem_append.1 hi with hi | hi
    · exact h i hi
    · rw [List.mem_eraseDups]at hi
      obtain ⟨hi,_⟩:=List.mem_filter.1 hi
      obtain ⟨j,hj,hij⟩:=List.mem_flatMap.1 hi
      exact hs j (h j hj) i hij
section
variable {P:Program}{F:Fence}{n:Nat}{Q:Exit→Act→World→Prop}
theorem upon_q {o:Oper}{a:Act}{K:Act→World→Prop} {Q':Exit→Act→World→Prop}(hq:∀c a w,Q' (.panic c) a w→Q (.panic c) a w) (hl:LetsOut Q'→LetsOut Q) {r:Result Next}(h:o.uponIn F n P a K Q' r):o.uponIn F n P a K Q r:=by
  cases r with
  | ok x w' =>
    cases x<;>simp only [Oper.uponIn]at h ⊢ <;>
      first
        | exact h
        | exact ⟨h.1,CallsIn.mono h.2 (fun e w'' he=>by cases e<;>first | exact he | exact hq _ _ _ he | exact hl he)⟩
        | exact ⟨h.1,RowsIn.mono h.2 (fun _ _ he=>he)⟩
        | exact ⟨h.1,RoundIn.mono h.2 (fun e w'' he=>by cases e<;>first | exact he | exact hq _ _ _ he | exact hl he)⟩
  | halt x w'=>cases x<;>simp only [Oper.uponIn]at h ⊢<;>first | exact h | exact hq _ _ _ h
theorem any_full {os:Array Oper}{a:Act}{w:World}:∀(fuel:Nat) (listed:Array Bool),(∀j,j<os.size→listed.getD j true=true)→Q .normal a w→wpAnyIn F n P .any os Q fuel listed a w:=by
  intro fuel listed hl hq
  have hr:Region.ready .any os listed=[]:=by
    rw [List.eq_nil_iff_forall_not_mem]
    intro i hi
    rw [mem_ready]at hi
    obtain ⟨h1,o,h2,_⟩:=hi
    rw [hl i (Array.getElem?_eq_some_iff.1 h2).1]at h1;cases h1
  cases fuel with
  | zero=>exact ⟨hr,hq⟩
  | succ fuel=>exact ⟨fun _=>hq,fun i hi=>by rw [hr]at hi;cases hi⟩
theorem getD_tf {l:Array Bool}{j:Nat}(h:j<l.size):l.getD j true=l.getD j false:=by
  simp only [Array.getD_eq_getD_getElem?,Array.getElem?_eq_getElem h,Option.getD_some]
def behind (F:Fence)(n:Nat)(P:Program)(os:Array Oper)(m:Nat)(Q:Exit→Act→World→Prop):Exit→Act→World→Prop
  | .normal,a,w=>wpOpsIn F n P os Q [m] a w
  | e,a,w=>Q e a w
theorem any_last {os:Array Oper}{m:Nat}(hsz:os.size=m+1) (hw:waits os m=true):∀(fuel:Nat) (listed:Array Bool) (a:Act) (w:World),listed.size=m+1→listed.getD m false=false →
    ShutL os (fun j=>listed.getD j false=true)→wpAnyIn F n P .any os.pop (behind F n P os m Q) fuel listed.pop a w→wpAnyIn F n P .any os Q (fuel+1) listed a w:=by
  simp only [waits,Bool.and_eq_true]at hw
  obtain ⟨hasc,hgu,hanc⟩:=hw
  have hpop:∀j,j<m→os.pop[j]?=os[j]?:=fun j hj=>by
    rw [Array.getElem?_pop]
    rw [if_pos (by omega)]
  have hlp:∀(l:Array Bool),l.size=m+1→∀j d,j<m→l.pop.getD j d=l.getD j d:=fun l hl j d hj=>by
    simp only [Array.getD_eq_getD_getElem?,Array.getElem?_pop]
    rw [if_pos (by omega)]
  have hdep:∀i,i<m+1→∀d∈depsAt os i,d<i:=fun i hi d hd=>by
    simp only [depsAsc,List.all_eq_true,List.mem_range,hsz]at hasc
    exact blt_lt (hasc i hi d hd)
  have hready:∀(listed:Array Bool),listed.size=m+1→∀i,i<m→(i∈Region.ready .any os.pop listed.pop↔i∈Region.ready .any os listed):=by
    intro listed hl i hi
    rw [mem_ready,mem_ready,hpop i hi,hlp listed hl i true hi]
    constructor
    · rintro ⟨h1,o,h2,h3⟩
      refine ⟨h1,o,h2,fun e he hb=>?_⟩
      have:=h3 e he hb
      rwa [hlp listed hl e.on false (by have:=hdep i (by omega) e.on ((dep_mem h2).2 ⟨e,he,hb,rfl⟩);omega)]at this
    · rintro ⟨h1,o,h2,h3⟩
      refine ⟨h1,o,h2,fun e he hb=>?_⟩
      rw [hlp listed hl e.on false (by have:=hdep i (by omega) e.on ((dep_mem h2).2 ⟨e,he,hb,rfl⟩);omega)]
      exact h3 e he hb
  have hlast:∀(listed:Array Bool),listed.size=m+1→ShutL os (fun j=>listed.getD j false=true)→m∈Region.ready .any os listed→∀j,j<m→listed.getD j false=true:=by
    intro listed hl hs hm j hj
    rw [mem_ready]at hm
    obtain ⟨_,o,ho,h3⟩:=hm
    simp only [List.all_eq_true,List.mem_range]at hanc
    have:=hanc j hj
    rw [List.contains_iff_mem]at this
    refine ancs_ok hs m _ (fun d hd=>?_) j this
    obtain ⟨e,he,hb,rfl⟩:=(dep_mem ho).1 hd
    exact h3 e he hb
  have hnone:∀(listed:Array Bool),listed.size=m+1→Region.ready .any os.pop listed.pop=[]→∀j,j<m→listed.getD j false=true:=by
    intro listed hl hr j
    induction j using Nat.strongRecOn with
    | _ j ih =>
      intro hj
      cases hc:listed.getD j false with
      | true=>rfl
      | false =>
        exfalso
        have hlt:j<os.size:=by omega
        have ho:os[j]?=some os[j]:=Array.getElem?_eq_getElem hlt
        have:j∈Region.ready .any os.pop listed.pop:=by
          rw [hready listed hl j hj,mem_ready]
          refine ⟨by rw [getD_tf (by omega)];exact hc,_,ho,fun e he hb=>?_⟩
          have hd:=hdep j (by omega) e.on ((dep_mem ho).2 ⟨e,he,hb,rfl⟩)
          exact ih e.on hd (by omega)
        rw [hr]at this;cases this
  have hall:∀(listed:Array Bool),listed.size=m+1→(∀j,j<m→listed.getD j false=true)→∀j,j<os.size→(listed.setIfInBounds m true).getD j true=true:=by
    intro listed hl h j hj
    by_cases hjm:j=m
    · subst hjm;simp [Array.getD_eq_getD_getElem?,hl]
    · rw [getD_set_ne true (Ne.symm hjm),getD_tf (by omega)]
      exact h j (by omega)
  have hend:∀(fuel:Nat) (listed:Array Bool) (a:Act) (w:World),listed.size=m+1→listed.getD m false=false→ShutL os (fun j=>listed.getD j false=true)→(∀j,j<m→listed.getD j false=true)→wpOpsIn F n P os Q [m] a w→wpAnyIn F n P .any os Q (fuel+1) listed a w:=by
    intro fuel listed a w hl hlm hs h hq
    have hms:m<os.size:=by omega
    have ho:os[m]?=some os[m]:=Array.getElem?_eq_getElem hms
    have hmr:m∈Region.ready .any os listed:=by
      rw [mem_ready]
      refine ⟨by rw [getD_tf (by omega)];exact hlm,_,ho,fun e he hb=>?_⟩
      exact h e.on (hdep m (by omega) e.on ((dep_mem ho).2 ⟨e,he,hb,rfl⟩))
    refine ⟨fun hr=>(by rw [hr]at hmr;cases hmr),fun i hi=>?_⟩
    have him:i=m:=by
      rw [mem_ready]at hi
      obtain ⟨h1,o,h2,_⟩:=hi
      have hi2:i<os.size:=(Array.getElem?_eq_some_iff.1 h2).1
      by_cases hlt:i<m
      · rw [getD_tf (by omega),h i hlt]at h1;cases h1
      · omega
    subst him
    rw [wpOpsIn_cons]at hq
    refine wpOpIn_mono (fun a w hk=>?_) hq
    exact any_full _ _ (hall listed hl h) hk
  intro fuel
  induction fuel with
  | zero =>
    intro listed a w hl hlm hs hh
    have hr:=hh.1
    have hq:=hh.2
    exact hend 0 listed a w hl hlm hs (hnone listed hl hr) hq
  | succ fuel ih =>
    intro listed a w hl hlm hs hh
    obtain ⟨hq,hi'⟩:=hh
    cases hr:Region.ready .any os.pop listed.pop with
    | nil=>exact hend (fuel+1) listed a w hl hlm hs (hnone listed hl hr) (hq hr)
    | cons x xs =>
      have hxm:∀i,i∈Region.ready .any os.pop listed.pop→i<m:=fun i hi=>by
        rw [mem_ready]at hi
        obtain ⟨_,o,h2,_⟩:=hi
        have:=(Array.getElem?_eq_some_iff.1 h2).1
        simp at this;omega
      have hx:x∈Region.ready .any os.pop listed.pop:=by rw [hr];simp
      have hxl:=(hready listed hl x (hxm x hx)).1 hx
      refine ⟨fun h=>(by rw [h]at hxl;cases hxl),fun i hi=>?_⟩
      by_cases him:i=m
      · subst him
        have:=hlast listed hl hs hi x (hxm x hx)
        rw [mem_ready]at hxl
        rw [getD_tf (by have:=hxm x hx;omega),this]at hxl
        cases hxl.1
      · have hilt:i<m:=by
          rw [mem_ready]at hi
          obtain ⟨_,o,h2,_⟩:=hi
          have:=(Array.getElem?_eq_some_iff.1 h2).1
          omega
        have h1:=hi' i ((hready listed hl i hilt).2 hi)
        have hlo:(listed.setIfInBounds i true).pop=listed.pop.setIfInBounds i true:=by
          apply Array.ext_getElem?
          intro j
          simp only [Array.getElem?_pop,Array.getElem?_setIfInBounds,Array.size_setIfInBounds,Array.size_pop]
          by_cases hj:j<listed.size-1
          · simp only [if_pos hj]
            by_cases hij:i=j
            · subst hij;simp [hj];omega
            · simp [hij]
          · simp only [if_neg hj]
            by_cases hij:i=j
            · subst hij;omega
            · simp [hij]
        have hrec:∀(a:Act) (w:World),wpAnyIn F n P .any os.pop (behind F n P os m Q) fuel (listed.pop.setIfInBounds i true) a w→wpAnyIn F n P .any os Q (fuel+1) (listed.setIfInBounds i true) a w:=by
          intro a w hk
          refine ih _ a w (by simp [hl]) ?_ ?_ (by rw [hlo];exact hk)
          · rw [getD_set_ne false him];exact hlm
          · intro j hj d hd
            have hi2:=hi
            rw [mem_ready]at hi2
            obtain ⟨_,o,h2,h3⟩:=hi2
            by_cases hji:j=i
            · subst hji
              obtain ⟨e,he,hb,rfl⟩:=(dep_mem h2).1 hd
              exact getD_set_true (h3 e he hb)
            · rw [getD_set_ne false (Ne.symm hji)]at hj
              exact getD_set_true (hs j hj d hd)
        have ho:=hpop i hilt
        unfold wpOpIn at h1 ⊢
        rw [ho]at h1
        split at h1
        · rename_i he;exact hrec a w h1
        · rename_i o he
          have hwant:Region.wanted o (yielded os.pop a.tmps)=Region.wanted o (yielded os a.tmps):=by
            unfold Region.wanted
            split
            · rfl
            · rename_i j want hg
              have:j<m:=by
                simp only [guardsIn,List.all_eq_true,List.mem_range]at hgu
                have:=hgu i hilt
                rw [he]at this
                simp only [Option.bind_some,hg]at this
                exact blt_lt this
              unfold yielded
              rw [hpop j this]
          rw [hwant]at h1
          split at h1
          · rename_i hwt
            rw [if_pos hwt]
            refine Oper.wpIn_mono (fun a w hk=>hrec a w hk) ⟨h1.1,upon_q (fun _ _ _ h=>h) (fun h=>h) h1.2⟩
          · rename_i hwt
            rw [if_neg hwt]
            exact ⟨h1.1,hrec _ _ h1.2⟩
end
def drawnW (P:Program)(self:Self)(rd:Option Nat)(id:Nat)(os:Array Oper)(s:St):Option Out :=
  match waits os (os.size-1)&&Nat.blt 0 os.size with
  | true=>(match drawnX P self rd id os.pop s with
    | some (.ex .normal s')=>runOps P self rd os [os.size-1] s'
    | _=>none)
  | false=>drawnX P self rd id os s
theorem drawnW_ok {P:Program}(hN:NoNG P) (hm:P.follows .mixedOrders=true):DrawnOk P drawnW:=by
  intro self hs rd id os s o h
  unfold drawnW at h
  split at h
  · rename_i hw
    rw [Bool.and_eq_true]at hw
    obtain ⟨hw,hz⟩:=hw
    have hz:0<os.size:=blt_lt hz
    obtain ⟨m,hm1⟩:∃m,os.size=m+1:=⟨os.size-1,by omega⟩
    rw [hm1,Nat.add_sub_cancel]at h hw
    split at h
    case h_2=>cases h
    rename_i s' hd1
    obtain ⟨s2,he,hA⟩:=drawnX_any hN hs hd1
    cases he
    by_cases hb:s.h.base≤s.h.bl.length
    · obtain ⟨hp,hA⟩:=hA hb
      have hb':s'.h.base≤s'.h.bl.length:=by rw [hp.base];exact Nat.le_trans hb hp.len
      obtain ⟨e,s3,rfl,hp2,hh⟩:=runOps_sound hN hs _ s' o h hb'
      refine fun _=>⟨hp.trans hp2,?_⟩
      intro K w0 φ w a F n hI ht hd hF
      refine wpIn_region_any hm ?_
      rw [hm1]
      have hrep:∀j,(Array.replicate (m+1) false).getD j false=false:=fun j=>by
        simp only [Array.getD_eq_getD_getElem?,Array.getElem?_replicate]
        split<;>rfl
      refine any_last hm1 hw m _ a _ (by simp) (hrep m) (fun i hi=>by have hi:(Array.replicate (m+1) false).getD i false=true:=hi;rw [hrep]at hi;cases hi) ?_
      have:=hA K w0 φ w a F n rd (behind F n P os m (CodeR K w0 φ e s3)) hI ht hd hF (fun x a w' hc=>?_)
      · have e1:(Array.replicate (m+1) false).pop=Array.replicate os.pop.size false:=by
          apply Array.ext_getElem?
          intro j
          simp only [Array.getElem?_pop,Array.getElem?_replicate,Array.size_replicate,Array.size_pop,hm1]
          by_cases hj:j<m
          · simp [hj];omega
          · simp [hj]
        have e2:os.pop.size=m:=by simp [hm1]
        rw [e1]
        rw [e2]at this ⊢
        exact this
      · obtain ⟨φ',hle,hx,hT,hD,hI'⟩:=hc
        cases hx
        exact hh K w0 φ' w' a F n _ hI' hT hD (hF.mono hle) (fun x a w' hq=>hq.mono hle)
    · obtain ⟨e,s3,rfl⟩:=step_ok.runOps_ex _ _ _ h
      exact fun h=>absurd h hb
  · exact drawnX_ok hN hm self hs rd id os s o h
abbrev vT:Value:=.bool true
abbrev vF:Value:=.bool false
abbrev vI (n:Nat):Value:=.int .i64 (.ofNat n)
abbrev vJ (n:Nat):Value:=.int .i64 (.negSucc n)
structure CF where
  g:Nat
  args:List Value
  u:Value
def CF.Ok (P:Program)(c:CF):Prop:=∀h,Fact P (.call c.g ⟨c.args⟩ h) (.ret c.u h)
def lookCF (f:Nat)(vs:List Value)(h:Hp):List CF→Option AT
  | []=>none
  | c::r=>match Nat.beq f c.g with
    | true=>(match eqLs (eqVn 8) vs c.args with
      | true=>some (.leaf (.ret c.u h))
      | false=>lookCF f vs h r)
    | false=>lookCF f vs h r
def tabA (l:List CF):Ans:=fun t=>match t with
  | .call f vs h=>lookCF f vs.toList h l
  | _=>none
inductive CFs (P:Program):List CF→Prop
  | nil:CFs P []
  | cons {c:CF} {l:List CF} (h:c.Ok P) (r:CFs P l):CFs P (c::l)
theorem lookCF_ok {P:Program}{f:Nat}{vs:List Value}{h:Hp}:∀{l:List CF},CFs P l→∀{x:AT}{o:Out},lookCF f vs h l=some x→x.out=some o→Fact P (.call f ⟨vs⟩ h) o
  | [],_,x,o,hx,_=>by cases hx
  | c::r,hl,x,o,hx,ho=>by
    cases hl with
    | cons hc hr =>
      unfold lookCF at hx
      split at hx
      · rename_i hf
        split at hx
        · rename_i ha
          simp only [Option.some.injEq]at hx
          subst hx
          simp only [AT.out,Option.some.injEq]at ho
          subst ho
          rw [Nat.eq_of_beq_eq_true hf,eqLs_eq (fun _ _ h=>eqVn_eq h) ha]
          exact hc h
        · exact lookCF_ok hr hx ho
      · exact lookCF_ok hr hx ho
theorem tabA_ok {P:Program}{l:List CF}(hl:CFs P l):Known P (tabA l):=by
  intro t x o h ho
  unfold tabA at h
  split at h
  · rename_i f vs hh
    exact lookCF_ok hl h ho
  · cases h
def frDs (f:Value→Option Value):List Value→Option (List Value)
  | []=>some []
  | v::r=>match f v with
    | some u=>(match frDs f r with
      | some l=>some (u::l)
      | none=>none)
    | none=>none
def frC (f:Value→Option Value)(v:Value):Option Value:=match v with
  | .slice none 0 0=>some (lstV ⟨[]⟩ 0 0 1)
  | v=>f v
def frD (bl:List Ob):Nat→Value→Option Value
  | 0,_=>none
  | n+1,v=>match v with
    | .slice (some ⟨b,off,none⟩) len sz=>(match nthO bl b with
      | some (.cells c false)=>(match frDs (frC (frD bl n)) c.toList with
        | some l=>if off+len*sz≤c.size then some (lstV ⟨l⟩ off len sz) else none
        | none=>none)
      | _=>none)
    | .pointer (some ⟨b,off,none⟩)=>(match nthO bl b with
      | some (.cells c false)=>(match frDs (frC (frD bl n)) c.toList with
        | some l=>some (dptV ⟨l⟩ off)
        | none=>none)
      | _=>none)
    | .agg ⟨l⟩=>(match frDs (frD bl n) l with
      | some l=>some (.agg ⟨l⟩)
      | none=>none)
    | .iface t v=>(match frD bl n v with
      | some v=>some (.iface t v)
      | none=>none)
    | .func (.func g) ⟨l⟩ ⟨m⟩=>(match frDs (frD bl n) l,frDs (frD bl n) m with
      | some l,some m=>some (.func (.func g) ⟨l⟩ ⟨m⟩)
      | _,_=>none)
    | v=>if fz0 v then some v else none
def frDV (bl:List Ob)(v:Value):Option Value:=match v with
  | .tuple ⟨x::l⟩=>(match frDs (frD bl 8) (x::l) with
    | some l=>some (.tuple ⟨l⟩)
    | none=>none)
  | v=>frD bl 8 v
def frDK:Kn
  | .ret v h=>(match frDV h.bl v with
    | some v=>some (.ret v ⟨[],0,[]⟩)
    | none=>none)
  | _=>none
section
variable {K:Nat→Prop}{w0 w:World} {φ:Phi}{X:List Ob}{z:Nat→Option Obj}
theorem frDs_ok {f:Value→Option Value}(hf:∀v u v',f v=some u→VR φ v v'→FR z u v'):∀{l us l':List Value},frDs f l=some us→VRl φ l l'→FRl z us l'
  | [],us,_,h,hv=>by
    cases hv
    simp only [frDs,Option.some.injEq]at h
    subst h;exact .nil
  | v::r,us,_,h,hv=>by
    cases hv with
    | cons h1 h2 =>
      simp only [frDs]at h
      split at h
      · rename_i u hu
        split at h
        · rename_i l hl
          simp only [Option.some.injEq]at h
          subst h
          exact .cons (hf _ _ _ hu h1) (frDs_ok hf hl h2)
        · cases h
      · cases h
theorem FRl.fn {z:Nat→Option Obj} {l l' m m':List Value}(g:FuncId) (h:FRl z l l') (h2:FRl z m m'):FR z (.func (.func g) ⟨l⟩ ⟨m⟩) (.func (.func g) ⟨l'⟩ ⟨m'⟩):=by
  have hh:∀{us ys:List Value},FRl z us ys→(⟨us⟩:Array Value).size=(⟨ys⟩:Array Value).size∧∀i,i<(⟨us⟩:Array Value).size→FR z ((⟨us⟩:Array Value).getD i undef) ((⟨ys⟩:Array Value).getD i undef):=by
    intro us ys hf
    refine ⟨by simpa using hf.agg.1,fun i hi=>?_⟩
    rcases hf.agg.2 i with h5 | h5
    · exact h5
    · simp at hi;omega
  exact .fn (hh h).1 (hh h).2 (hh h2).1 (hh h2).2
theorem cells_frl {c C:Array Value}{base:Nat}(hC:base+c.size≤C.size) (h2:∀(i:Nat) (v:Value),c[i]?=some v→∃v',C[base+i]?=some v'∧VR φ v v'):VRl φ c.toList ((C.toList.drop base).take c.size):=by
  have key:∀(l:List Value) (m:List Value),l.length=m.length→(∀(i:Nat) (v:Value),l[i]?=some v→∃v',m[i]?=some v'∧VR φ v v')→VRl φ l m:=by
    intro l
    induction l with
    | nil=>intro m hl _;cases m with
      | nil=>exact .nil
      | cons _ _=>simp at hl
    | cons x r ih=>intro m hl hh;cases m with
      | nil=>simp at hl
      | cons y s =>
        refine .cons ?_ (ih s (by simpa using hl) fun i v hv=>by simpa using hh (i+1) v (by simpa using hv))
        obtain ⟨v',h3,h4⟩:=hh 0 x rfl
        simp only [List.getElem?_cons_zero,Option.some.injEq]at h3
        rw [h3];exact h4
  refine key _ _ (by simp;omega) fun i v hv=>?_
  have hv2:c[i]?=some v:=by rw [← Array.getElem?_toList];exact hv
  obtain ⟨v',h3,h4⟩:=h2 i v hv2
  refine ⟨v',?_,h4⟩
  have hi:i<c.size:=by rw [Array.getElem?_eq_some_iff]at hv2;exact hv2.1
  rw [List.getElem?_take,if_pos hi,List.getElem?_drop,Array.getElem?_toList]
  exact h3
theorem FRl.cells {l:List Value}{C:Array Value}{base n:Nat}(h:FRl z l ((C.toList.drop base).take n)) (hC:base+n≤C.size):l.length=n∧∀i,i<(⟨l⟩:Array Value).size→FR z ((⟨l⟩:Array Value).getD i undef) (C.getD (base+i) undef):=by
  have hn:l.length=n:=by rw [h.agg.1];simp;omega
  refine ⟨hn,fun i hi=>?_⟩
  have hi':i<n:=by simpa [hn] using hi
  rcases h.agg.2 i with h1 | h1
  · have e:(⟨(C.toList.drop base).take n⟩:Array Value).getD i undef=C.getD (base+i) undef:=by
      rw [Array.getD_eq_getD_getElem?,Array.getD_eq_getD_getElem?]
      have:(⟨(C.toList.drop base).take n⟩:Array Value)[i]?=C[base+i]?:=by
        rw [← Array.getElem?_toList,List.getElem?_take,if_pos hi',List.getElem?_drop,Array.getElem?_toList]
      rw [this]
    rw [← e];exact h1
  · omega
theorem frC_ok {f:Value→Option Value}(hf:∀v u v',f v=some u→VR φ v v'→FR z u v'):∀v u v',frC f v=some u→VR φ v v'→FR z u v':=by
  intro v u v' h hv
  unfold frC at h
  split at h
  · cases h;cases hv;exact .lstZ _ _ _ _
  · exact hf _ _ _ h hv
theorem frD_ok (h:Made 0 z φ X w):∀{n:Nat} {v u v':Value},frD X n v=some u→VR φ v v'→FR z u v'
  | 0,_,_,_,hk,_=>by cases hk
  | n+1,v,u,v',hk,hv=>by
    have ih:∀v u v',frD X n v=some u→VR φ v v'→FR z u v':=fun v u v' h1 h2=>frD_ok h h1 h2
    unfold frD at hk
    split at hk
    · rename_i b off len sz
      rw [nthO_eq]at hk
      split at hk
      · rename_i c hb
        split at hk
        · rename_i l hl
          split at hk
          · rename_i hle
            simp only [Option.some.injEq]at hk
            subst hk
            obtain ⟨B,base,tot,C,el,fr,h3,hz,h8,h6⟩:=h.obs b _ hb (Nat.zero_le _)
            cases hv with
            | sliceZ _ a' k'=>exact .lstZ _ _ _ _
            | slice hφ hl1 hc =>
              rw [h3]at hφ;cases hφ
              obtain ⟨k1,k2⟩:=(frDs_ok (frC_ok ih) hl (cells_frl h8 h6)).cells h8
              exact .lst hz (by simpa [k1] using h8) k2 hl1 (by simpa [k1] using hle)
          · cases hk
        · cases hk
      · cases hk
    · rename_i b off
      rw [nthO_eq]at hk
      split at hk
      · rename_i c hb
        split at hk
        · rename_i l hl
          simp only [Option.some.injEq]at hk
          subst hk
          obtain ⟨B,base,tot,C,el,fr,h3,hz,h8,h6⟩:=h.obs b _ hb (Nat.zero_le _)
          cases hv with
          | ptr hφ =>
            rw [h3]at hφ;cases hφ
            obtain ⟨k1,k2⟩:=(frDs_ok (frC_ok ih) hl (cells_frl h8 h6)).cells h8
            exact .dpt hz (by simpa [k1] using h8) k2
        · cases hk
      · cases hk
    · rename_i l
      split at hk
      · rename_i us hl
        simp only [Option.some.injEq]at hk
        subst hk
        obtain ⟨⟨ys⟩,rfl,hs⟩:=hv.agg_inv
        exact (frDs_ok ih hl hs.toList).fr
      · cases hk
    · rename_i t x
      split at hk
      · rename_i y hy
        simp only [Option.some.injEq]at hk
        subst hk
        cases hv with
        | iface _ hv=>exact .iface _ (ih _ _ _ hy hv)
      · cases hk
    · rename_i g l m
      split at hk
      · rename_i us ws hl hm
        simp only [Option.some.injEq]at hk
        subst hk
        cases hv with
        | @fn _ _ first' _ cap' hg h1 h2 h3 h4 =>
          obtain ⟨first'⟩:=first'
          obtain ⟨cap'⟩:=cap'
          exact FRl.fn g (frDs_ok ih hl (VRs.toList (VRs.of h1 h2))) (frDs_ok ih hm (VRs.toList (VRs.of h3 h4)))
      · cases hk
    · split at hk
      · rename_i hf
        simp only [Option.some.injEq]at hk
        subst hk
        exact fz0_fr h hf hv
      · cases hk
theorem FRl.vrl {ψ:Phi} {l l':List Value}(h:FRl ψ.z l l'):VRl ψ l l':=by
  induction h with
  | nil=>exact .nil
  | cons h _ ih=>exact .cons h.vr ih
theorem frDV_ok {ψ:Phi}(h:Made 0 ψ.z φ X w) {v u v':Value}(hk:frDV X v=some u) (hv:VR φ v v'):VR ψ u v':=by
  unfold frDV at hk
  split at hk
  · rename_i x l
    split at hk
    · rename_i us hl
      simp only [Option.some.injEq]at hk
      subst hk
      obtain ⟨⟨ys⟩,rfl,hs⟩:=hv.tuple_inv rfl
      exact (frDs_ok (fun _ _ _ h1 h2=>frD_ok h h1 h2) hl hs.toList).vrl.vrs.tuple
    · cases hk
  · exact (frD_ok h hk hv).vr
end
section
variable {P:Program}
theorem Fact.liftD {f:FuncId}{args:Array Value}{v u:Value}{h1:Hp}(hf:Fact P (.call f args ⟨[],0,[]⟩) (.ret v h1)) (hfz:frDV h1.bl v=some u)
    (ha:args.toList.all pureA=true) (h:Hp):Fact P (.call f args h) (.ret u h):=by
  obtain ⟨_,hh⟩:=hf.1 (Nat.le_refl _)
  refine ⟨fun hb=>⟨Pres.refl _,?_⟩,trivial⟩
  intro K w0 φ w args' n hI hA
  have hI':Inv K w0 φ ([]++h.bl) w:=hI
  have hN:=hI'.narrow (H0:=[]) (fun b ob h=>by simp at h)
  have hA1:VRs (cut φ ([]:List Ob).length) args args':=VRs.of hA.size fun i hi=>scT_cut (all_getD (p:=pureA) ha hi) (hA.getD i)
  refine (hh _ w _ w args' n hN hA1).mono ?_
  intro e w' he
  cases e with
  | returned v' =>
    obtain ⟨φ',hle,hv',hF⟩:=he
    have hZ:=hF.freeze (H1:=[]) (k:=0) (fun b ob h=>by simp at h)
    have k1:=frDV_ok (ψ:=⟨fun b=>if b<([]:List Ob).length+0 then φ' b else none,zF φ' h1.bl 0 w'⟩) (zF_made hF 0) hfz hv'
    have hle2:le (cut φ ([]:List Ob).length) ⟨fun b=>if b<([]:List Ob).length+0 then φ' b else none,zF φ' h1.bl 0 w'⟩:=by
      refine ⟨fun b x hx=>?_,fun B o hB=>(zF_made hF 0).le B o (hle.zz B o hB)⟩
      rw [cut_ge (show ([]:List Ob).length≤b from Nat.zero_le b)]at hx;cases hx
    obtain ⟨φ'',q1,q2,q3⟩:=hI'.widen (H1:=[]) (X:=[]) hZ hle2 .nil
    refine ⟨φ'',q1,?_,q3⟩
    have hc:cut ⟨fun b=>if b<([]:List Ob).length+0 then φ' b else none,zF φ' h1.bl ([]:List Ob).length w'⟩ ([]:List Ob).length=⟨fun b=>if b<([]:List Ob).length+0 then φ' b else none,zF φ' h1.bl 0 w'⟩:=by
      unfold cut
      simp
    rw [hc]at q2
    exact k1.mono q2
  | panicked ch=>exact he.elim
  | outgrown=>exact he.elim
end
def hasApp (os:Array Oper):Bool:=os.toList.any fun o=>match o.op with
  | .call { callee:=.builtin b,.. }=>(match b with | .append | .copy=>true | _=>false)
  | _=>false
def forceK (k:Kn):Kn:=fun o=>match o with
  | .ex e s=>forceE s.h.bl fun bl=>k (.ex e ⟨s.t,s.d,⟨bl,s.h.base,s.h.wr⟩⟩)
  | o=>k o
theorem forceK_eq (k:Kn):forceK k=k:=by
  funext o
  cases o with
  | ex e s=>simp only [forceK,forceE_eq]
  | _=>rfl
def catL:List Value→Nat→Nat→List Value→List Value
  | [],_,_,m=>m
  | x::r,off,n,m=>match off with
    | o+1=>catL r o n m
    | 0=>(match n with
      | k+1=>x::catL r 0 k m
      | 0=>m)
theorem catL_eq:∀(l:List Value) (off n:Nat) (m:List Value),catL l off n m=(l.drop off).take n++m
  | [],off,n,m=>by simp [catL]
  | x::r,0,0,m=>by simp [catL]
  | x::r,0,k+1,m=>by simp [catL,catL_eq r 0 k m]
  | x::r,o+1,n,m=>by simp [catL,catL_eq r o n m]
theorem catA_eq (c:Array Value)(off n:Nat)(m:Array Value):(⟨catL c.toList off n m.toList⟩:Array Value)=c.extract off (off+n)++m:=by
  apply Array.ext'
  rw [catL_eq,Array.toList_append,Array.toList_extract,List.extract]
  simp
def appendZ (P:Program)(h:Hp)(ts tx:TypeId)(s x:Value)(k:Value→Hp→Option Out):Option Out :=
  match P.underlying ts,P.underlying tx with
  | some (.slice e),some d =>
    if intB d=true then none else
    match P.info? e,zeroB P e with
    | some inf,some z =>
      natF inf.size fun isz=>natF inf.bytes fun iby =>
      match s,lenB x with
      | .slice base sl sz,some n =>
        natF n fun n =>
        cond (decide (n=0)) (k (.slice base sl sz) h)
        (newC h.bl isz n x fun news =>
          cond (decide (news.size=n*isz)&&(oneAll news&&decide (z.cells.size=isz))) (cond (decide ((sl+n)*iby≤140737488355328)&&decide (sl+n≤4611686018427387904))
            (match base with
            | none=>cond (decide (sl=0)) (k (.slice (some ⟨h.bl.length,0,none⟩) n isz) (h.push (.cells news false))) none
            | some ⟨b,off,none⟩ =>
              match nthO h.bl b with
              | some (.cells c false) =>
                cond (decide (sz=isz)) (cond (decide (off+sl*isz≤c.size))
                  (k (.slice (some ⟨h.bl.length,0,none⟩) (sl+n) isz) ((h.put b .dead).push (.cells ⟨catL c.toList off (sl*isz) news.toList⟩ false))) none) none
              | _=>none
            | _=>none) none) none)
      | _,_=>none
    | _,_=>none
  | _,_=>none
theorem appendZ_eq:appendZ=appendC:=by
  funext P h ts tx s x k
  simp only [appendZ,appendC,catA_eq]
  rfl
def loudZ (P:Program) (ρ:Operand→Value)(h:Hp)(o:Oper)(k:Ends):Option Out :=
  match o.op with
  | .call { callee:=.builtin .append,args,argTypes } =>
    match args.toList,argTypes.toList with
    | [s,x],[ts,tx]=>if okO s&&okO x then appendZ P h ts tx (ρ s) (ρ x) k.val else none
    | _,_=>none
  | _=>loudC P ρ h o k
theorem loudZ_eq:loudZ=loudC:=by
  funext P ρ h o k
  unfold loudZ
  split
  · rename_i args ts ho
    unfold loudC
    simp only [ho,appendZ_eq]
    rfl
  · rfl
def opDZ (P:Program)(self:SelfC)(T:List Value)(h:Hp)(o:Oper)(k:Value→Hp→Bool→Option Out):Option Out :=
  match o.op with
  | .pick c a b=>if okO c&&okO a&&okO b then (match evalT T c with | .bool t=>cond t (k (evalT T a) h false) (k (evalT T b) h false) | _=>none) else none
  | _ =>
    match symR P (evalT T) h.bl o with
    | some (b,v)=>cond b (k v h false) none
    | none=>match aread P (evalT T) h.bl o with
      | some v=>k v h false
      | none=>loudZ P (evalT T) h o {
        val:=fun v h'=>heapK h' fun h'=>k v h' true
        enter:=fun f args=>headsK args fun args=>self (.call f ⟨args⟩ h) fun | .ret v h'=>k v h' true | _=>none
        yield:=fun l args=>headsK args fun args=>self (.round l ⟨args⟩ h) fun | .ret v h'=>k v h' true | _=>none
        defer:=fun _=>none
        panic:=fun _=>none }
theorem opDZ_eq:opDZ=opD:=by
  funext P self T h o k
  simp only [opDZ,loudZ_eq]
  rfl
def drunZ (P:Program)(self:SelfC)(os:Array Oper):List Nat→List Value→Hp→(List Rec→List Value→Hp→Option Out)→Option Out
  | [],T,h,k=>k [] T h
  | i::r,T,h,k =>
    match os[i]? with
    | none=>none
    | some o =>
      guardC os o T
        (fun T=>opDZ P self T h o fun v h' loud=>headK v fun v=>setK' T o.dst v fun T'=>drunZ P self os r T' h' fun l T2 h2=>k (⟨i,o,T,v,h,h',loud⟩::l) T2 h2)
        (fun T=>setK' T o.dst undef fun T'=>drunZ P self os r T' h fun l T2 h2=>k (⟨i,o,T,undef,h,h,false⟩::l) T2 h2)
theorem drunZ_eq (P:Program)(self:SelfC)(os:Array Oper):∀l,drunZ P self os l=drunC P self os l
  | []=>rfl
  | i::r=>by
    funext T h k
    simp only [drunZ,drunC,drunZ_eq P self os r,opDZ_eq]
    rfl
def drawnFZ (P:Program)(self:SelfC)(os:Array Oper)(s:St)(k:Ex→St→Option Out):Option Out :=
  if planOk os (late os) (mkClo os (late os) (List.replicate os.size 0)) then
    drunZ P self os (late os) s.t s.h fun recs T h =>
      if floatOk (mkClo os (late os) (List.replicate os.size 0)) [] recs&&recs.all fun r=>!(r.loud&&isAl r.o)||r.o.dst.all fun t=>decide (t<s.t.length) then
        fchkC P os (mkClo os (late os) (List.replicate os.size 0)) recs (k .normal { t:=T,d:=s.d,h:=h })
      else none
  else none
def drawnNZ (P:Program)(self:SelfC)(os:Array Oper)(s:St)(k:Ex→St→Option Out):Option Out :=
  if planOk os (Region.linearise .any os 0) (mkClo os (Region.linearise .any os 0) (List.replicate os.size 0)) then
    drunZ P self os (Region.linearise .any os 0) s.t s.h fun recs T h =>
      chkC P os (mkClo os (Region.linearise .any os 0) (List.replicate os.size 0)) recs (k .normal { t:=T,d:=s.d,h:=h })
  else none
def drawnXZ (P:Program)(self:SelfC)(os:Array Oper)(s:St)(k:Ex→St→Option Out):Option Out :=
  match floaty os (mkClo os (Region.linearise .any os 0) (List.replicate os.size 0)) with
  | true=>drawnFZ P self os s k
  | false=>drawnNZ P self os s k
theorem drawnXZ_eq:drawnXZ=drawnXC:=by
  funext P self os s k
  simp only [drawnXZ,drawnXC,drawnFZ,drawnFC,drawnNZ,drawnC,drunZ_eq]
  rfl
def opZ (P:Program) (ρ:Operand→Value)(h:Hp)(o:Oper)(k:Ends):Option Out :=
  match o.op with
  | .pick c a b=>if okO c&&okO a&&okO b then (match ρ c with | .bool t=>cond t (k.val (ρ a) h) (k.val (ρ b) h) | _=>none) else none
  | _ =>
    match symR P ρ h.bl o with
    | some (b,v)=>cond b (k.val v h) none
    | none=>match aread P ρ h.bl o with
      | some v=>k.val v h
      | none=>loudZ P ρ h o k.heap
theorem opZ_eq:opZ=opC:=by
  funext P ρ h o k
  simp only [opZ,loudZ_eq]
  rfl
def runOpsZ (P:Program)(self:SelfC)(rd:Option Nat)(os:Array Oper):List Nat→St→(Ex→St→Option Out)→Option Out
  | [],s,k=>k .normal s
  | i::r,s,k =>
    match os[i]? with
    | none=>runOpsZ P self rd os r s k
    | some o =>
      guardC os o s.t
        (fun t=>opZ P (evalT t) s.h o {
          val:=fun v h=>setK' t o.dst v fun t=>runOpsZ P self rd os r { t:=t,d:=s.d,h:=h } k
          enter:=fun f args=>headsK args fun args=>self (.call f ⟨args⟩ s.h) fun
            | .ret v h=>setK' t o.dst v fun t=>runOpsZ P self rd os r { t:=t,d:=s.d,h:=h } k
            | .pan v h=>k (.panic v) { t:=t,d:=s.d,h:=h }
            | _=>none
          yield:=fun l args=>headsK args fun args=>self (.round l ⟨args⟩ s.h) fun
            | .ret v h=>setK' t o.dst v fun t=>runOpsZ P self rd os r { t:=t,d:=s.d,h:=h } k
            | _=>none
          defer:=fun d=>if rd.isNone then setK' t o.dst undef fun t=>runOpsZ P self rd os r { t:=t,d:=d::s.d,h:=s.h } k else none
          panic:=fun v=>k (.panic v) { t:=t,d:=s.d,h:=s.h } })
        (fun t=>setK' t o.dst undef fun t=>runOpsZ P self rd os r { t:=t,d:=s.d,h:=s.h } k)
theorem runOpsZ_eq (P:Program)(self:SelfC)(rd:Option Nat)(os:Array Oper):∀l,runOpsZ P self rd os l=runOpsC P self rd os l
  | []=>rfl
  | i::r=>by
    funext s k
    simp only [runOpsZ,runOpsC,runOpsZ_eq P self rd os r,opZ_eq]
    rfl
def drawnWZ (P:Program)(self:SelfC)(rd:Option Nat)(os:Array Oper)(s:St)(k:Ex→St→Option Out):Option Out :=
  match waits os (os.size-1)&&Nat.blt 0 os.size with
  | true=>drawnXZ P self os.pop s fun e s'=>(match e with
    | .normal=>runOpsZ P self rd os [os.size-1] s' k
    | _=>none)
  | false=>drawnXZ P self os s k
theorem drawnWZ_ok {P:Program}{self:SelfC}{sd:Self}(hs:CpsOk self sd) {rd:Option Nat}{id:Nat}{os:Array Oper}{s:St}{k:Ex→St→Option Out}{r:Out}(hc:drawnWZ P self rd os s k=some r) :
    ∃e s',drawnW P sd rd id os s=some (.ex e s')∧k e s'=some r:=by
  unfold drawnWZ at hc
  unfold drawnW
  by_cases hw:(waits os (os.size-1)&&Nat.blt 0 os.size)=true
  · rw [hw]at hc ⊢
    simp only [drawnXZ_eq]at hc
    obtain ⟨e,s',h1,h2⟩:=drawnXC_ok (rd:=rd) (id:=id) hs hc
    simp only [h1]
    cases e with
    | normal =>
      simp only at h2 ⊢
      rw [runOpsZ_eq]at h2
      exact runOpsC_ok hs h2
    | _=>cases h2
  · rw [Bool.eq_false_iff.2 hw]at hc ⊢
    simp only [drawnXZ_eq]at hc
    exact drawnXC_ok hs hc
def stepZ (P:Program)(self:SelfC):SelfC:=fun t k=>match t with
  | .code rd (.region id os dr) s=>(match dr with
    | true=>drawnWZ P self rd os s fun e s'=>(match hasApp os with
      | true=>forceK k (.ex e s')
      | false=>k (.ex e s'))
    | false=>(match hasApp os with
      | true=>runOpsZ P self rd os (List.range os.size) s fun e s'=>forceK k (.ex e s')
      | false=>stepC P self (.code rd (.region id os false) s) k))
  | t=>stepC P self t k
theorem stepF_drawn {P:Program}{sd:Self}{t:Task}{d1 d2:Program→Self→Option Nat→Nat→Array Oper→St→Option Out}(h:∀rd id os s,t≠.code rd (.region id os true) s):stepF d1 P sd t=stepF d2 P sd t:=by
  cases t with
  | code rd c s =>
    cases c with
    | region id os dr =>
      cases dr with
      | true=>exact (h rd id os s rfl).elim
      | false=>rfl
    | _=>rfl
  | _=>rfl
theorem stepZ_ok {P:Program}{self:SelfC}{sd:Self}(hs:CpsOk self sd):CpsOk (stepZ P self) (stepF drawnW P sd):=by
  intro t k r hc
  unfold stepZ at hc
  split at hc
  · rename_i rd id os dr s
    cases dr with
    | true =>
      simp only at hc
      obtain ⟨e,s',h1,h2⟩:=drawnWZ_ok (id:=id) hs hc
      refine ⟨.ex e s',by simpa only [stepF,if_true] using h1,?_⟩
      split at h2
      · rw [forceK_eq]at h2;exact h2
      · exact h2
    | false =>
      simp only at hc
      split at hc
      · rw [runOpsZ_eq,forceK_eq]at hc
        obtain ⟨o,h1,h2⟩:=stepC_ok hs (.code rd (.region id os false) s) k r hc
        exact ⟨o,(stepF_drawn (fun _ _ _ _ h=>by cases h)).trans h1,h2⟩
      · obtain ⟨o,h1,h2⟩:=stepC_ok hs (.code rd (.region id os false) s) k r hc
        exact ⟨o,(stepF_drawn (fun _ _ _ _ h=>by cases h)).trans h1,h2⟩
  · rename_i hn
    obtain ⟨o,h1,h2⟩:=stepC_ok hs _ k r hc
    exact ⟨o,(stepF_drawn (fun rd id os s h=>hn rd id os true s h)).trans h1,h2⟩
def evZ (P:Program)(oc:Task→Kn→Option (Option Out)):Nat→SelfC
  | 0,_,_=>none
  | n+1,t,k=>match oc t k with
    | some r=>r
    | none=>stepZ P (evZ P oc n) t k
theorem evZ_ok {P:Program}{oc:Task→Kn→Option (Option Out)}{orc:Self}(ho:OcOk oc orc):∀n,CpsOk (evZ P oc n) (iterO orc drawnW P n)
  | 0=>fun _ _ _ h=>by cases h
  | n+1=>by
    intro t k r h
    simp only [evZ]at h
    simp only [iterO]
    split at h
    · rename_i r' hr
      subst h
      obtain ⟨o,h1,h2⟩:=ho.1 _ _ _ hr
      rw [h1];exact ⟨_,rfl,h2⟩
    · rename_i hr
      rw [ho.2 _ _ hr]
      exact stepZ_ok (evZ_ok ho n) t k r h
theorem Known.factZ {P:Program}(hN:NoNG P) (hm:P.follows .mixedOrders=true) {a:Ans}(hk:Known P a) {n:Nat}{t:Task}{k:Kn}{r:Out}(h:evZ P a.c n t k=some r):∃o,k o=some r∧Fact P t o:=by
  obtain ⟨o',h1,h2⟩:=evZ_ok (P:=P) a.oc n t k r h
  have hh:=iterO_ok (drawn:=drawnW) hN (drawnW_ok hN hm) hk.selfOk hk.loopOk n
  refine ⟨o',h2,hh.1 _ _ h1,?_⟩
  unfold LoopFact
  split
  · exact fun hb=>hh.2 _ _ _ _ _ h1 hb
  · trivial
def CF.chk (P:Program)(l:List CF)(n:Nat)(c:CF):Bool:=match evZ P (tabA l).c n (.call c.g ⟨c.args⟩ ⟨[],0,[]⟩) frDK with
  | some (.ret u ⟨[],0,[]⟩)=>(match eqVn 12 u c.u with
    | true=>c.args.all pureA
    | false=>false)
  | _=>false
section
variable {P:Program}(hN:NoNG P) (hm:P.follows .mixedOrders=true)
include hN hm
theorem CF.of2 {l:List CF}(hl:CFs P l) (n:Nat) {c:CF}(h:c.chk P l n=true):c.Ok P:=by
  unfold CF.chk at h
  split at h
  · rename_i u he
    split at h
    · rename_i hu
      have e:=eqVn_eq hu
      subst e
      intro hp
      obtain ⟨o,h3,hf⟩:=(tabA_ok hl).factZ hN hm he
      cases o with
      | ret v h' =>
        simp only [frDK]at h3
        split at h3
        · rename_i u hu
          simp only [Option.some.injEq,Out.ret.injEq,and_true]at h3
          subst h3
          exact hf.liftD hu h hp
        · cases h3
      | _=>cases h3
    · cases h
  · cases h
end
end
end Go.Gi
namespace Go.Proofs.Ytoghoeebiddblaa
open Go.Gi Go.RowKit
noncomputable section
set_option maxRecDepth 100000
set_option maxHeartbeats 4000000
def wKnown0:Array Value:=⟨[.string ⟨⟨[102,97,114,109]⟩⟩,vI 2000,vI 5000,vI 0,vI 999,vI 100,.string ⟨⟨[108,97,107,101]⟩⟩,vI 2500,vI 2600,vI 1500,vI 1600,vJ 0]⟩
def wKnown1:Array Value:=⟨[vI 0,vI 2999,vI 0,vI 1999,vI 1000,lstV ⟨[vJ 999,vI 500,vI 1,vI 0,vI 200]⟩ 0 1 5,lstV wKnown0 0 2 6,vJ 1999,vI 500,vI 0,vI 100,vI 200,vI 10,vI 20]⟩
def wKnown2:Array Value:=⟨[.func (.func 133) ⟨[]⟩ ⟨[dptV ⟨[vJ 999,vI 500,vI 1,vI 0,vI 200]⟩ 0]⟩]⟩
def wKnown3:Array Value:=⟨[.func (.func 134) ⟨[]⟩ ⟨[dptV ⟨[vJ 999,vI 500,vI 1,vI 0,vI 200]⟩ 0]⟩]⟩
def wKnown4:Array Value:=⟨[dptV wKnown3 0,dptV ⟨[vJ 999,vI 500,vI 1,vI 0,vI 200]⟩ 0,dptV wKnown2 0]⟩
def wKnown5:Array Value:=⟨[.func (.func 135) ⟨[]⟩ ⟨[dptV wKnown2 0]⟩,.func (.func 136) ⟨[]⟩ wKnown4,.func (.func 137) ⟨[]⟩ wKnown4]⟩
def wKnown6:Array Value:=⟨[vI 0,vI 999,vI 0,vI 999,vI 0,vI 1000,vI 1999,vI 0,vI 999,vI 0,vI 2000,vI 2999,vI 0,vI 999,vI 100,vI 1000,vI 1999,vI 1000,vI 1999,vI 0,vI 2000,vI 2999,vI 1000,vI 1999,vJ 0]⟩
def wKnown7:Array Value:=⟨[vI 0,vI 25,vI 35,vI 1,vI 45,vI 55,vI 3,vI 65,vI 75,vI 2,vI 100,vI 110,vJ 0,vI 155,vI 175]⟩
def wKnown13:Array Value:=⟨[vI 0,vI 200000,vI 600,vI 780,vJ 149,vI 80,vI 200000,vI 1000000,vI 640,vI 740,vJ 109,vI 240]⟩
def wKnown14:Array Value:=⟨[.agg ⟨[vI 184000000,vI 230000000]⟩,.agg ⟨[vJ 40999999,vI 40000000]⟩]⟩
def wKnown15:Array Value:=⟨[.agg ⟨[vI 0,vI 3066666,vI 4601000,vJ 819999,vI 801000,vI 5500,vI 6510]⟩,vI 0]⟩
end
end Go.Proofs.Ytoghoeebiddblaa
