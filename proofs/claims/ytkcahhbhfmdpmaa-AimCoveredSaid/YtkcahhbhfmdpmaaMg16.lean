/- Part 16 of the texts below the claim. Conditions: none. -/
import Derived.Test.YtkcahhbhfmdpmaaMg7
import Derived.Test.YtkcahhbhfmdpmaaMg15
import Derived.Test.YtkcahhbhfmdpmaaMg8
import Derived.Test.YtkcahhbhfmdpmaaMg12
import Derived.Test.YtkcahhbhfmdpmaaMg13
import Derived.Test.YtkcahhbhfmdpmaaMg14
import Derived.Test.YtkcahhbhfmdpmaaMg10
import Derived.Test.YtkcahhbhfmdpmaaMg11
set_option linter.unusedVariables false
set_option linter.unusedSimpArgs false
namespace Go.Proofs.Ytkcahhbhfmdpmaa
open Go.Gi Go.RowKit Go.Proofs.Ytkcahhbhfmdpmaa.Old
noncomputable section
set_option maxRecDepth 100000
set_option maxHeartbeats 4000000
structure X60_0 where
  (v0:Array Value)
  (v1 v2:Nat)
  (v3 v4:Int)
  (v5 v6:Int)
  (v7 v8:Int)
  (v9 v10:Int)
inductive D60_0 where
  | k0 (d0:Bool) (d1 d2:Int) (d3 d4:Int) (d5 d6:Int)
  | k1 (d0 d1:Int) (d2 d3:Int) (d4 d5:Int)
def Lp60_0:LoopOf X60_0 D60_0 where
  c:=(theLoop Try.prog 60 0)
  N:=43
  M:=1
  S:=[3,8,9,10]
  sl:=fun x=>[(Value.pointer (Option.some (Addr.mk 0 0 Option.none))),(lstV x.v0 x.v1 x.v2 6),(.int .i64 x.v3),(.int .i64 x.v4)]
  hp:=fun x=>[.cells ⟨[(.int .i64 x.v5),(.int .i64 x.v6),(.int .i64 x.v7),(.int .i64 x.v8),(.int .i64 x.v9),(.int .i64 x.v10)]⟩ false]
  ex:=fun d=>match d with | .k0 ..=>.ret | .k1 ..=>.exit 0
  pick:=fun e=>match e with | .ret=>[4] | .exit 0=>[] | _=>[]
  dv:=fun d=>match d with | .k0 d0 d1 d2 d3 d4 d5 d6=>[(.bool d0)] | .k1 d0 d1 d2 d3 d4 d5=>[]
  dh:=fun d=>match d with | .k0 d0 d1 d2 d3 d4 d5 d6=>[.cells ⟨[(.int .i64 d1),(.int .i64 d2),(.int .i64 d3),(.int .i64 d4),(.int .i64 d5),(.int .i64 d6)]⟩ false] | .k1 d0 d1 d2 d3 d4 d5=>[.cells ⟨[(.int .i64 d0),(.int .i64 d1),(.int .i64 d2),(.int .i64 d3),(.int .i64 d4),(.int .i64 d5)]⟩ false]
theorem ok60_0:Lp60_0.Ok:=⟨fun x=>rfl,fun x=>rfl,fun x=>rfl,fun x=>rfl,fun d=>by cases d<;>rfl,fun d=>by cases d<;>rfl,fun d=>by cases d<;>rfl,fun d=>by cases d<;>(intro h;cases h),fun d=>by cases d<;>rfl,fun d=>by cases d<;>rfl⟩
def rd60_0 (x:X60_0):RT (Sum X60_0 D60_0):=match x with
  | ⟨v0,v1,v2,v3,v4,v5,v6,v7,v8,v9,v10⟩ =>let u0:=(Int.toNat v4);let u1:=(Leaf.int .i64);let u2:=(IntKind.wrap .i64 (v4+(1:Int)));
     .br (decide (v4<v3)) (.br (and (decide ((0:Int)≤v4)) (decide (v4<(Int.ofNat v2)))) (.br (rdOk v0 [u1,u1,u1,u1,u1,u1] (v1+(u0*6))) (.br (decide ((getInt v0 (v1+(u0*6)))<v6)) (.br (decide (v5<(getInt v0 ((v1+(u0*6))+1)))) (.br (F87_ok v7 v8 (getInt v0 (((v1+(u0*6))+1)+1)) (getInt v0 ((((v1+(u0*6))+1)+1)+1))) (.br (F87_0 v7 v8 (getInt v0 (((v1+(u0*6))+1)+1)) (getInt v0 ((((v1+(u0*6))+1)+1)+1))) (.br (F87_ok v9 v10 (getInt v0 (((((v1+(u0*6))+1)+1)+1)+1)) (getInt v0 ((((((v1+(u0*6))+1)+1)+1)+1)+1)))
     (.br (not (F87_0 v9 v10 (getInt v0 (((((v1+(u0*6))+1)+1)+1)+1)) (getInt v0 ((((((v1+(u0*6))+1)+1)+1)+1)+1)))) (.leaf (.inr (.k0 false v5 v6 v7 v8 v9 v10))) (.leaf (.inl ⟨v0,v1,v2,v3,u2,v5,v6,v7,v8,v9,v10⟩))) (.no)) (.leaf (.inr (.k0 false v5 v6 v7 v8 v9 v10)))) (.no)) (.leaf (.inl ⟨v0,v1,v2,v3,u2,v5,v6,v7,v8,v9,v10⟩))) (.leaf (.inl ⟨v0,v1,v2,v3,u2,v5,v6,v7,v8,v9,v10⟩))) (.no)) (.no)) (.leaf (.inr (.k1 v5 v6 v7 v8 v9 v10)))
theorem T60_0  (y:List Value) (v0:Array Value) (v1 v2:Nat) (v3 v4:Int) (v5 v6:Int) (v7 v8:Int) (v9 v10:Int):evC Try.prog (Ans.c p87) 60 (.code none (theLoop Try.prog 60 0) ⟨sets (junkF 43 y) [(3,(Value.pointer (some (Addr.mk 0 0 none)))),(8,(lstV v0 v1 v2 6)),(9,(.int .i64 v3)),(10,(.int .i64 v4))],[],⟨[.cells ⟨[(.int .i64 v5),(.int .i64 v6),(.int .i64 v7),(.int .i64 v8),(.int .i64 v9),(.int .i64 v10)]⟩ false],0,[]⟩⟩) (sumK 1 43 Lp60_0.pk)=(rd60_0 ⟨v0,v1,v2,v3,v4,v5,v6,v7,v8,v9,v10⟩).out Lp60_0.enc:=by kernel_rfl
def L60_0 (x:X60_0):Option D60_0:=loopR rd60_0 x
section
variable (x:X60_0)
def L60_0_k0:Bool:=match L60_0 x with | some (.k0 ..)=>true | _=>false
def Qn0:Bool:=match L60_0 x with | some (.k0 d _ _ _ _ _ _)=>d | _=>false
def Qn1:Int:=match L60_0 x with | some (.k0 _ d _ _ _ _ _)=>d | _=>0
def Qn2:Int:=match L60_0 x with | some (.k0 _ _ d _ _ _ _)=>d | _=>0
def Qn3:Int:=match L60_0 x with | some (.k0 _ _ _ d _ _ _)=>d | _=>0
def Qn4:Int:=match L60_0 x with | some (.k0 _ _ _ _ d _ _)=>d | _=>0
def Qn5:Int:=match L60_0 x with | some (.k0 _ _ _ _ _ d _)=>d | _=>0
def Qn6:Int:=match L60_0 x with | some (.k0 _ _ _ _ _ _ d)=>d | _=>0
def L60_0_k1:Bool:=match L60_0 x with | some (.k1 ..)=>true | _=>false
def Qo0:Int:=match L60_0 x with | some (.k1 d _ _ _ _ _)=>d | _=>0
def Qo1:Int:=match L60_0 x with | some (.k1 _ d _ _ _ _)=>d | _=>0
def Qo2:Int:=match L60_0 x with | some (.k1 _ _ d _ _ _)=>d | _=>0
def Qo3:Int:=match L60_0 x with | some (.k1 _ _ _ d _ _)=>d | _=>0
def Qo4:Int:=match L60_0 x with | some (.k1 _ _ _ _ d _)=>d | _=>0
def Qo5:Int:=match L60_0 x with | some (.k1 _ _ _ _ _ d)=>d | _=>0
end
def dec60_0:Task→Option (Code×X60_0)
  | .code none (.loop code) ⟨t,[],⟨[.cells ⟨[(.int .i64 v5),(.int .i64 v6),(.int .i64 v7),(.int .i64 v8),(.int .i64 v9),(.int .i64 v10)]⟩ false],0,[]⟩⟩ =>
    (match Nat.beq (firstReg code) 2,lenIs t 43,lget t 3,lget t 8,lget t 9,lget t 10 with
    | true,true,(Value.pointer (Option.some (Addr.mk 0 0 Option.none))),(.func (.via 0 ⟨[]⟩ 0 true) v0 ⟨[.slice (some ⟨0,v1,none⟩) v2 6]⟩),(.int .i64 v3),(.int .i64 v4)=>some (code,⟨v0,v1,v2,v3,v4,v5,v6,v7,v8,v9,v10⟩)
    | _,_,_,_,_,_=>none)
  | _=>none
def alt60_0 (x:X60_0)(j:List Value):AT:=.br (L60_0_k0 x) (loopEnd 43 (.ret) [(4,(.bool (Qn0 x)))] ⟨[.cells ⟨[(.int .i64 (Qn1 x)),(.int .i64 (Qn2 x)),(.int .i64 (Qn3 x)),(.int .i64 (Qn4 x)),(.int .i64 (Qn5 x)),(.int .i64 (Qn6 x))]⟩ false],0,[]⟩ j) (.br (L60_0_k1 x) (loopEnd 43 (.exit 0) [] ⟨[.cells ⟨[(.int .i64 (Qo0 x)),(.int .i64 (Qo1 x)),(.int .i64 (Qo2 x)),(.int .i64 (Qo3 x)),(.int .i64 (Qo4 x)),(.int .i64 (Qo5 x))]⟩ false],0,[]⟩ j) (.no))
def la60_0 (J:Task→List Value):Ans:=loopAns Lp60_0.c dec60_0 alt60_0 J
theorem ha60_0:∀(x:X60_0) (j:List Value)(o:Out),(alt60_0 x j).out=some o→∃d,loopR rd60_0 x=some d∧o=Lp60_0.tail d j:=by
  intro x j o h;unfold alt60_0 at h
  cases hL:L60_0 x with
  | none=>simp [L60_0_k0,Qn0,Qn1,Qn2,Qn3,Qn4,Qn5,Qn6,L60_0_k1,Qo0,Qo1,Qo2,Qo3,Qo4,Qo5,hL,AT.out]at h
  | some d =>
    refine ⟨d,hL,?_⟩
    cases d<;>(simp only [L60_0_k0,Qn0,Qn1,Qn2,Qn3,Qn4,Qn5,Qn6,L60_0_k1,Qo0,Qo1,Qo2,Qo3,Qo4,Qo5,hL,AT.out,loopEnd,cond_true,cond_false,Option.some.injEq]at h;rw [← h];rfl)
theorem hd60_0:∀(t:Task) (c:Code)(x:X60_0),dec60_0 t=some (c,x)→c=Lp60_0.c→∃T,t=.code none (.loop Lp60_0.c) ⟨T,[],⟨Lp60_0.hp x,0,[]⟩⟩∧T.length=Lp60_0.N∧∀kv∈Lp60_0.S.zip (Lp60_0.sl x),lget T kv.1=kv.2:=by
  intro t c x h hc;unfold dec60_0 at h
  split at h
  case h_2=>cases h
  split at h
  case h_2=>cases h
  simp only [Option.some.injEq,Prod.mk.injEq]at h;obtain ⟨rfl,rfl⟩:=h;subst hc
  refine ⟨_,rfl,lenIs_eq _ _ (by assumption),?_⟩
  intro kv hk;simp only [Lp60_0,List.zip_cons_cons,List.zip_nil_right,List.mem_cons,List.not_mem_nil,or_false]at hk
  rcases hk with rfl | rfl | rfl | rfl<;>assumption
theorem kl60_0:∃J,Known Try.prog (la60_0 J):=by
  exact LoopOf.known noNG mixed ok60_0 (by decide) (by decide) known87 (n:=60) (rd:=rd60_0) (fun x j=>T60_0  j x.v0 x.v1 x.v2 x.v3 x.v4 x.v5 x.v6 x.v7 x.v8 x.v9 x.v10) dec60_0 alt60_0 hd60_0 ha60_0
structure R60 where
  (r0:Bool)
structure A60 where
  (a0:Array Value)
  (a1 a2:Nat)
  (a3 a4:Int)
  (a5 a6:Int)
  (a7 a8:Int)
def rt60 (a0:Array Value)(a1 a2:Nat)(a3 a4:Int)(a5 a6:Int)(a7 a8:Int):RT R60 :=
  .sw (eqCode (Lp60_0.c) (Lp60_0.c)) true (by simp only [eqCode_self,arrEq_self]) (.br (L60_0_k0 (X60_0.mk a0 a1 a2 (Int.ofNat a2) (0:Int) a3 a4 a5 a6 a7 a8)) (.leaf ⟨(Qn0 (X60_0.mk a0 a1 a2 (Int.ofNat a2) (0:Int) a3 a4 a5 a6 a7 a8))⟩) (.br (L60_0_k1 (X60_0.mk a0 a1 a2 (Int.ofNat a2) (0:Int) a3 a4 a5 a6 a7 a8)) (.leaf ⟨true⟩) (.no))) (.no)
def en60 (r:R60):Value:=(.bool r.r0)
theorem T60 (J0:Task→List Value)(a0:Array Value)(a1 a2:Nat)(a3 a4:Int)(a5 a6:Int)(a7 a8:Int):evC Try.prog (Ans.c (p87.or (la60_0 J0))) 60 (.call 60 ⟨[(lstV a0 a1 a2 6),(.agg ⟨[(.int .i64 a3),(.int .i64 a4),(.int .i64 a5),(.int .i64 a6),(.int .i64 a7),(.int .i64 a8)]⟩)]⟩ ⟨[],0,[]⟩) (frzK [0])=(rt60 a0 a1 a2 a3 a4 a5 a6 a7 a8).out (fun r=>.ret (en60 r) ⟨[],0,[]⟩):=by kernel_rfl
def F60 (a0:Array Value)(a1 a2:Nat)(a3 a4:Int)(a5 a6:Int)(a7 a8:Int):Option R60:=(rt60 a0 a1 a2 a3 a4 a5 a6 a7 a8).val
section
variable (a0:Array Value) (a1 a2:Nat) (a3 a4:Int) (a5 a6:Int) (a7 a8:Int)
def F60_ok:Bool:=(F60 a0 a1 a2 a3 a4 a5 a6 a7 a8).isSome
def F60_0:Bool:=match F60 a0 a1 a2 a3 a4 a5 a6 a7 a8 with | some r=>r.r0 | none=>false
end
def dec60:Task→Option (A60×Hp)
  | .call g ⟨[(.func (.via 0 ⟨[]⟩ 0 true) a0 ⟨[.slice (some ⟨0,a1,none⟩) a2 6]⟩),(.agg ⟨[(.int .i64 a3),(.int .i64 a4),(.int .i64 a5),(.int .i64 a6),(.int .i64 a7),(.int .i64 a8)]⟩)]⟩ h=>(match Nat.beq g 60 with | true=>some (⟨a0,a1,a2,a3,a4,a5,a6,a7,a8⟩,h) | false=>none)
  | _=>none
def alt60 (x:A60)(h:Hp):AT:=.br (F60_ok x.a0 x.a1 x.a2 x.a3 x.a4 x.a5 x.a6 x.a7 x.a8) (.leaf (.ret (.bool (F60_0 x.a0 x.a1 x.a2 x.a3 x.a4 x.a5 x.a6 x.a7 x.a8)) h)) .no
def p60:Ans:=fnAns dec60 alt60
theorem ha60:∀(x:A60) (h:Hp)(o:Out),(alt60 x h).out=some o→∃r,(rt60 x.a0 x.a1 x.a2 x.a3 x.a4 x.a5 x.a6 x.a7 x.a8).val=some r∧o=.ret (en60 r) h:=by
  intro x h o e;unfold alt60 at e;simp only [AT.out]at e;obtain ⟨g,e⟩:=cond_some e;unfold F60_ok at g;obtain ⟨r,hF⟩:=Option.isSome_iff_exists.1 g
  have hv:F60 x.a0 x.a1 x.a2 x.a3 x.a4 x.a5 x.a6 x.a7 x.a8=(rt60 x.a0 x.a1 x.a2 x.a3 x.a4 x.a5 x.a6 x.a7 x.a8).val:=by delta F60;exact rfl
  refine ⟨r,hv.symm.trans hF,?_⟩
  simp only [Option.some.injEq]at e;rw [← e]
  have k0:F60_0 x.a0 x.a1 x.a2 x.a3 x.a4 x.a5 x.a6 x.a7 x.a8=r.r0:=by
    show (match F60 x.a0 x.a1 x.a2 x.a3 x.a4 x.a5 x.a6 x.a7 x.a8 with | some r=>r.r0 | none=>false)=r.r0
    rw [hF]
  rw [k0]<;>rfl
theorem hd60:∀(t:Task) (x:A60)(h:Hp),dec60 t=some (x,h)→t=.call 60 ⟨[(lstV x.a0 x.a1 x.a2 6),(.agg ⟨[(.int .i64 x.a3),(.int .i64 x.a4),(.int .i64 x.a5),(.int .i64 x.a6),(.int .i64 x.a7),(.int .i64 x.a8)]⟩)]⟩ h:=by
  intro t x h e;unfold dec60 at e
  split at e
  case h_2=>cases e
  split at e
  case h_2=>cases e
  rename_i hg;simp only [Option.some.injEq,Prod.mk.injEq]at e;obtain ⟨rfl,rfl⟩:=e;rw [Nat.eq_of_beq_eq_true hg]
theorem known60:Known Try.prog p60:=by
  obtain ⟨J0,hJ0⟩:=kl60_0
  exact Known.fn noNG mixed (Known.or known87 hJ0) (n:=60) (zs:=[0]) 60 (fun x:A60=>[(lstV x.a0 x.a1 x.a2 6),(.agg ⟨[(.int .i64 x.a3),(.int .i64 x.a4),(.int .i64 x.a5),(.int .i64 x.a6),(.int .i64 x.a7),(.int .i64 x.a8)]⟩)]) (fun x=>rt60 x.a0 x.a1 x.a2 x.a3 x.a4 x.a5 x.a6 x.a7 x.a8) en60 (fun x=>T60 J0 x.a0 x.a1 x.a2 x.a3 x.a4 x.a5 x.a6 x.a7 x.a8) (fun x=>rfl) dec60 alt60 hd60 ha60
structure X35_0 where
  (v0:Array Value)
  (v1 v2:Nat)
  (v3:Array Value)
  (v4 v5:Nat)
  (v6 v7:Int)
inductive D35_0 where
  | k0 (d0:Bool) (d1:Int)
  | k1
def Lp35_0:LoopOf X35_0 D35_0 where
  c:=(theLoop Try.prog 35 0)
  N:=54
  M:=0
  S:=[0,43,44,45]
  sl:=fun x=>[(lstV x.v0 x.v1 x.v2 6),(lstV x.v3 x.v4 x.v5 6),(.int .i64 x.v6),(.int .i64 x.v7)]
  hp:=fun x=>[]
  ex:=fun d=>match d with | .k0 ..=>.ret | .k1 ..=>.exit 0
  pick:=fun e=>match e with | .ret=>[4,5] | .exit 0=>[] | _=>[]
  dv:=fun d=>match d with | .k0 d0 d1=>[(.bool d0),(.int .i64 d1)] | .k1 =>[]
  dh:=fun d=>match d with | .k0 d0 d1=>[] | .k1 =>[]
theorem ok35_0:Lp35_0.Ok:=⟨fun x=>rfl,fun x=>rfl,fun x=>rfl,fun x=>rfl,fun d=>by cases d<;>rfl,fun d=>by cases d<;>rfl,fun d=>by cases d<;>rfl,fun d=>by cases d<;>(intro h;cases h),fun d=>by cases d<;>rfl,fun d=>by cases d<;>rfl⟩
def rd35_0 (x:X35_0):RT (Sum X35_0 D35_0):=match x with
  | ⟨v0,v1,v2,v3,v4,v5,v6,v7⟩ =>let u0:=(Int.toNat v7);let u1:=(Leaf.int .i64);
     .br (decide (v7<v6)) (.br (and (decide ((0:Int)≤v7)) (decide (v7<(Int.ofNat v5)))) (.br (rdOk v3 [u1,u1,u1,u1,u1,u1] (v4+(u0*6))) (.br (F60_ok v0 v1 v2 (getInt v3 (v4+(u0*6))) (getInt v3 ((v4+(u0*6))+1)) (getInt v3 (((v4+(u0*6))+1)+1)) (getInt v3 ((((v4+(u0*6))+1)+1)+1)) (getInt v3 (((((v4+(u0*6))+1)+1)+1)+1)) (getInt v3 ((((((v4+(u0*6))+1)+1)+1)+1)+1))) (.br (not (F60_0 v0 v1 v2 (getInt v3 (v4+(u0*6))) (getInt v3 ((v4+(u0*6))+1)) (getInt v3 (((v4+(u0*6))+1)+1)) (getInt v3 ((((v4+(u0*6))+1)+1)+1)) (getInt v3 (((((v4+(u0*6))+1)+1)+1)+1)) (getInt v3 ((((((v4+(u0*6))+1)+1)+1)+1)+1)))) (.leaf (.inr (.k0 false ((0:Int))))) (.leaf (.inl ⟨v0,v1,v2,v3,v4,v5,v6,(IntKind.wrap .i64 (v7+(1:Int)))⟩))) (.no)) (.no)) (.no)) (.leaf (.inr (.k1)))
theorem T35_0  (y:List Value) (v0:Array Value) (v1 v2:Nat) (v3:Array Value) (v4 v5:Nat) (v6 v7:Int):evC Try.prog (Ans.c (p57.or p60)) 60 (.code none (theLoop Try.prog 35 0) ⟨sets (junkF 54 y) [(0,(lstV v0 v1 v2 6)),(43,(lstV v3 v4 v5 6)),(44,(.int .i64 v6)),(45,(.int .i64 v7))],[],⟨[],0,[]⟩⟩) (sumK 0 54 Lp35_0.pk)=(rd35_0 ⟨v0,v1,v2,v3,v4,v5,v6,v7⟩).out Lp35_0.enc:=by kernel_rfl
def L35_0 (x:X35_0):Option D35_0:=loopR rd35_0 x
section
variable (x:X35_0)
def L35_0_k0:Bool:=match L35_0 x with | some (.k0 ..)=>true | _=>false
def Qp0:Bool:=match L35_0 x with | some (.k0 d _)=>d | _=>false
def Qp1:Int:=match L35_0 x with | some (.k0 _ d)=>d | _=>0
def L35_0_k1:Bool:=match L35_0 x with | some (.k1 ..)=>true | _=>false
end
def dec35_0:Task→Option (Code×X35_0)
  | .code none (.loop code) ⟨t,[],⟨[],0,[]⟩⟩ =>
    (match Nat.beq (firstReg code) 10,lenIs t 54,lget t 0,lget t 43,lget t 44,lget t 45 with
    | true,true,(.func (.via 0 ⟨[]⟩ 0 true) v0 ⟨[.slice (some ⟨0,v1,none⟩) v2 6]⟩),(.func (.via 0 ⟨[]⟩ 0 true) v3 ⟨[.slice (some ⟨0,v4,none⟩) v5 6]⟩),(.int .i64 v6),(.int .i64 v7)=>some (code,⟨v0,v1,v2,v3,v4,v5,v6,v7⟩)
    | _,_,_,_,_,_=>none)
  | _=>none
def alt35_0 (x:X35_0)(j:List Value):AT:=.br (L35_0_k0 x) (loopEnd 54 (.ret) [(4,(.bool (Qp0 x))),(5,(.int .i64 (Qp1 x)))] ⟨[],0,[]⟩ j) (.br (L35_0_k1 x) (loopEnd 54 (.exit 0) [] ⟨[],0,[]⟩ j) (.no))
def la35_0 (J:Task→List Value):Ans:=loopAns Lp35_0.c dec35_0 alt35_0 J
theorem ha35_0:∀(x:X35_0) (j:List Value)(o:Out),(alt35_0 x j).out=some o→∃d,loopR rd35_0 x=some d∧o=Lp35_0.tail d j:=by
  intro x j o h;unfold alt35_0 at h
  cases hL:L35_0 x with
  | none=>simp [L35_0_k0,Qp0,Qp1,L35_0_k1,hL,AT.out]at h
  | some d =>
    refine ⟨d,hL,?_⟩
    cases d<;>(simp only [L35_0_k0,Qp0,Qp1,L35_0_k1,hL,AT.out,loopEnd,cond_true,cond_false,Option.some.injEq]at h;rw [← h];rfl)
theorem hd35_0:∀(t:Task) (c:Code)(x:X35_0),dec35_0 t=some (c,x)→c=Lp35_0.c→∃T,t=.code none (.loop Lp35_0.c) ⟨T,[],⟨Lp35_0.hp x,0,[]⟩⟩∧T.length=Lp35_0.N∧∀kv∈Lp35_0.S.zip (Lp35_0.sl x),lget T kv.1=kv.2:=by
  intro t c x h hc;unfold dec35_0 at h
  split at h
  case h_2=>cases h
  split at h
  case h_2=>cases h
  simp only [Option.some.injEq,Prod.mk.injEq]at h;obtain ⟨rfl,rfl⟩:=h;subst hc
  refine ⟨_,rfl,lenIs_eq _ _ (by assumption),?_⟩
  intro kv hk;simp only [Lp35_0,List.zip_cons_cons,List.zip_nil_right,List.mem_cons,List.not_mem_nil,or_false]at hk
  rcases hk with rfl | rfl | rfl | rfl<;>assumption
theorem kl35_0:∃J,Known Try.prog (la35_0 J):=by
  exact LoopOf.known noNG mixed ok35_0 (by decide) (by decide) (Known.or known57 known60) (n:=60) (rd:=rd35_0) (fun x j=>T35_0  j x.v0 x.v1 x.v2 x.v3 x.v4 x.v5 x.v6 x.v7) dec35_0 alt35_0 hd35_0 ha35_0
structure R35 where
  (r0:Bool)
  (r1:Int)
structure A35 where
  (a0:Array Value)
  (a1 a2:Nat)
  (a3:Array Value)
  (a4 a5:Nat)
def rt35 (a0:Array Value)(a1 a2:Nat)(a3:Array Value)(a4 a5:Nat):RT R35 :=let u0:=(IntKind.wrap .i64 ((Int.ofNat a2)-(1:Int)));let u1:=(IntKind.wrap .i64 ((Int.ofNat a5)-(1:Int)));
  .br (F57_ok a0 a1 a2) (.br (not (decide ((F57_1 a0 a1 a2)=(0:Int)))) (.leaf ⟨false,(F57_1 a0 a1 a2)⟩) (.br (F57_ok a3 a4 a5) (.br (not (decide ((F57_1 a3 a4 a5)=(0:Int)))) (.leaf ⟨false,(F57_1 a3 a4 a5)⟩) (.br (and (decide ((0:Int)≤u0)) (decide (u0<(Int.ofNat a2)))) (.br (isInt .i64 a0 ((a1+((Int.toNat u0)*6))+1)) (.br (and (decide ((0:Int)≤u1)) (decide (u1<(Int.ofNat a5)))) (.br (isInt .i64 a3 ((a4+((Int.toNat u1)*6))+1)) (.br (decide ((getInt a0 ((a1+((Int.toNat u0)*6))+1))<(getInt a3 ((a4+((Int.toNat u1)*6))+1)))) (.leaf ⟨false,(0:Int)⟩)
          (.sw (eqCode (Lp35_0.c) (Lp35_0.c)) true (by simp only [eqCode_self,arrEq_self]) (.br (L35_0_k0 (X35_0.mk a0 a1 a2 a3 a4 a5 (Int.ofNat a5) (0:Int))) (.leaf ⟨(Qp0 (X35_0.mk a0 a1 a2 a3 a4 a5 (Int.ofNat a5) (0:Int))),(Qp1 (X35_0.mk a0 a1 a2 a3 a4 a5 (Int.ofNat a5) (0:Int)))⟩) (.br (L35_0_k1 (X35_0.mk a0 a1 a2 a3 a4 a5 (Int.ofNat a5) (0:Int))) (.leaf ⟨true,(0:Int)⟩) (.no))) (.no))) (.no)) (.no)) (.no)) (.no))) (.no))) (.no)
def en35 (r:R35):Value:=(.tuple ⟨[(.bool r.r0),(.int .i64 r.r1)]⟩)
theorem T35 (J0:Task→List Value)(a0:Array Value)(a1 a2:Nat)(a3:Array Value)(a4 a5:Nat):evC Try.prog (Ans.c (p57.or (p60.or (la35_0 J0)))) 60 (.call 35 ⟨[(lstV a0 a1 a2 6),(lstV a3 a4 a5 6)]⟩ ⟨[],0,[]⟩) (frzK [0,0])=(rt35 a0 a1 a2 a3 a4 a5).out (fun r=>.ret (en35 r) ⟨[],0,[]⟩):=by kernel_rfl
def F35 (a0:Array Value)(a1 a2:Nat)(a3:Array Value)(a4 a5:Nat):Option R35:=(rt35 a0 a1 a2 a3 a4 a5).val
section
variable (a0:Array Value) (a1 a2:Nat) (a3:Array Value) (a4 a5:Nat)
def F35_ok:Bool:=(F35 a0 a1 a2 a3 a4 a5).isSome
def F35_0:Bool:=match F35 a0 a1 a2 a3 a4 a5 with | some r=>r.r0 | none=>false
def F35_1:Int:=match F35 a0 a1 a2 a3 a4 a5 with | some r=>r.r1 | none=>0
end
def dec35:Task→Option (A35×Hp)
  | .call g ⟨[(.func (.via 0 ⟨[]⟩ 0 true) a0 ⟨[.slice (some ⟨0,a1,none⟩) a2 6]⟩),(.func (.via 0 ⟨[]⟩ 0 true) a3 ⟨[.slice (some ⟨0,a4,none⟩) a5 6]⟩)]⟩ h=>(match Nat.beq g 35 with | true=>some (⟨a0,a1,a2,a3,a4,a5⟩,h) | false=>none)
  | _=>none
def alt35 (x:A35)(h:Hp):AT:=.br (F35_ok x.a0 x.a1 x.a2 x.a3 x.a4 x.a5) (.leaf (.ret (.tuple ⟨[(.bool (F35_0 x.a0 x.a1 x.a2 x.a3 x.a4 x.a5)),(.int .i64 (F35_1 x.a0 x.a1 x.a2 x.a3 x.a4 x.a5))]⟩) h)) .no
def p35:Ans:=fnAns dec35 alt35
theorem ha35:∀(x:A35) (h:Hp)(o:Out),(alt35 x h).out=some o→∃r,(rt35 x.a0 x.a1 x.a2 x.a3 x.a4 x.a5).val=some r∧o=.ret (en35 r) h:=by
  intro x h o e;unfold alt35 at e;simp only [AT.out]at e;obtain ⟨g,e⟩:=cond_some e;unfold F35_ok at g;obtain ⟨r,hF⟩:=Option.isSome_iff_exists.1 g
  have hv:F35 x.a0 x.a1 x.a2 x.a3 x.a4 x.a5=(rt35 x.a0 x.a1 x.a2 x.a3 x.a4 x.a5).val:=by delta F35;exact rfl
  refine ⟨r,hv.symm.trans hF,?_⟩
  simp only [Option.some.injEq]at e;rw [← e]
  have k0:F35_0 x.a0 x.a1 x.a2 x.a3 x.a4 x.a5=r.r0:=by
    show (match F35 x.a0 x.a1 x.a2 x.a3 x.a4 x.a5 with | some r=>r.r0 | none=>false)=r.r0
    rw [hF]
  have k1:F35_1 x.a0 x.a1 x.a2 x.a3 x.a4 x.a5=r.r1:=by
    show (match F35 x.a0 x.a1 x.a2 x.a3 x.a4 x.a5 with | some r=>r.r1 | none=>0)=r.r1
    rw [hF]
  rw [k0,k1]<;>rfl
theorem hd35:∀(t:Task) (x:A35)(h:Hp),dec35 t=some (x,h)→t=.call 35 ⟨[(lstV x.a0 x.a1 x.a2 6),(lstV x.a3 x.a4 x.a5 6)]⟩ h:=by
  intro t x h e;unfold dec35 at e
  split at e
  case h_2=>cases e
  split at e
  case h_2=>cases e
  rename_i hg;simp only [Option.some.injEq,Prod.mk.injEq]at e;obtain ⟨rfl,rfl⟩:=e;rw [Nat.eq_of_beq_eq_true hg]
theorem known35:Known Try.prog p35:=by
  obtain ⟨J0,hJ0⟩:=kl35_0
  exact Known.fn noNG mixed (Known.or known57 (Known.or known60 hJ0)) (n:=60) (zs:=[0,0]) 35 (fun x:A35=>[(lstV x.a0 x.a1 x.a2 6),(lstV x.a3 x.a4 x.a5 6)]) (fun x=>rt35 x.a0 x.a1 x.a2 x.a3 x.a4 x.a5) en35 (fun x=>T35 J0 x.a0 x.a1 x.a2 x.a3 x.a4 x.a5) (fun x=>rfl) dec35 alt35 hd35 ha35
end
end Go.Proofs.Ytkcahhbhfmdpmaa
namespace Go.Proofs.Ytkcahhbhfmdpmaa
open Go.Gi Go.RowKit
noncomputable section
set_option maxRecDepth 100000
set_option maxHeartbeats 1000000
theorem F87_of (p q r s:Int):F87_ok p q r s=true∧F87_0 p q r s=(decide (r≤p)&&decide (q≤s)):=by
  have h:F87 p q r s=some ⟨decide (r≤p)&&decide (q≤s)⟩:=by
    unfold F87 rt87
    by_cases c:r≤p
    · simp only [RT.val,mq,c,decide_true,cond_true,Bool.true_and]
    · simp only [RT.val,mq,c,decide_false,cond_false,Bool.false_and]
  exact ⟨by unfold F87_ok;rw [h];rfl,by unfold F87_0;rw [h]⟩
section
variable {vc lc:Array Value}{vn ln:Nat}
def cv1 (vc:Array Value)(p q r s t v:Int)(i:Nat):Prop:=getInt vc (i*6)<q→p<getInt vc (i*6+1)→getInt vc (i*6+2)≤r∧s≤getInt vc (i*6+3)∧getInt vc (i*6+4)≤t∧v≤getInt vc (i*6+5)
theorem loop60 (gv:GL I6 6 vc vn)(few:vn≤1000)(p q r s t v:Int):∀m k,k+m=vn→(∀i,i<k→cv1 vc p q r s t v i) →
    ∃d,loopR rd60_0 ⟨vc,0,vn,(vn:Int),(k:Int),p,q,r,s,t,v⟩=some d∧(match d with | .k0 f _ _ _ _ _ _=>f=false | .k1 ..=>∀i,i<vn→cv1 vc p q r s t v i)
  | 0,k,h,hi=>by
    obtain rfl:k=vn:=by omega
    have z1:¬(k:Int)<(k:Int):=by omega
    refine ⟨_,loopR_done (by simp only [rd60_0,RT.val,mq,z1,Int.ofNat_eq_natCast,decide_false,cond_false];rfl),hi⟩
  | m+1,k,h,hi=>by
    have hk:k<vn:=by omega
    have hki:(k:Int)<(vn:Int):=by omega
    have h0:(0:Int)≤(k:Int):=by omega
    have h3:IntKind.wrap .i64 ((k:Int)+1)=((k+1:Nat):Int):=by rw [wrap64_id (by omega) (by omega)];omega
    have hr:rdOk vc I6 (0+k*6)=true:=gv.good.2 k hk;rw [Nat.zero_add]at hr;unfold I6 at hr
    by_cases c1:getInt vc (k*6)<q
    · by_cases c2:p<getInt vc (k*6+1)
      · by_cases c3:getInt vc (k*6+2)≤r∧s≤getInt vc (k*6+3)
        · by_cases c4:getInt vc (k*6+4)≤t∧v≤getInt vc (k*6+5)
          · obtain ⟨d,h1,h2⟩:=loop60 gv few p q r s t v m (k+1) (by omega) (fun i hk'=>by
              by_cases e:i=k
              · subst e;exact fun _ _=>⟨c3.1,c3.2,c4.1,c4.2⟩
              · exact hi i (by omega))
            refine ⟨d,(loopR_next ?_).trans h1,h2⟩
            simp only [rd60_0,RT.val,mq,hki,h0,h3,hr,c1,c2,c3.1,c3.2,c4.1,c4.2,(F87_of _ _ _ _).1,(F87_of _ _ _ _).2,Int.toNat_natCast,Int.ofNat_eq_natCast,Nat.zero_add,Nat.add_assoc,Nat.reduceAdd,decide_true,Bool.and_self,Bool.not_true,cond_true,cond_false]
          · have f:(decide (getInt vc (k*6+4)≤t)&&decide (v≤getInt vc (k*6+5)))=false:=by
              by_cases e:getInt vc (k*6+4)≤t
              · rw [decide_eq_false (fun e2=>c4 ⟨e,e2⟩),Bool.and_false]
              · rw [decide_eq_false e];rfl
            refine ⟨.k0 false p q r s t v,loopR_done ?_,rfl⟩
            simp only [rd60_0,RT.val,mq,hki,h0,h3,hr,c1,c2,c3.1,c3.2,f,(F87_of _ _ _ _).1,(F87_of _ _ _ _).2,Int.toNat_natCast,Int.ofNat_eq_natCast,Nat.zero_add,Nat.add_assoc,Nat.reduceAdd,decide_true,Bool.and_self,Bool.not_false,cond_true,cond_false]
        · have f:(decide (getInt vc (k*6+2)≤r)&&decide (s≤getInt vc (k*6+3)))=false:=by
            by_cases e:getInt vc (k*6+2)≤r
            · rw [decide_eq_false (fun e2=>c3 ⟨e,e2⟩),Bool.and_false]
            · rw [decide_eq_false e];rfl
          refine ⟨.k0 false p q r s t v,loopR_done ?_,rfl⟩
          simp only [rd60_0,RT.val,mq,hki,h0,h3,hr,c1,c2,f,(F87_of _ _ _ _).1,(F87_of _ _ _ _).2,Int.toNat_natCast,Int.ofNat_eq_natCast,Nat.zero_add,Nat.add_assoc,Nat.reduceAdd,decide_true,Bool.and_self,Bool.not_false,cond_true,cond_false]
      · obtain ⟨d,h1,h2⟩:=loop60 gv few p q r s t v m (k+1) (by omega) (fun i hk'=>by
          by_cases e:i=k
          · subst e;exact fun _ w=>absurd w c2
          · exact hi i (by omega))
        refine ⟨d,(loopR_next ?_).trans h1,h2⟩
        simp only [rd60_0,RT.val,mq,hki,h0,h3,hr,c1,c2,Int.toNat_natCast,Int.ofNat_eq_natCast,Nat.zero_add,Nat.add_assoc,Nat.reduceAdd,decide_true,decide_false,Bool.and_self,cond_true,cond_false]
    · obtain ⟨d,h1,h2⟩:=loop60 gv few p q r s t v m (k+1) (by omega) (fun i hk'=>by
        by_cases e:i=k
        · subst e;exact fun w=>absurd w c1
        · exact hi i (by omega))
      refine ⟨d,(loopR_next ?_).trans h1,h2⟩
      simp only [rd60_0,RT.val,mq,hki,h0,h3,hr,c1,Int.toNat_natCast,Int.ofNat_eq_natCast,Nat.zero_add,Nat.add_assoc,Nat.reduceAdd,decide_true,decide_false,Bool.and_self,cond_true,cond_false]
theorem F60_of (gv:GL I6 6 vc vn)(few:vn≤1000)(p q r s t v:Int):F60_ok vc 0 vn p q r s t v=true∧(F60_0 vc 0 vn p q r s t v=true→∀i,i<vn→cv1 vc p q r s t v i):=by
  obtain ⟨d,h1,h2⟩:=loop60 gv few p q r s t v vn 0 (by omega) (fun i hi=>absurd hi (by omega))
  have l:L60_0 (X60_0.mk vc 0 vn (vn:Int) 0 p q r s t v)=some d:=h1
  cases d with
  | k0 f d1 d2 d3 d4 d5 d6 =>
    subst h2
    have e:F60 vc 0 vn p q r s t v=some ⟨false⟩:=by
      unfold F60 rt60;simp only [RT.val,mq,Int.ofNat_eq_natCast,eqCode_self,L60_0_k0,Qn0,l,cond_true]
    exact ⟨by unfold F60_ok;rw [e];rfl,by unfold F60_0;rw [e];intro w;cases w⟩
  | k1 d1 d2 d3 d4 d5 d6 =>
    have e:F60 vc 0 vn p q r s t v=some ⟨true⟩:=by
      unfold F60 rt60;simp only [RT.val,mq,Int.ofNat_eq_natCast,eqCode_self,L60_0_k0,L60_0_k1,l,cond_true,cond_false]
    exact ⟨by unfold F60_ok;rw [e];rfl,fun _=>h2⟩
def cvr (vc lc:Array Value)(vn ln:Nat):Prop:=∀k,k<ln→∀i,i<vn→cv1 vc (getInt lc (k*6)) (getInt lc (k*6+1)) (getInt lc (k*6+2)) (getInt lc (k*6+3)) (getInt lc (k*6+4)) (getInt lc (k*6+5)) i
theorem loop35 (gv:GL I6 6 vc vn)(gl:GL I6 6 lc ln)(few:vn≤1000)(fewl:ln≤1000):∀m k,k+m=ln→cvr vc lc vn k →
    ∃d,loopR rd35_0 ⟨vc,0,vn,lc,0,ln,(ln:Int),(k:Int)⟩=some d∧(match d with | .k0 f _=>f=false | .k1=>cvr vc lc vn ln)
  | 0,k,h,hi=>by
    obtain rfl:k=ln:=by omega
    have z1:¬(k:Int)<(k:Int):=by omega
    refine ⟨_,loopR_done (by simp only [rd35_0,RT.val,mq,z1,Int.ofNat_eq_natCast,decide_false,cond_false];rfl),hi⟩
  | m+1,k,h,hi=>by
    have hk:k<ln:=by omega
    have hki:(k:Int)<(ln:Int):=by omega
    have h0:(0:Int)≤(k:Int):=by omega
    have h3:IntKind.wrap .i64 ((k:Int)+1)=((k+1:Nat):Int):=by rw [wrap64_id (by omega) (by omega)];omega
    have hr:rdOk lc I6 (0+k*6)=true:=gl.good.2 k hk;rw [Nat.zero_add]at hr;unfold I6 at hr;obtain ⟨o1,o2⟩:=F60_of gv few (getInt lc (k*6)) (getInt lc (k*6+1)) (getInt lc (k*6+2)) (getInt lc (k*6+3)) (getInt lc (k*6+4)) (getInt lc (k*6+5))
    cases hf:F60_0 vc 0 vn (getInt lc (k*6)) (getInt lc (k*6+1)) (getInt lc (k*6+2)) (getInt lc (k*6+3)) (getInt lc (k*6+4)) (getInt lc (k*6+5)) with
    | true =>
      obtain ⟨d,h1,h2⟩:=loop35 gv gl few fewl m (k+1) (by omega) (fun j hj=>by
        by_cases e:j=k
        · subst e;exact o2 hf
        · exact hi j (by omega))
      refine ⟨d,(loopR_next ?_).trans h1,h2⟩
      simp only [rd35_0,RT.val,mq,hki,h0,h3,hr,o1,hf,Int.toNat_natCast,Int.ofNat_eq_natCast,Nat.zero_add,Nat.add_assoc,Nat.reduceAdd,decide_true,Bool.and_self,Bool.not_true,cond_true,cond_false]
    | false =>
      refine ⟨.k0 false 0,loopR_done ?_,rfl⟩
      simp only [rd35_0,RT.val,mq,hki,h0,h3,hr,o1,hf,Int.toNat_natCast,Int.ofNat_eq_natCast,Nat.zero_add,Nat.add_assoc,Nat.reduceAdd,decide_true,Bool.and_self,Bool.not_false,cond_true,cond_false]
theorem F35_of (gv:GL I6 6 vc vn)(gl:GL I6 6 lc ln):F35_ok vc 0 vn lc 0 ln=true∧(F35_0 vc 0 vn lc 0 ln=true→cvr vc lc vn ln):=by
  have p:=F57_eq gv;have q:=F57_eq gl
  have fin:∀r:R35,F35 vc 0 vn lc 0 ln=some r→r.r0=false→F35_ok vc 0 vn lc 0 ln=true∧(F35_0 vc 0 vn lc 0 ln=true→cvr vc lc vn ln):=by
    intro r e hr
    exact ⟨by unfold F35_ok;rw [e];rfl,by unfold F35_0;rw [e];intro w;have w':r.r0=true:=w;rw [hr]at w';cases w'⟩
  by_cases h1:(bnF vc vn).2=0
  · by_cases h2:(bnF lc ln).2=0
    · obtain ⟨v1,v2,_⟩:=bn_of h1
      obtain ⟨l1,l2,_⟩:=bn_of h2
      have w1:IntKind.wrap .i64 ((vn:Int)-1)=((vn-1:Nat):Int):=by rw [wrap64_id (by omega) (by omega)];omega
      have w2:IntKind.wrap .i64 ((ln:Int)-1)=((ln-1:Nat):Int):=by rw [wrap64_id (by omega) (by omega)];omega
      have k1:(0:Int)≤((vn-1:Nat):Int):=by omega
      have k2:((vn-1:Nat):Int)<(vn:Int):=by omega
      have k3:(0:Int)≤((ln-1:Nat):Int):=by omega
      have k4:((ln-1:Nat):Int)<(ln:Int):=by omega
      have r1:=(rows6 gv (k:=vn-1) (by omega)).2.1
      have r2:=(rows6 gl (k:=ln-1) (by omega)).2.1
      by_cases h3:getInt vc ((vn-1)*6+1)<getInt lc ((ln-1)*6+1)
      · refine fin ⟨false,0⟩ ?_ rfl
        unfold F35 rt35;simp only [RT.val,mq,F57_ok,F57_1,p,q,h1,h2,w1,w2,k1,k2,k3,k4,r1,r2,h3,Option.isSome_some,Int.toNat_natCast,Int.ofNat_eq_natCast,Nat.zero_add,decide_true,Bool.and_self,Bool.not_true,cond_true,cond_false]
      · obtain ⟨d,e1,e2⟩:=loop35 gv gl (by omega) (by omega) ln 0 (by omega) (fun j hj=>absurd hj (by omega))
        have l:L35_0 (X35_0.mk vc 0 vn lc 0 ln (ln:Int) 0)=some d:=e1
        cases d with
        | k0 f d1 =>
          subst e2
          refine fin ⟨false,d1⟩ ?_ rfl
          unfold F35 rt35;simp only [RT.val,mq,F57_ok,F57_1,p,q,h1,h2,w1,w2,k1,k2,k3,k4,r1,r2,h3,l,L35_0_k0,Qp0,Qp1,eqCode_self,Option.isSome_some,Int.toNat_natCast,Int.ofNat_eq_natCast,Nat.zero_add,decide_true,decide_false,Bool.and_self,Bool.not_true,cond_true,cond_false]
        | k1 =>
          have e:F35 vc 0 vn lc 0 ln=some ⟨true,0⟩:=by
            unfold F35 rt35;simp only [RT.val,mq,F57_ok,F57_1,p,q,h1,h2,w1,w2,k1,k2,k3,k4,r1,r2,h3,l,L35_0_k0,L35_0_k1,eqCode_self,Option.isSome_some,Int.toNat_natCast,Int.ofNat_eq_natCast,Nat.zero_add,decide_true,decide_false,Bool.and_self,Bool.not_true,cond_true,cond_false]
          exact ⟨by unfold F35_ok;rw [e];rfl,fun _=>e2⟩
    · refine fin ⟨false,(bnF lc ln).2⟩ ?_ rfl
      unfold F35 rt35;simp only [RT.val,mq,F57_ok,F57_1,p,q,h1,h2,Option.isSome_some,decide_true,decide_false,Bool.not_true,Bool.not_false,cond_true,cond_false]
  · refine fin ⟨false,(bnF vc vn).2⟩ ?_ rfl
    unfold F35 rt35;simp only [RT.val,mq,F57_ok,F57_1,p,h1,Option.isSome_some,decide_false,Bool.not_false,cond_true]
def Sub (m M:M4):Prop:=M.a≤m.a∧m.b≤M.b∧M.c≤m.c∧m.d≤M.d
theorem mn_lo (lc:Array Value)(ln:Nat)(f t:Int) {k:Nat}(hk:k<ln) (h1:getInt lc (k*6)<t) (h2:f<getInt lc (k*6+1)) :
    Sub ⟨getInt lc (k*6+2),getInt lc (k*6+3),getInt lc (k*6+4),getInt lc (k*6+5)⟩ (mn lc ln f t):=by
  have key:=iterN_invK (f:=mnS lc f t) (n:=ln) (I:=fun n s=>k<n→Sub ⟨getInt lc (k*6+2),getInt lc (k*6+3),getInt lc (k*6+4),getInt lc (k*6+5)⟩ s) (fun i s hi hs hki=>by
    by_cases e:i=k
    · subst e
      unfold mnS Sub;rw [if_pos h1,if_pos h2];simp only
      omega
    · have:=hs (by omega)
      unfold mnS
      split
      · split
        · unfold Sub at this ⊢;simp only at this ⊢;omega
        · exact this
      · exact this) ln 0 ⟨20000,-20000,20000,-20000⟩ (by omega) (fun h=>absurd h (by omega))
  exact key hk
theorem mn_all (lc:Array Value)(ln:Nat)(f t:Int) {M:M4}(h4:In4 M) (h:∀k,k<ln→getInt lc (k*6)<t→f<getInt lc (k*6+1)→Sub ⟨getInt lc (k*6+2),getInt lc (k*6+3),getInt lc (k*6+4),getInt lc (k*6+5)⟩ M):Sub (mn lc ln f t) M:=by
  refine iterN_invK (f:=mnS lc f t) (n:=ln) (I:=fun _ s=>Sub s M) (fun i s hi hs=>?_) ln 0 ⟨20000,-20000,20000,-20000⟩ (by omega) ?_
  · unfold mnS
    split
    · rename_i c1
      split
      · rename_i c2
        have:=h i hi c1 c2;unfold Sub at this hs ⊢;simp only at this ⊢;omega
      · exact hs
    · exact hs
  · unfold In4 at h4;unfold Sub;simp only;omega
theorem bd_find (hb:∀k,k<vn→bdE vc k=0) {h:Int}(h0:0≤h):∀n,n<vn→h<getInt vc (n*6+1)→∃i,i<vn∧getInt vc (i*6)≤h∧h<getInt vc (i*6+1)
  | 0,hn,hl=>⟨0,hn,by have h1:=(bd_of (hb 0 hn)).1;have h2:prv vc 0=0:=rfl;omega,hl⟩
  | n+1,hn,hl=>by
    by_cases c:getInt vc ((n+1)*6)≤h
    · exact ⟨n+1,hn,c,hl⟩
    · have h1:=(bd_of (hb (n+1) hn)).1
      have h2:prv vc (n+1)=getInt vc (n*6+1):=rfl
      exact bd_find hb h0 n (by omega) (by omega)
theorem mn_sub (hv:∀k,k<vn→bdE vc k=0)(hl:∀k,k<ln→bdE lc k=0)(v1:1≤vn)(cov:cvr vc lc vn ln) {f t:Int}(f0:0≤f) (ft:f<t) (tl:t≤last6 vc vn):Sub (mn lc ln f t) (mn vc vn f t):=by
  refine mn_all lc ln f t (mn_in hv f t) (fun k hk c1 c2=>?_)
  have hb:=(bd_of (hl k hk)).2.1;unfold last6 at tl
  obtain ⟨i,hi,i1,i2⟩:=bd_find hv (h:=max f (getInt lc (k*6))) (by omega) (vn-1) (by omega) (by omega)
  have a1:=mn_lo vc vn f t hi (by omega) (by omega)
  obtain ⟨b1,b2,b3,b4⟩:=cov k hk i hi (by omega) (by omega)
  unfold Sub at a1 ⊢;simp only at a1 ⊢
  omega
theorem mn_ord (hl:∀k,k<ln→bdE lc k=0)(l1:1≤ln) {f t:Int}(f0:0≤f) (ft:f<t) (tl:t≤last6 lc ln):(mn lc ln f t).a≤(mn lc ln f t).b∧(mn lc ln f t).c≤(mn lc ln f t).d:=by
  unfold last6 at tl
  obtain ⟨i,hi,i1,i2⟩:=bd_find hl (h:=f) f0 (ln-1) (by omega) (by omega)
  have a1:=mn_lo lc ln f t hi (by omega) (by omega)
  have b:=bd_of (hl i hi);unfold Sub at a1;simp only at a1
  omega
end
theorem mul_in {p r lo hi:Int}(h1:lo≤r) (h2:r≤hi):min (p*lo) (p*hi)≤p*r∧p*r≤max (p*lo) (p*hi):=by
  by_cases c:0≤p
  · have a:=Int.mul_le_mul_of_nonneg_left h1 c
    have b:=Int.mul_le_mul_of_nonneg_left h2 c
    omega
  · have a:=Int.mul_le_mul_of_nonneg_left h1 (show 0≤-p by omega)
    have b:=Int.mul_le_mul_of_nonneg_left h2 (show 0≤-p by omega)
    rw [Int.neg_mul,Int.neg_mul]at a b
    omega
theorem pr_sub {p q r s R S:Int}(p1:-10000000≤p) (p2:p≤10000000) (q1:-10000000≤q) (q2:q≤10000000) (R1:-20000≤R) (S2:S≤20000) (rs:r≤s) (h1:R≤r) (h2:s≤S) :
    prL p q R S≤prL p q r s∧prH p q r s≤prH p q R S∧prL p q r s≤prH p q r s:=by
  obtain ⟨e1,e2,_⟩:=pr_id p1 p2 q1 q2 (r:=r) (s:=s) (by omega) (by omega) (by omega) (by omega)
  obtain ⟨e3,e4,_⟩:=pr_id p1 p2 q1 q2 (r:=R) (s:=S) (by omega) (by omega) (by omega) (by omega)
  have m1:=mul_in (p:=p) (r:=r) (lo:=R) (hi:=S) (by omega) (by omega)
  have m2:=mul_in (p:=p) (r:=s) (lo:=R) (hi:=S) (by omega) (by omega)
  have m3:=mul_in (p:=q) (r:=r) (lo:=R) (hi:=S) (by omega) (by omega)
  have m4:=mul_in (p:=q) (r:=s) (lo:=R) (hi:=S) (by omega) (by omega)
  rw [e1,e2,e3,e4]
  omega
theorem sm_sub {f F:Nat→M4}{n:Nat}(pf:Pr f n) (pF:Pr F n) (hn:n≤20) (h:∀k,k<n→prL (F k).a (F k).b (F k).c (F k).d≤prL (f k).a (f k).b (f k).c (f k).d∧prH (f k).a (f k).b (f k).c (f k).d≤prH (F k).a (F k).b (F k).c (F k).d∧prL (f k).a (f k).b (f k).c (f k).d≤prH (f k).a (f k).b (f k).c (f k).d) :
    (sm F n).1≤(sm f n).1∧(sm f n).2≤(sm F n).2∧(sm f n).1≤(sm f n).2:=by
  rw [(sm_id pf hn).1,(sm_id pF hn).1]
  have key:∀m k (s S:Int×Int),k+m=n→S.1≤s.1∧s.2≤S.2∧s.1≤s.2→(iterN (smI F) m k S).1≤(iterN (smI f) m k s).1∧(iterN (smI f) m k s).2≤(iterN (smI F) m k S).2∧(iterN (smI f) m k s).1≤(iterN (smI f) m k s).2:=by
    intro m
    induction m with
    | zero=>intro k s S _ h;exact h
    | succ m ih =>
      intro k s S e hs
      have:=h k (by omega)
      refine ih (k+1) (smI f k s) (smI F k S) (by omega) ?_
      unfold smI;simp only
      omega
  exact key n 0 (0,0) (0,0) (by omega) ⟨by decide,by decide,by decide⟩
section
variable {rc sc vc lc:Array Value}{rn sn vn ln:Nat}{x y a b c e g u z:Int}
theorem w_sub (t:Tsk rc sc rn sn x y a b c e g u z)(hv:∀k,k<vn→bdE vc k=0)(hl:∀k,k<ln→bdE lc k=0)(v1:1≤vn)(l1:1≤ln)(cov:cvr vc lc vn ln)(tv:last4 rc rn≤last6 vc vn)(tl:last4 rc rn≤last6 lc ln) :
    ((wX rc vc rn vn).1≤(wX rc lc rn ln).1∧(wX rc lc rn ln).2≤(wX rc vc rn vn).2∧(wX rc lc rn ln).1≤(wX rc lc rn ln).2)∧((wY rc vc rn vn).1≤(wY rc lc rn ln).1∧(wY rc lc rn ln).2≤(wY rc vc rn vn).2∧(wY rc lc rn ln).1≤(wY rc lc rn ln).2):=by
  have hw:=fun k hk=>wt_of (t.wt k hk)
  have mono:∀m k,k+m<rn→getInt rc (k*4+1)≤getInt rc ((k+m)*4+1):=by
    intro m
    induction m with
    | zero=>intro k _;exact Int.le_refl _
    | succ m ih =>
      intro k hk
      have h1:=ih k (by omega)
      have h2:=hw (k+m+1) (by omega)
      have h3:frI rc (k+m+1)=getInt rc ((k+m)*4+1):=by rw [frI_next,Nat.zero_add]
      have e:k+(m+1)=k+m+1:=by omega
      rw [e]
      omega
  have lo:∀k,k<rn→0≤getInt rc (k*4):=by
    intro k
    induction k with
    | zero=>intro hk;have h2:=hw 0 hk;have h3:frI rc 0=0:=rfl;omega
    | succ k ih =>
      intro hk
      have h1:=ih (by omega)
      have h2:=hw (k+1) hk
      have h2':=hw k (by omega)
      have h3:frI rc (k+1)=getInt rc (k*4+1):=by rw [frI_next,Nat.zero_add]
      omega
  have hi:∀k,k<rn→getInt rc (k*4+1)≤last4 rc rn:=by
    intro k hk
    have:=mono (rn-1-k) k (by omega)
    rw [show k+(rn-1-k)=rn-1 by omega]at this
    exact this
  have ms:=fun k (hk:k<rn)=>mn_sub hv hl v1 cov (lo k hk) (hw k hk).2.1 (Int.le_trans (hi k hk) tv)
  have mo:=fun k (hk:k<rn)=>mn_ord hl l1 (lo k hk) (hw k hk).2.1 (Int.le_trans (hi k hk) tl)
  have i4:=fun k=>mn_in (ln:=vn) hv (getInt rc (k*4)) (getInt rc (k*4+1))
  obtain ⟨p1,p2⟩:=fx_pr t hl;obtain ⟨q1,q2⟩:=fx_pr t hv;unfold Sub at ms;unfold In4 at i4
  refine ⟨sm_sub p1 q1 t.r.2 (fun k hk=>?_),sm_sub p2 q2 t.r.2 (fun k hk=>?_)⟩
  · have h1:=hw k hk;have h2:=ms k hk;have h3:=mo k hk;have h4:=i4 k
    unfold fx;simp only
    exact pr_sub (by omega) (by omega) (by omega) (by omega) (by omega) (by omega) h3.1 h2.1 h2.2.1
  · have h1:=hw k hk;have h2:=ms k hk;have h3:=mo k hk;have h4:=i4 k
    unfold fy;simp only
    exact pr_sub (by omega) (by omega) (by omega) (by omega) (by omega) (by omega) h3.2 h2.2.2.1 h2.2.2.2
theorem imp_sub (t:Tsk rc sc rn sn x y a b c e g u z)(hv:∀k,k<vn→bdE vc k=0)(hl:∀k,k<ln→bdE lc k=0)(v1:1≤vn)(l1:1≤ln)(cov:cvr vc lc vn ln)(tv:last4 rc rn≤last6 vc vn)(tl:last4 rc rn≤last6 lc ln) {k:Nat}(hk:k<sn) :
    Sub (imp rc sc lc rn ln k) (imp rc sc vc rn vn k)∧(imp rc sc lc rn ln k).a≤(imp rc sc lc rn ln k).b∧(imp rc sc lc rn ln k).c≤(imp rc sc lc rn ln k).d:=by
  obtain ⟨s1,s2,n1,n2⟩:=se_of (t.se k hk);obtain ⟨⟨v1,v2,v3,v4⟩,v5,v6,v7,v8⟩:=wX_bd t hv;obtain ⟨⟨l1',l2,l3,l4⟩,l5,l6,l7,l8⟩:=wX_bd t hl
  obtain ⟨⟨e1,e2,e3⟩,e4,e5,e6⟩:=w_sub t hv hl (by assumption) (by assumption) cov tv tl
  have m1:=Int.mul_le_mul_of_nonneg_right e1 n1;have m2:=Int.mul_le_mul_of_nonneg_right e2 n1;have m3:=Int.mul_le_mul_of_nonneg_right e3 n1;have m4:=Int.mul_le_mul_of_nonneg_right e4 n1;have m5:=Int.mul_le_mul_of_nonneg_right e5 n1;have m6:=Int.mul_le_mul_of_nonneg_right e6 n1
  have a1:=drL_id (s:=getInt sc (k*5)) (by omega) (by omega) l1' l2 n1 n2
  have a2:=drL_id (s:=getInt sc (k*5)) (by omega) (by omega) v1 v2 n1 n2
  have b1:=drH_id (s:=getInt sc (k*5+1)) (by omega) (by omega) l3 l4 n1 n2
  have b2:=drH_id (s:=getInt sc (k*5+1)) (by omega) (by omega) v3 v4 n1 n2
  have c1:=drL_id (s:=getInt sc (k*5+2)) (by omega) (by omega) l5 l6 n1 n2
  have c2:=drL_id (s:=getInt sc (k*5+2)) (by omega) (by omega) v5 v6 n1 n2
  have d1:=drH_id (s:=getInt sc (k*5+3)) (by omega) (by omega) l7 l8 n1 n2
  have d2:=drH_id (s:=getInt sc (k*5+3)) (by omega) (by omega) v7 v8 n1 n2
  unfold Sub imp im;simp only
  omega
theorem sq_in {d lo hi:Int}(h1:lo≤d) (h2:d≤hi) (b1:-10000000000≤lo) (b2:hi≤10000000000):sq d≤max (sq lo) (sq hi):=by
  obtain ⟨e1,f1,g1,k1,l1⟩:=sq_id (d:=d) (by omega) (by omega)
  obtain ⟨e2,f2,g2,k2,l2⟩:=sq_id (d:=lo) (by omega) (by omega)
  obtain ⟨e3,f3,g3,k3,l3⟩:=sq_id (d:=hi) (by omega) (by omega)
  rw [e1,e2,e3]
  have h:mt d≤mt lo∨mt d≤mt hi:=by omega
  rcases h with h | h
  · have:=Int.mul_le_mul h h f1 f2;omega
  · have:=Int.mul_le_mul h h f1 f3;omega
theorem mi_sub {m M:M4}(hm:In9 m) (hM:In9 M) (x1:-500000000≤x) (x2:x≤500000000) (y1:-500000000≤y) (y2:y≤500000000) (h:Sub m M) (ab:m.a≤m.b) (cd:m.c≤m.d):mi x y m≤mi x y M:=by
  obtain ⟨e0,e1,e2,e3⟩:=co_id hm x1 x2 y1 y2;obtain ⟨g0,g1,g2,g3⟩:=co_id hM x1 x2 y1 y2;unfold In9 at hm hM;unfold Sub at h
  have p1:=sq_in (d:=m.a-x) (lo:=M.a-x) (hi:=M.b-x) (by omega) (by omega) (by omega) (by omega)
  have p2:=sq_in (d:=m.b-x) (lo:=M.a-x) (hi:=M.b-x) (by omega) (by omega) (by omega) (by omega)
  have p3:=sq_in (d:=m.c-y) (lo:=M.c-y) (hi:=M.d-y) (by omega) (by omega) (by omega) (by omega)
  have p4:=sq_in (d:=m.d-y) (lo:=M.c-y) (hi:=M.d-y) (by omega) (by omega) (by omega) (by omega)
  unfold mi;rw [e0,e1,e2,e3,g0,g1,g2,g3]
  omega
theorem al_sub {m M:M4}(h:Sub m M) (ha:al a b c e M=true):al a b c e m=true:=by
  unfold al at ha ⊢;unfold Sub at h;simp only [Bool.and_eq_true,Bool.not_eq_true',decide_eq_false_iff_not]at ha ⊢
  omega
end
end
end Go.Proofs.Ytkcahhbhfmdpmaa
namespace Go.Proofs.Ytkcahhbhfmdpmaa
open Go.ChangeShapes Go.WideShapes Go.ChangeAt Go.RowKit Go.Gi
set_option maxRecDepth 100000
theorem flat114:flatT Try.prog 19 114=true:=by kernel_rfl
theorem leaves114:leaves Try.prog false 19 114=I6:=by kernel_rfl
theorem cells114:Try.prog.cellsOf 114=6:=by kernel_rfl
theorem tyB38:tyB Try.prog 20 38=true:=by kernel_rfl
section
variable {H:Type}{enc:TypeId×Value→H}{w:World}{r:Reach}{b0:Nat}{v:Value}{dd:DataW H}{p:List MemPlace}
theorem bandsArg (hval:Value.okWide Try.prog w r b0 38 v)(h:DataW.Trod enc Try.prog w 0 (fun _=>true) true 38 v dd p):∃c n,VR (zAll w) (lstV c 0 n 6) v∧GL I6 6 c n :=
  argRows Try.underlying38 flat114 cells114 leaves114 rfl (by decide) tyB38 hval h
theorem taskArg (hval:Value.okWide Try.prog w r b0 31 v)(h:DataW.Trod enc Try.prog w 0 (fun _=>true) true 31 v dd p):∃c1 n1 c2 n2 x y a b c e g u z,VR (zAll w) (.agg ⟨[lstV c1 0 n1 4,lstV c2 0 n2 5,.int .i64 x,.int .i64 y,.int .i64 a,.int .i64 b,.int .i64 c,.int .i64 e,.int .i64 g,.int .i64 u,.int .i64 z]⟩) v∧GL I4 4 c1 n1∧GL I5 5 c2 n2:=by
  obtain ⟨abs,u0,c1,n1,c2,n2,x,y,a,b,c,e,g,u,z,rfl,g1,g2⟩:=amtArg hval h;exact ⟨c1,n1,c2,n2,x,y,a,b,c,e,g,u,z,u0,g1,g2⟩
end
end Go.Proofs.Ytkcahhbhfmdpmaa
namespace Go.Proofs.Ytkcahhbhfmdpmaa
open Go.Gi Go.RowKit Go.Proofs.Ytkcahhbhfmdpmaa.Old
noncomputable section
set_option maxRecDepth 100000
set_option maxHeartbeats 4000000
structure R45 where
  (r0 r1:Int)
structure A45 where
  (a0 a1:Int)
def rt45 (a0 a1:Int):RT R45 :=
  .leaf ⟨a0,a1⟩
def en45 (r:R45):Value:=(.agg ⟨[(.int .i64 r.r0),(.int .i64 r.r1)]⟩)
theorem T45  (a0 a1:Int):evC Try.prog (Ans.c (fun _=>none:Ans)) 60 (.call 45 ⟨[(.int .i64 a0),(.int .i64 a1)]⟩ ⟨[],0,[]⟩) (frzK [0])=(rt45 a0 a1).out (fun r=>.ret (en45 r) ⟨[],0,[]⟩):=by kernel_rfl
def F45 (a0 a1:Int):Option R45:=(rt45 a0 a1).val
section
variable (a0 a1:Int)
def F45_ok:Bool:=(F45 a0 a1).isSome
def F45_0:Int:=match F45 a0 a1 with | some r=>r.r0 | none=>0
def F45_1:Int:=match F45 a0 a1 with | some r=>r.r1 | none=>0
end
def dec45:Task→Option (A45×Hp)
  | .call g ⟨[(.int .i64 a0),(.int .i64 a1)]⟩ h=>(match Nat.beq g 45 with | true=>some (⟨a0,a1⟩,h) | false=>none)
  | _=>none
def alt45 (x:A45)(h:Hp):AT:=.br (F45_ok x.a0 x.a1) (.leaf (.ret (.agg ⟨[(.int .i64 (F45_0 x.a0 x.a1)),(.int .i64 (F45_1 x.a0 x.a1))]⟩) h)) .no
def p45:Ans:=fnAns dec45 alt45
theorem ha45:∀(x:A45) (h:Hp)(o:Out),(alt45 x h).out=some o→∃r,(rt45 x.a0 x.a1).val=some r∧o=.ret (en45 r) h:=by
  intro x h o e;unfold alt45 at e;simp only [AT.out]at e;obtain ⟨g,e⟩:=cond_some e;unfold F45_ok at g;obtain ⟨r,hF⟩:=Option.isSome_iff_exists.1 g
  have hv:F45 x.a0 x.a1=(rt45 x.a0 x.a1).val:=by delta F45;exact rfl
  refine ⟨r,hv.symm.trans hF,?_⟩
  simp only [Option.some.injEq]at e;rw [← e]
  have k0:F45_0 x.a0 x.a1=r.r0:=by
    show (match F45 x.a0 x.a1 with | some r=>r.r0 | none=>0)=r.r0
    rw [hF]
  have k1:F45_1 x.a0 x.a1=r.r1:=by
    show (match F45 x.a0 x.a1 with | some r=>r.r1 | none=>0)=r.r1
    rw [hF]
  rw [k0,k1]<;>rfl
theorem hd45:∀(t:Task) (x:A45)(h:Hp),dec45 t=some (x,h)→t=.call 45 ⟨[(.int .i64 x.a0),(.int .i64 x.a1)]⟩ h:=by
  intro t x h e;unfold dec45 at e
  split at e
  case h_2=>cases e
  split at e
  case h_2=>cases e
  rename_i hg;simp only [Option.some.injEq,Prod.mk.injEq]at e;obtain ⟨rfl,rfl⟩:=e;rw [Nat.eq_of_beq_eq_true hg]
theorem known45:Known Try.prog p45:=by
  exact Known.fn noNG mixed (Known.nothing Try.prog) (n:=60) (zs:=[0]) 45 (fun x:A45=>[(.int .i64 x.a0),(.int .i64 x.a1)]) (fun x=>rt45 x.a0 x.a1) en45 (fun x=>T45  x.a0 x.a1) (fun x=>rfl) dec45 alt45 hd45 ha45
structure R19 where
  (r0 r1:Int)
  (r2 r3:Int)
structure A19 where
  (a0 a1:Int)
  (a2 a3:Int)
def rt19 (a0 a1:Int)(a2 a3:Int):RT R19 :=
  .leaf ⟨(F45_0 a0 a1),(F45_1 a0 a1),(F45_0 a2 a3),(F45_1 a2 a3)⟩
def en19 (r:R19):Value:=(.agg ⟨[(.int .i64 r.r0),(.int .i64 r.r1),(.int .i64 r.r2),(.int .i64 r.r3)]⟩)
theorem T19  (a0 a1:Int) (a2 a3:Int):evC Try.prog (Ans.c p45) 60 (.call 19 ⟨[(.int .i64 a0),(.int .i64 a1),(.int .i64 a2),(.int .i64 a3)]⟩ ⟨[],0,[]⟩) (frzK [0])=(rt19 a0 a1 a2 a3).out (fun r=>.ret (en19 r) ⟨[],0,[]⟩):=by kernel_rfl
def F19 (a0 a1:Int)(a2 a3:Int):Option R19:=(rt19 a0 a1 a2 a3).val
section
variable (a0 a1:Int) (a2 a3:Int)
def F19_ok:Bool:=(F19 a0 a1 a2 a3).isSome
def F19_0:Int:=match F19 a0 a1 a2 a3 with | some r=>r.r0 | none=>0
def F19_1:Int:=match F19 a0 a1 a2 a3 with | some r=>r.r1 | none=>0
def F19_2:Int:=match F19 a0 a1 a2 a3 with | some r=>r.r2 | none=>0
def F19_3:Int:=match F19 a0 a1 a2 a3 with | some r=>r.r3 | none=>0
end
def dec19:Task→Option (A19×Hp)
  | .call g ⟨[(.int .i64 a0),(.int .i64 a1),(.int .i64 a2),(.int .i64 a3)]⟩ h=>(match Nat.beq g 19 with | true=>some (⟨a0,a1,a2,a3⟩,h) | false=>none)
  | _=>none
def alt19 (x:A19)(h:Hp):AT:=.br (F19_ok x.a0 x.a1 x.a2 x.a3) (.leaf (.ret (.agg ⟨[(.int .i64 (F19_0 x.a0 x.a1 x.a2 x.a3)),(.int .i64 (F19_1 x.a0 x.a1 x.a2 x.a3)),(.int .i64 (F19_2 x.a0 x.a1 x.a2 x.a3)),(.int .i64 (F19_3 x.a0 x.a1 x.a2 x.a3))]⟩) h)) .no
def p19:Ans:=fnAns dec19 alt19
theorem ha19:∀(x:A19) (h:Hp)(o:Out),(alt19 x h).out=some o→∃r,(rt19 x.a0 x.a1 x.a2 x.a3).val=some r∧o=.ret (en19 r) h:=by
  intro x h o e;unfold alt19 at e;simp only [AT.out]at e;obtain ⟨g,e⟩:=cond_some e;unfold F19_ok at g;obtain ⟨r,hF⟩:=Option.isSome_iff_exists.1 g
  have hv:F19 x.a0 x.a1 x.a2 x.a3=(rt19 x.a0 x.a1 x.a2 x.a3).val:=by delta F19;exact rfl
  refine ⟨r,hv.symm.trans hF,?_⟩
  simp only [Option.some.injEq]at e;rw [← e]
  have k0:F19_0 x.a0 x.a1 x.a2 x.a3=r.r0:=by
    show (match F19 x.a0 x.a1 x.a2 x.a3 with | some r=>r.r0 | none=>0)=r.r0
    rw [hF]
  have k1:F19_1 x.a0 x.a1 x.a2 x.a3=r.r1:=by
    show (match F19 x.a0 x.a1 x.a2 x.a3 with | some r=>r.r1 | none=>0)=r.r1
    rw [hF]
  have k2:F19_2 x.a0 x.a1 x.a2 x.a3=r.r2:=by
    show (match F19 x.a0 x.a1 x.a2 x.a3 with | some r=>r.r2 | none=>0)=r.r2
    rw [hF]
  have k3:F19_3 x.a0 x.a1 x.a2 x.a3=r.r3:=by
    show (match F19 x.a0 x.a1 x.a2 x.a3 with | some r=>r.r3 | none=>0)=r.r3
    rw [hF]
  rw [k0,k1,k2,k3]<;>rfl
theorem hd19:∀(t:Task) (x:A19)(h:Hp),dec19 t=some (x,h)→t=.call 19 ⟨[(.int .i64 x.a0),(.int .i64 x.a1),(.int .i64 x.a2),(.int .i64 x.a3)]⟩ h:=by
  intro t x h e;unfold dec19 at e
  split at e
  case h_2=>cases e
  split at e
  case h_2=>cases e
  rename_i hg;simp only [Option.some.injEq,Prod.mk.injEq]at e;obtain ⟨rfl,rfl⟩:=e;rw [Nat.eq_of_beq_eq_true hg]
theorem known19:Known Try.prog p19:=by
  exact Known.fn noNG mixed known45 (n:=60) (zs:=[0]) 19 (fun x:A19=>[(.int .i64 x.a0),(.int .i64 x.a1),(.int .i64 x.a2),(.int .i64 x.a3)]) (fun x=>rt19 x.a0 x.a1 x.a2 x.a3) en19 (fun x=>T19  x.a0 x.a1 x.a2 x.a3) (fun x=>rfl) dec19 alt19 hd19 ha19
structure R17 where
  (r0:Array Value)
  (r1 r2:Nat)
  (r3:Array Value)
  (r4 r5:Nat)
  (r6 r7:Int)
  (r8 r9:Int)
  (r10 r11:Int)
  (r12 r13 r14:Int)
structure A17 where
def rt17 :RT R17 :=
  .leaf ⟨⟨[(.int .i64 (0:Int)),(.int .i64 (200000:Int)),(.int .i64 (2000:Int)),(.int .i64 (3000:Int)),(.int .i64 (200000:Int)),(.int .i64 (1000000:Int)),(.int .i64 (-500:Int)),(.int .i64 (-400:Int))]⟩,0,2,⟨[(.int .i64 (10000:Int)),(.int .i64 (20000:Int)),(.int .i64 (-5000:Int)),(.int .i64 (5000:Int)),(.int .i64 (1000:Int)),(.int .i64 (6000:Int)),(.int .i64 (16000:Int)),(.int .i64 (-5000:Int)),(.int .i64 (5000:Int)),(.int .i64 (1500:Int)),(.int .i64 (9000:Int)),(.int .i64 (19000:Int)),(.int .i64 (-5000:Int)),(.int .i64 (5000:Int)),(.int .i64 (1000:Int))]⟩,0,3,(15000:Int),(0:Int),(5000:Int),(25000:Int),(-10000:Int),(10000:Int),(10:Int),(50:Int),(200:Int)⟩
def en17 (r:R17):Value:=(.agg ⟨[(lstV r.r0 r.r1 r.r2 4),(lstV r.r3 r.r4 r.r5 5),(.int .i64 r.r6),(.int .i64 r.r7),(.int .i64 r.r8),(.int .i64 r.r9),(.int .i64 r.r10),(.int .i64 r.r11),(.int .i64 r.r12),(.int .i64 r.r13),(.int .i64 r.r14)]⟩)
theorem T17  :evC Try.prog (Ans.c (p19.or p45)) 60 (.call 17 ⟨[]⟩ ⟨[],0,[]⟩) (frzK [4])=(rt17 ).out (fun r=>.ret (en17 r) ⟨[],0,[]⟩):=by kernel_rfl
def F17 :Option R17:=(rt17 ).val
def F17_ok :Bool:=(F17 ).isSome
def F17_0 :Array Value:=match F17  with | some r=>r.r0 | none=>#[]
def F17_1 :Nat:=match F17  with | some r=>r.r1 | none=>0
def F17_2 :Nat:=match F17  with | some r=>r.r2 | none=>0
def F17_3 :Array Value:=match F17  with | some r=>r.r3 | none=>#[]
def F17_4 :Nat:=match F17  with | some r=>r.r4 | none=>0
def F17_5 :Nat:=match F17  with | some r=>r.r5 | none=>0
def F17_6 :Int:=match F17  with | some r=>r.r6 | none=>0
def F17_7 :Int:=match F17  with | some r=>r.r7 | none=>0
def F17_8 :Int:=match F17  with | some r=>r.r8 | none=>0
def F17_9 :Int:=match F17  with | some r=>r.r9 | none=>0
def F17_10 :Int:=match F17  with | some r=>r.r10 | none=>0
def F17_11 :Int:=match F17  with | some r=>r.r11 | none=>0
def F17_12 :Int:=match F17  with | some r=>r.r12 | none=>0
def F17_13 :Int:=match F17  with | some r=>r.r13 | none=>0
def F17_14 :Int:=match F17  with | some r=>r.r14 | none=>0
def dec17:Task→Option (A17×Hp)
  | .call g ⟨[]⟩ h=>(match Nat.beq g 17 with | true=>some (⟨⟩,h) | false=>none)
  | _=>none
def alt17 (x:A17)(h:Hp):AT:=.br (F17_ok ) (.leaf (.ret (.agg ⟨[(lstV (F17_0 ) (F17_1 ) (F17_2 ) 4),(lstV (F17_3 ) (F17_4 ) (F17_5 ) 5),(.int .i64 (F17_6 )),(.int .i64 (F17_7 )),(.int .i64 (F17_8 )),(.int .i64 (F17_9 )),(.int .i64 (F17_10 )),(.int .i64 (F17_11 )),(.int .i64 (F17_12 )),(.int .i64 (F17_13 )),(.int .i64 (F17_14 ))]⟩) h)) .no
def p17:Ans:=fnAns dec17 alt17
theorem ha17:∀(x:A17) (h:Hp)(o:Out),(alt17 x h).out=some o→∃r,(rt17 ).val=some r∧o=.ret (en17 r) h:=by
  intro x h o e;unfold alt17 at e;simp only [AT.out]at e;obtain ⟨g,e⟩:=cond_some e;unfold F17_ok at g;obtain ⟨r,hF⟩:=Option.isSome_iff_exists.1 g
  have hv:F17 =(rt17 ).val:=by delta F17;exact rfl
  refine ⟨r,hv.symm.trans hF,?_⟩
  simp only [Option.some.injEq]at e;rw [← e]
  have k0:F17_0 =r.r0:=by
    show (match F17  with | some r=>r.r0 | none=>#[])=r.r0
    rw [hF]
  have k1:F17_1 =r.r1:=by
    show (match F17  with | some r=>r.r1 | none=>0)=r.r1
    rw [hF]
  have k2:F17_2 =r.r2:=by
    show (match F17  with | some r=>r.r2 | none=>0)=r.r2
    rw [hF]
  have k3:F17_3 =r.r3:=by
    show (match F17  with | some r=>r.r3 | none=>#[])=r.r3
    rw [hF]
  have k4:F17_4 =r.r4:=by
    show (match F17  with | some r=>r.r4 | none=>0)=r.r4
    rw [hF]
  have k5:F17_5 =r.r5:=by
    show (match F17  with | some r=>r.r5 | none=>0)=r.r5
    rw [hF]
  have k6:F17_6 =r.r6:=by
    show (match F17  with | some r=>r.r6 | none=>0)=r.r6
    rw [hF]
  have k7:F17_7 =r.r7:=by
    show (match F17  with | some r=>r.r7 | none=>0)=r.r7
    rw [hF]
  have k8:F17_8 =r.r8:=by
    show (match F17  with | some r=>r.r8 | none=>0)=r.r8
    rw [hF]
  have k9:F17_9 =r.r9:=by
    show (match F17  with | some r=>r.r9 | none=>0)=r.r9
    rw [hF]
  have k10:F17_10 =r.r10:=by
    show (match F17  with | some r=>r.r10 | none=>0)=r.r10
    rw [hF]
  have k11:F17_11 =r.r11:=by
    show (match F17  with | some r=>r.r11 | none=>0)=r.r11
    rw [hF]
  have k12:F17_12 =r.r12:=by
    show (match F17  with | some r=>r.r12 | none=>0)=r.r12
    rw [hF]
  have k13:F17_13 =r.r13:=by
    show (match F17  with | some r=>r.r13 | none=>0)=r.r13
    rw [hF]
  have k14:F17_14 =r.r14:=by
    show (match F17  with | some r=>r.r14 | none=>0)=r.r14
    rw [hF]
  rw [k0,k1,k2,k3,k4,k5,k6,k7,k8,k9,k10,k11,k12,k13,k14]<;>rfl
theorem hd17:∀(t:Task) (x:A17)(h:Hp),dec17 t=some (x,h)→t=.call 17 ⟨[]⟩ h:=by
  intro t x h e;unfold dec17 at e
  split at e
  case h_2=>cases e
  split at e
  case h_2=>cases e
  rename_i hg;simp only [Option.some.injEq,Prod.mk.injEq]at e;obtain ⟨_,rfl⟩:=e;rw [Nat.eq_of_beq_eq_true hg]
theorem known17:Known Try.prog p17:=by
  exact Known.fn noNG mixed (Known.or known19 known45) (n:=60) (zs:=[4]) 17 (fun x:A17=>[]) (fun x=>rt17 ) en17 (fun x=>T17  ) (fun x=>rfl) dec17 alt17 hd17 ha17
structure R18 where
  (r0:Array Value)
  (r1 r2:Nat)
structure A18 where
def rt18 :RT R18 :=
  .leaf ⟨⟨[(.int .i64 (0:Int)),(.int .i64 (200000:Int)),(.int .i64 (600:Int)),(.int .i64 (780:Int)),(.int .i64 (-150:Int)),(.int .i64 (80:Int)),(.int .i64 (200000:Int)),(.int .i64 (1000000:Int)),(.int .i64 (640:Int)),(.int .i64 (740:Int)),(.int .i64 (-110:Int)),(.int .i64 (240:Int))]⟩,0,2⟩
def en18 (r:R18):Value:=(lstV r.r0 r.r1 r.r2 6)
theorem T18  :evC Try.prog (Ans.c (fun _=>none:Ans)) 60 (.call 18 ⟨[]⟩ ⟨[],0,[]⟩) (frzK [6])=(rt18 ).out (fun r=>.ret (en18 r) ⟨[],0,[]⟩):=by kernel_rfl
def F18 :Option R18:=(rt18 ).val
def F18_ok :Bool:=(F18 ).isSome
def F18_0 :Array Value:=match F18  with | some r=>r.r0 | none=>#[]
def F18_1 :Nat:=match F18  with | some r=>r.r1 | none=>0
def F18_2 :Nat:=match F18  with | some r=>r.r2 | none=>0
def dec18:Task→Option (A18×Hp)
  | .call g ⟨[]⟩ h=>(match Nat.beq g 18 with | true=>some (⟨⟩,h) | false=>none)
  | _=>none
def alt18 (x:A18)(h:Hp):AT:=.br (F18_ok ) (.leaf (.ret (lstV (F18_0 ) (F18_1 ) (F18_2 ) 6) h)) .no
def p18:Ans:=fnAns dec18 alt18
theorem ha18:∀(x:A18) (h:Hp)(o:Out),(alt18 x h).out=some o→∃r,(rt18 ).val=some r∧o=.ret (en18 r) h:=by
  intro x h o e;unfold alt18 at e;simp only [AT.out]at e;obtain ⟨g,e⟩:=cond_some e;unfold F18_ok at g;obtain ⟨r,hF⟩:=Option.isSome_iff_exists.1 g
  have hv:F18 =(rt18 ).val:=by delta F18;exact rfl
  refine ⟨r,hv.symm.trans hF,?_⟩
  simp only [Option.some.injEq]at e;rw [← e]
  have k0:F18_0 =r.r0:=by
    show (match F18  with | some r=>r.r0 | none=>#[])=r.r0
    rw [hF]
  have k1:F18_1 =r.r1:=by
    show (match F18  with | some r=>r.r1 | none=>0)=r.r1
    rw [hF]
  have k2:F18_2 =r.r2:=by
    show (match F18  with | some r=>r.r2 | none=>0)=r.r2
    rw [hF]
  rw [k0,k1,k2]<;>rfl
theorem hd18:∀(t:Task) (x:A18)(h:Hp),dec18 t=some (x,h)→t=.call 18 ⟨[]⟩ h:=by
  intro t x h e;unfold dec18 at e
  split at e
  case h_2=>cases e
  split at e
  case h_2=>cases e
  rename_i hg;simp only [Option.some.injEq,Prod.mk.injEq]at e;obtain ⟨_,rfl⟩:=e;rw [Nat.eq_of_beq_eq_true hg]
theorem known18:Known Try.prog p18:=by
  exact Known.fn noNG mixed (Known.nothing Try.prog) (n:=60) (zs:=[6]) 18 (fun x:A18=>[]) (fun x=>rt18 ) en18 (fun x=>T18  ) (fun x=>rfl) dec18 alt18 hd18 ha18
structure R16 where
  (r0:Bool)
structure A16 where
def rt16 :RT R16 :=
  .leaf ⟨true⟩
def en16 (r:R16):Value:=(.bool r.r0)
theorem T16  :evC Try.prog (Ans.c (p14.or (p17.or (p18.or (p30.or (p45.or (p46.or (p48.or (p50.or (p51.or (p69.or p101))))))))))) 800 (.call 16 ⟨[]⟩ ⟨[],0,[]⟩) (frzK [0])=(rt16 ).out (fun r=>.ret (en16 r) ⟨[],0,[]⟩):=by kernel_rfl
def F16 :Option R16:=(rt16 ).val
def F16_ok :Bool:=(F16 ).isSome
def F16_0 :Bool:=match F16  with | some r=>r.r0 | none=>false
def dec16:Task→Option (A16×Hp)
  | .call g ⟨[]⟩ h=>(match Nat.beq g 16 with | true=>some (⟨⟩,h) | false=>none)
  | _=>none
def alt16 (x:A16)(h:Hp):AT:=.br (F16_ok ) (.leaf (.ret (.bool (F16_0 )) h)) .no
def p16:Ans:=fnAns dec16 alt16
theorem ha16:∀(x:A16) (h:Hp)(o:Out),(alt16 x h).out=some o→∃r,(rt16 ).val=some r∧o=.ret (en16 r) h:=by
  intro x h o e;unfold alt16 at e;simp only [AT.out]at e;obtain ⟨g,e⟩:=cond_some e;unfold F16_ok at g;obtain ⟨r,hF⟩:=Option.isSome_iff_exists.1 g
  have hv:F16 =(rt16 ).val:=by delta F16;exact rfl
  refine ⟨r,hv.symm.trans hF,?_⟩
  simp only [Option.some.injEq]at e;rw [← e]
  have k0:F16_0 =r.r0:=by
    show (match F16  with | some r=>r.r0 | none=>false)=r.r0
    rw [hF]
  rw [k0]<;>rfl
theorem hd16:∀(t:Task) (x:A16)(h:Hp),dec16 t=some (x,h)→t=.call 16 ⟨[]⟩ h:=by
  intro t x h e;unfold dec16 at e
  split at e
  case h_2=>cases e
  split at e
  case h_2=>cases e
  rename_i hg;simp only [Option.some.injEq,Prod.mk.injEq]at e;obtain ⟨_,rfl⟩:=e;rw [Nat.eq_of_beq_eq_true hg]
theorem known16:Known Try.prog p16:=by
  exact Known.fn noNG mixed (Known.or known14 (Known.or known17 (Known.or known18 (Known.or known30 (Known.or known45 (Known.or known46 (Known.or known48 (Known.or known50 (Known.or known51 (Known.or known69 known101)))))))))) (n:=800) (zs:=[0]) 16 (fun x:A16=>[]) (fun x=>rt16 ) en16 (fun x=>T16  ) (fun x=>rfl) dec16 alt16 hd16 ha16
end
end Go.Proofs.Ytkcahhbhfmdpmaa
namespace Go.Proofs.Ytkcahhbhfmdpmaa
open Go.Gi Go.RowKit
noncomputable section
set_option maxRecDepth 100000
set_option maxHeartbeats 1000000
theorem bst_none {r:Nat→Int}:∀{l:List Nat}{s:Option Nat},bst r l s=none→l=[]∧s=none
  | [],s,h=>⟨rfl,h⟩
  | k::l,none,h=>by
    unfold bst at h;have:=(bst_none h).2
    cases this
  | k::l,some j,h=>by
    unfold bst at h
    by_cases hlt:r k<r j
    · rw [if_pos hlt]at h;have:=(bst_none h).2;cases this
    · rw [if_neg hlt]at h;have:=(bst_none h).2;cases this
theorem bst_some {r:Nat→Int}{q:Nat}:∀{l:List Nat}{s:Option Nat},bst r l s=some q→l.Pairwise (· < ·)→(∀j,s=some j→∀k∈l,j<k) →
    (s=some q∨q∈l)∧∀k,(s=some k∨k∈l)→r q≤r k∧(r k=r q→q≤k)
  | [],s,h,_,_=>by
    have h':s=some q:=h
    refine ⟨.inl h',fun k hk=>?_⟩
    rcases hk with hk | hk
    · rw [h']at hk;cases hk;exact ⟨Int.le_refl _,fun _=>Nat.le_refl _⟩
    · cases hk
  | k::l,none,h,hp,_=>by
    unfold bst at h;rw [List.pairwise_cons]at hp
    obtain ⟨i1,i2⟩:=bst_some h hp.2 (fun j e=>by cases e;exact hp.1)
    refine ⟨.inr ?_,fun i hi=>i2 i ?_⟩
    · rcases i1 with e | e
      · cases e;exact List.mem_cons_self ..
      · exact List.mem_cons_of_mem _ e
    · rcases hi with hi | hi
      · cases hi
      · rcases List.mem_cons.1 hi with rfl | hi
        · exact .inl rfl
        · exact .inr hi
  | k::l,some j,h,hp,hs=>by
    unfold bst at h;rw [List.pairwise_cons]at hp;have hjk:=hs j rfl k (List.mem_cons_self ..)
    by_cases hlt:r k<r j
    · rw [if_pos hlt]at h
      obtain ⟨i1,i2⟩:=bst_some h hp.2 (fun j e=>by cases e;exact hp.1)
      have ik:=i2 k (.inl rfl)
      refine ⟨.inr ?_,fun i hi=>?_⟩
      · rcases i1 with e | e
        · cases e;exact List.mem_cons_self ..
        · exact List.mem_cons_of_mem _ e
      · rcases hi with hi | hi
        · cases hi;exact ⟨by omega,fun e=>by omega⟩
        · rcases List.mem_cons.1 hi with rfl | hi
          · exact ik
          · exact i2 i (.inr hi)
    · rw [if_neg hlt]at h
      obtain ⟨i1,i2⟩:=bst_some h hp.2 (fun i e q hq=>by cases e;exact hs j rfl q (List.mem_cons_of_mem _ hq))
      have ij:=i2 j (.inl rfl)
      refine ⟨?_,fun i hi=>?_⟩
      · rcases i1 with e | e
        · exact .inl e
        · exact .inr (List.mem_cons_of_mem _ e)
      · rcases hi with hi | hi
        · cases hi;exact ij
        · rcases List.mem_cons.1 hi with rfl | hi
          · refine ⟨by omega,fun e=>?_⟩
            have:=ij.2 (by omega)
            omega
          · exact i2 i (.inr hi)
theorem alL_sort {a b c e:Int}{A:Nat→M4}{sn:Nat}:(alL a b c e A sn).Pairwise (· < ·):=by
  unfold alL;exact List.Pairwise.filter _ List.pairwise_lt_range
section
variable {x y a b c e:Int}{A:Nat→M4}{sn:Nat}
theorem bs_some {j:Nat}(h:bs x y a b c e A sn=some j):j<sn∧al a b c e (A j)=true∧∀k,k<sn→al a b c e (A k)=true→mi x y (A j)≤mi x y (A k)∧(mi x y (A k)=mi x y (A j)→j≤k):=by
  obtain ⟨i1,i2⟩:=bst_some h alL_sort (fun i e=>by cases e)
  rcases i1 with e | e
  · cases e
  · exact ⟨(alL_lt e).1,(alL_lt e).2,fun k h1 h2=>i2 k (.inr (alL_mem h1 h2))⟩
theorem bs_none (h:bs x y a b c e A sn=none):alL a b c e A sn=[]:=(bst_none h).1
end
end
end Go.Proofs.Ytkcahhbhfmdpmaa
