/- Part 12 of the texts below the claim. Conditions: none. -/
import Derived.Test.YtoojllndfjamgaaMg7
import Derived.Test.YtoojllndfjamgaaMg10
import Derived.Test.YtoojllndfjamgaaMg11
import Derived.Test.YtoojllndfjamgaaMg9
import Derived.Test.YtoojllndfjamgaaMg8
set_option linter.unusedVariables false
set_option linter.unusedSimpArgs false
namespace Go.Proofs.Ytoojllndfjamgaa
open Go.Gi Go.RowKit Go.Proofs.Ytoojllndfjamgaa.Old
noncomputable section
set_option maxRecDepth 100000
set_option maxHeartbeats 4000000
structure X26_0 where
  v0:Int
  v1:Array Value
  v2:Nat
  v3:Nat
  v4:Int
  v5:Int
  v6:ByteArray
  v7:Int
  v8:Int
  v9:Array Value
  v10:Nat
  v11:Nat
inductive D26_0 where
  | k0 (d0:Int) (d1:Array Value) (d2:Nat) (d3:Nat) (d4:Int) (d5:ByteArray) (d6:Int) (d7:Int) (d8:Array Value) (d9:Nat) (d10:Nat)
def Lp26_0:LoopOf X26_0 D26_0 where
  c:=(theLoop Try.prog 26 0)
  N:=51
  M:=1
  S:=[1,2,3,8,9]
  sl:=fun x=>[(.int .i64 x.v0),(lstV x.v1 x.v2 x.v3 1),(Value.pointer (Option.some (Addr.mk 0 0 Option.none))),(.int .i64 x.v4),(.int .i64 x.v5)]
  hp:=fun x=>[.cells ⟨[(.string x.v6),(.int .i64 x.v7),(.int .i64 x.v8),(lstV x.v9 x.v10 x.v11 4)]⟩ false]
  ex:=fun d=>match d with | .k0 ..=>.exit 0
  pick:=fun e=>match e with | .exit 0=>[1,2,3,8] | _=>[]
  dv:=fun d=>match d with | .k0 d0 d1 d2 d3 d4 d5 d6 d7 d8 d9 d10=>[(.int .i64 d0),(lstV d1 d2 d3 1),(Value.pointer (Option.some (Addr.mk 0 0 Option.none))),(.int .i64 d4)]
  dh:=fun d=>match d with | .k0 d0 d1 d2 d3 d4 d5 d6 d7 d8 d9 d10=>[.cells ⟨[(.string d5),(.int .i64 d6),(.int .i64 d7),(lstV d8 d9 d10 4)]⟩ false]
theorem ok26_0:Lp26_0.Ok:=⟨fun x=>rfl,fun x=>rfl,fun x=>rfl,fun x=>rfl,fun d=>by cases d<;>rfl,fun d=>by cases d<;>rfl,fun d=>by cases d<;>rfl,fun d=>by cases d<;>(intro h;cases h),fun d=>by cases d<;>rfl,fun d=>by cases d<;>rfl⟩
def rd26_0 (x:X26_0):RT (Sum X26_0 D26_0):=match x with
  | ⟨v0,v1,v2,v3,v4,v5,v6,v7,v8,v9,v10,v11⟩ =>
     .br (decide (v5<(Int.ofNat v3))) (.br (decide (v4=(0:Int))) (.br (and (decide ((0:Int)≤v5)) (decide (v5<(Int.ofNat v3)))) (.br (isInt .i64 v1 (v2+((Int.toNat v5)*1))) (.br (F62_ok (getInt v1 (v2+((Int.toNat v5)*1)))) (.br (not (F62_0 (getInt v1 (v2+((Int.toNat v5)*1))))) (.leaf (.inl ⟨v0,v1,v2,v3,(7:Int),(IntKind.wrap .i64 (v5+(1:Int))),v6,v7,v8,v9,v10,v11⟩)) (.leaf (.inl ⟨v0,v1,v2,v3,v4,(IntKind.wrap .i64 (v5+(1:Int))),v6,v7,v8,v9,v10,v11⟩))) (.no)) (.no)) (.no)) (.leaf (.inr (.k0 (v0) (v1) (v2) (v3) (v4) (v6) (v7) (v8) (v9) (v10) (v11))))) (.leaf (.inr (.k0 (v0) (v1) (v2) (v3) (v4) (v6) (v7) (v8) (v9) (v10) (v11))))
theorem T26_0  (y:List Value) (v0:Int) (v1:Array Value) (v2:Nat) (v3:Nat) (v4:Int) (v5:Int) (v6:ByteArray) (v7:Int) (v8:Int) (v9:Array Value) (v10:Nat) (v11:Nat):evC Try.prog (Ans.c (p52.or (p61.or (p62.or p66)))) 60 (.code none (theLoop Try.prog 26 0) ⟨sets (junkF 51 y) [(1,(.int .i64 v0)),(2,(lstV v1 v2 v3 1)),(3,(Value.pointer (Option.some (Addr.mk 0 0 Option.none)))),(8,(.int .i64 v4)),(9,(.int .i64 v5))],[],⟨[.cells ⟨[(.string v6),(.int .i64 v7),(.int .i64 v8),(lstV v9 v10 v11 4)]⟩ false],0,[]⟩⟩) (sumK 1 51 Lp26_0.pk)=(rd26_0 ⟨v0,v1,v2,v3,v4,v5,v6,v7,v8,v9,v10,v11⟩).out Lp26_0.enc:=by kernel_rfl
def L26_0 (x:X26_0):Option D26_0:=loopR rd26_0 x
section
variable (x:X26_0)
def L26_0_k0:Bool:=match L26_0 x with | some (.k0 ..)=>true | _=>false
def Qt0:Int:=match L26_0 x with | some (.k0 d _ _ _ _ _ _ _ _ _ _)=>d | _=>0
def Qt1:Array Value:=match L26_0 x with | some (.k0 _ d _ _ _ _ _ _ _ _ _)=>d | _=>#[]
def Qt2:Nat:=match L26_0 x with | some (.k0 _ _ d _ _ _ _ _ _ _ _)=>d | _=>0
def Qt3:Nat:=match L26_0 x with | some (.k0 _ _ _ d _ _ _ _ _ _ _)=>d | _=>0
def Qt4:Int:=match L26_0 x with | some (.k0 _ _ _ _ d _ _ _ _ _ _)=>d | _=>0
def Qt5:ByteArray:=match L26_0 x with | some (.k0 _ _ _ _ _ d _ _ _ _ _)=>d | _=>ByteArray.empty
def Qt6:Int:=match L26_0 x with | some (.k0 _ _ _ _ _ _ d _ _ _ _)=>d | _=>0
def Qt7:Int:=match L26_0 x with | some (.k0 _ _ _ _ _ _ _ d _ _ _)=>d | _=>0
def Qt8:Array Value:=match L26_0 x with | some (.k0 _ _ _ _ _ _ _ _ d _ _)=>d | _=>#[]
def Qt9:Nat:=match L26_0 x with | some (.k0 _ _ _ _ _ _ _ _ _ d _)=>d | _=>0
def Qt10:Nat:=match L26_0 x with | some (.k0 _ _ _ _ _ _ _ _ _ _ d)=>d | _=>0
end
def dec26_0:Task→Option (Code×X26_0)
  | .code none (.loop code) ⟨t,[],⟨[.cells ⟨[(.string v6),(.int .i64 v7),(.int .i64 v8),(.func (.via 0 ⟨[]⟩ 0 true) v9 ⟨[.slice (some ⟨0,v10,none⟩) v11 4]⟩)]⟩ false],0,[]⟩⟩ =>
    (match Nat.beq (firstReg code) 7,lenIs t 51,lget t 1,lget t 2,lget t 3,lget t 8,lget t 9 with
    | true,true,(.int .i64 v0),(.func (.via 0 ⟨[]⟩ 0 true) v1 ⟨[.slice (some ⟨0,v2,none⟩) v3 1]⟩),(Value.pointer (Option.some (Addr.mk 0 0 Option.none))),(.int .i64 v4),(.int .i64 v5)=>some (code,⟨v0,v1,v2,v3,v4,v5,v6,v7,v8,v9,v10,v11⟩)
    | _,_,_,_,_,_,_=>none)
  | _=>none
def alt26_0 (x:X26_0)(j:List Value):AT:=.br (L26_0_k0 x) (loopEnd 51 (.exit 0) [(1,(.int .i64 (Qt0 x))),(2,(lstV (Qt1 x) (Qt2 x) (Qt3 x) 1)),(3,(Value.pointer (Option.some (Addr.mk 0 0 Option.none)))),(8,(.int .i64 (Qt4 x)))] ⟨[.cells ⟨[(.string (Qt5 x)),(.int .i64 (Qt6 x)),(.int .i64 (Qt7 x)),(lstV (Qt8 x) (Qt9 x) (Qt10 x) 4)]⟩ false],0,[]⟩ j) (.no)
def la26_0 (J:Task→List Value):Ans:=loopAns Lp26_0.c dec26_0 alt26_0 J
theorem ha26_0:∀(x:X26_0) (j:List Value)(o:Out),(alt26_0 x j).out=some o→∃d,loopR rd26_0 x=some d∧o=Lp26_0.tail d j:=by
  intro x j o h
  unfold alt26_0 at h
  cases hL:L26_0 x with
  | none=>simp [L26_0_k0,Qt0,Qt1,Qt2,Qt3,Qt4,Qt5,Qt6,Qt7,Qt8,Qt9,Qt10,hL,AT.out]at h
  | some d =>
    refine ⟨d,hL,?_⟩
    cases d<;>(simp only [L26_0_k0,Qt0,Qt1,Qt2,Qt3,Qt4,Qt5,Qt6,Qt7,Qt8,Qt9,Qt10,hL,AT.out,loopEnd,cond_true,cond_false,Option.some.injEq]at h;rw [← h];rfl)
theorem hd26_0:∀(t:Task) (c:Code)(x:X26_0),dec26_0 t=some (c,x)→c=Lp26_0.c→∃T,t=.code none (.loop Lp26_0.c) ⟨T,[],⟨Lp26_0.hp x,0,[]⟩⟩∧T.length=Lp26_0.N∧∀kv∈Lp26_0.S.zip (Lp26_0.sl x),lget T kv.1=kv.2:=by
  intro t c x h hc
  unfold dec26_0 at h
  split at h
  case h_2=>cases h
  split at h
  case h_2=>cases h
  simp only [Option.some.injEq,Prod.mk.injEq]at h
  obtain ⟨rfl,rfl⟩:=h
  subst hc
  refine ⟨_,rfl,lenIs_eq _ _ (by assumption),?_⟩
  intro kv hk
  simp only [Lp26_0,List.zip_cons_cons,List.zip_nil_right,List.mem_cons,List.not_mem_nil,or_false]at hk
  rcases hk with rfl | rfl | rfl | rfl | rfl<;>assumption
theorem kl26_0:∃J,Known Try.prog (la26_0 J):=by
  exact LoopOf.known noNG mixed ok26_0 (by decide) (by decide) (Known.or known52 (Known.or known61 (Known.or known62 known66))) (n:=60) (rd:=rd26_0) (fun x j=>T26_0  j x.v0 x.v1 x.v2 x.v3 x.v4 x.v5 x.v6 x.v7 x.v8 x.v9 x.v10 x.v11) dec26_0 alt26_0 hd26_0 ha26_0
structure R26 where
  r0:Array Value
  r1:Nat
  r2:Nat
  r3:Int
structure A26 where
  a0:ByteArray
  a1:Int
  a2:Int
  a3:Array Value
  a4:Nat
  a5:Nat
  a6:Int
  a7:Array Value
  a8:Nat
  a9:Nat
def rt26 (a0:ByteArray)(a1:Int)(a2:Int)(a3:Array Value)(a4:Nat)(a5:Nat)(a6:Int)(a7:Array Value)(a8:Nat)(a9:Nat):RT R26 :=
  .br (F52_ok a0 a1 a2 (a3) a4 a5) (.br (decide ((F52_0 a0 a1 a2 (a3) a4 a5)=(0:Int))) (.br (F61_ok a6) (.br (not (F61_0 a6))
     (.sw (eqCode (Lp26_0.c) (Lp26_0.c)) true (by simp only [eqCode_self,arrEq_self]) (.br (L26_0_k0 (X26_0.mk a6 a7 a8 a9 (7:Int) (0:Int) a0 a1 a2 a3 a4 a5)) (.br (not (decide ((Qt4 (X26_0.mk a6 a7 a8 a9 (7:Int) (0:Int) a0 a1 a2 a3 a4 a5))=(0:Int)))) (.leaf ⟨⟨[]⟩,0,0,(Qt4 (X26_0.mk a6 a7 a8 a9 (7:Int) (0:Int) a0 a1 a2 a3 a4 a5))⟩)
     (.br (F66_ok (Qt5 (X26_0.mk a6 a7 a8 a9 (7:Int) (0:Int) a0 a1 a2 a3 a4 a5)) (Qt6 (X26_0.mk a6 a7 a8 a9 (7:Int) (0:Int) a0 a1 a2 a3 a4 a5)) (Qt7 (X26_0.mk a6 a7 a8 a9 (7:Int) (0:Int) a0 a1 a2 a3 a4 a5)) (Qt8 (X26_0.mk a6 a7 a8 a9 (7:Int) (0:Int) a0 a1 a2 a3 a4 a5)) (Qt9 (X26_0.mk a6 a7 a8 a9 (7:Int) (0:Int) a0 a1 a2 a3 a4 a5)) (Qt10 (X26_0.mk a6 a7 a8 a9 (7:Int) (0:Int) a0 a1 a2 a3 a4 a5)) (Qt0 (X26_0.mk a6 a7 a8 a9 (7:Int) (0:Int) a0 a1 a2 a3 a4 a5)) (Qt1 (X26_0.mk a6 a7 a8 a9 (7:Int) (0:Int) a0 a1 a2 a3 a4 a5)) (Qt2 (X26_0.mk a6 a7 a8 a9 (7:Int) (0:Int) a0 a1 a2 a3 a4 a5)) (Qt3 (X26_0.mk a6 a7 a8 a9 (7:Int) (0:Int) a0 a1 a2 a3 a4 a5))) (.leaf ⟨(F66_0 (Qt5 (X26_0.mk a6 a7 a8 a9 (7:Int) (0:Int) a0 a1 a2 a3 a4 a5)) (Qt6 (X26_0.mk a6 a7 a8 a9 (7:Int) (0:Int) a0 a1 a2 a3 a4 a5)) (Qt7 (X26_0.mk a6 a7 a8 a9 (7:Int) (0:Int) a0 a1 a2 a3 a4 a5)) (Qt8 (X26_0.mk a6 a7 a8 a9 (7:Int) (0:Int) a0 a1 a2 a3 a4 a5)) (Qt9 (X26_0.mk a6 a7 a8 a9 (7:Int) (0:Int) a0 a1 a2 a3 a4 a5)) (Qt10 (X26_0.mk a6 a7 a8 a9 (7:Int) (0:Int) a0 a1 a2 a3 a4 a5)) (Qt0 (X26_0.mk a6 a7 a8 a9 (7:Int) (0:Int) a0 a1 a2 a3 a4 a5)) (Qt1 (X26_0.mk a6 a7 a8 a9 (7:Int) (0:Int) a0 a1 a2 a3 a4 a5)) (Qt2 (X26_0.mk a6 a7 a8 a9 (7:Int) (0:Int) a0 a1 a2 a3 a4 a5)) (Qt3 (X26_0.mk a6 a7 a8 a9 (7:Int) (0:Int) a0 a1 a2 a3 a4 a5))),(F66_1 (Qt5 (X26_0.mk a6 a7 a8 a9 (7:Int) (0:Int) a0 a1 a2 a3 a4 a5)) (Qt6 (X26_0.mk a6 a7 a8 a9 (7:Int) (0:Int) a0 a1 a2 a3 a4 a5)) (Qt7 (X26_0.mk a6 a7 a8 a9 (7:Int) (0:Int) a0 a1 a2 a3 a4 a5)) (Qt8 (X26_0.mk a6 a7 a8 a9 (7:Int) (0:Int) a0 a1 a2 a3 a4 a5)) (Qt9 (X26_0.mk a6 a7 a8 a9 (7:Int) (0:Int) a0 a1 a2 a3 a4 a5)) (Qt10 (X26_0.mk a6 a7 a8 a9 (7:Int) (0:Int) a0 a1 a2 a3 a4 a5)) (Qt0 (X26_0.mk a6 a7 a8 a9 (7:Int) (0:Int) a0 a1 a2 a3 a4 a5)) (Qt1 (X26_0.mk a6 a7 a8 a9 (7:Int) (0:Int) a0 a1 a2 a3 a4 a5)) (Qt2 (X26_0.mk a6 a7 a8 a9 (7:Int) (0:Int) a0 a1 a2 a3 a4 a5)) (Qt3 (X26_0.mk a6 a7 a8 a9 (7:Int) (0:Int) a0 a1 a2 a3 a4 a5))),(F66_2 (Qt5 (X26_0.mk a6 a7 a8 a9 (7:Int) (0:Int) a0 a1 a2 a3 a4 a5)) (Qt6 (X26_0.mk a6 a7 a8 a9 (7:Int) (0:Int) a0 a1 a2 a3 a4 a5)) (Qt7 (X26_0.mk a6 a7 a8 a9 (7:Int) (0:Int) a0 a1 a2 a3 a4 a5)) (Qt8 (X26_0.mk a6 a7 a8 a9 (7:Int) (0:Int) a0 a1 a2 a3 a4 a5)) (Qt9 (X26_0.mk a6 a7 a8 a9 (7:Int) (0:Int) a0 a1 a2 a3 a4 a5)) (Qt10 (X26_0.mk a6 a7 a8 a9 (7:Int) (0:Int) a0 a1 a2 a3 a4 a5)) (Qt0 (X26_0.mk a6 a7 a8 a9 (7:Int) (0:Int) a0 a1 a2 a3 a4 a5)) (Qt1 (X26_0.mk a6 a7 a8 a9 (7:Int) (0:Int) a0 a1 a2 a3 a4 a5)) (Qt2 (X26_0.mk a6 a7 a8 a9 (7:Int) (0:Int) a0 a1 a2 a3 a4 a5)) (Qt3 (X26_0.mk a6 a7 a8 a9 (7:Int) (0:Int) a0 a1 a2 a3 a4 a5))),(0:Int)⟩) (.no))) (.no)) (.no))
     (.br (decide ((F52_0 a0 a1 a2 (a3) a4 a5)=(0:Int))) (.br (not (decide ((Int.ofNat a9)=a1)))
       (.sw (eqCode (Lp26_0.c) (Lp26_0.c)) true (by simp only [eqCode_self,arrEq_self]) (.br (L26_0_k0 (X26_0.mk a6 a7 a8 a9 (2:Int) (0:Int) a0 a1 a2 a3 a4 a5)) (.br (not (decide ((Qt4 (X26_0.mk a6 a7 a8 a9 (2:Int) (0:Int) a0 a1 a2 a3 a4 a5))=(0:Int)))) (.leaf ⟨⟨[]⟩,0,0,(Qt4 (X26_0.mk a6 a7 a8 a9 (2:Int) (0:Int) a0 a1 a2 a3 a4 a5))⟩)
     (.br (F66_ok (Qt5 (X26_0.mk a6 a7 a8 a9 (2:Int) (0:Int) a0 a1 a2 a3 a4 a5)) (Qt6 (X26_0.mk a6 a7 a8 a9 (2:Int) (0:Int) a0 a1 a2 a3 a4 a5)) (Qt7 (X26_0.mk a6 a7 a8 a9 (2:Int) (0:Int) a0 a1 a2 a3 a4 a5)) (Qt8 (X26_0.mk a6 a7 a8 a9 (2:Int) (0:Int) a0 a1 a2 a3 a4 a5)) (Qt9 (X26_0.mk a6 a7 a8 a9 (2:Int) (0:Int) a0 a1 a2 a3 a4 a5)) (Qt10 (X26_0.mk a6 a7 a8 a9 (2:Int) (0:Int) a0 a1 a2 a3 a4 a5)) (Qt0 (X26_0.mk a6 a7 a8 a9 (2:Int) (0:Int) a0 a1 a2 a3 a4 a5)) (Qt1 (X26_0.mk a6 a7 a8 a9 (2:Int) (0:Int) a0 a1 a2 a3 a4 a5)) (Qt2 (X26_0.mk a6 a7 a8 a9 (2:Int) (0:Int) a0 a1 a2 a3 a4 a5)) (Qt3 (X26_0.mk a6 a7 a8 a9 (2:Int) (0:Int) a0 a1 a2 a3 a4 a5))) (.leaf ⟨(F66_0 (Qt5 (X26_0.mk a6 a7 a8 a9 (2:Int) (0:Int) a0 a1 a2 a3 a4 a5)) (Qt6 (X26_0.mk a6 a7 a8 a9 (2:Int) (0:Int) a0 a1 a2 a3 a4 a5)) (Qt7 (X26_0.mk a6 a7 a8 a9 (2:Int) (0:Int) a0 a1 a2 a3 a4 a5)) (Qt8 (X26_0.mk a6 a7 a8 a9 (2:Int) (0:Int) a0 a1 a2 a3 a4 a5)) (Qt9 (X26_0.mk a6 a7 a8 a9 (2:Int) (0:Int) a0 a1 a2 a3 a4 a5)) (Qt10 (X26_0.mk a6 a7 a8 a9 (2:Int) (0:Int) a0 a1 a2 a3 a4 a5)) (Qt0 (X26_0.mk a6 a7 a8 a9 (2:Int) (0:Int) a0 a1 a2 a3 a4 a5)) (Qt1 (X26_0.mk a6 a7 a8 a9 (2:Int) (0:Int) a0 a1 a2 a3 a4 a5)) (Qt2 (X26_0.mk a6 a7 a8 a9 (2:Int) (0:Int) a0 a1 a2 a3 a4 a5)) (Qt3 (X26_0.mk a6 a7 a8 a9 (2:Int) (0:Int) a0 a1 a2 a3 a4 a5))),(F66_1 (Qt5 (X26_0.mk a6 a7 a8 a9 (2:Int) (0:Int) a0 a1 a2 a3 a4 a5)) (Qt6 (X26_0.mk a6 a7 a8 a9 (2:Int) (0:Int) a0 a1 a2 a3 a4 a5)) (Qt7 (X26_0.mk a6 a7 a8 a9 (2:Int) (0:Int) a0 a1 a2 a3 a4 a5)) (Qt8 (X26_0.mk a6 a7 a8 a9 (2:Int) (0:Int) a0 a1 a2 a3 a4 a5)) (Qt9 (X26_0.mk a6 a7 a8 a9 (2:Int) (0:Int) a0 a1 a2 a3 a4 a5)) (Qt10 (X26_0.mk a6 a7 a8 a9 (2:Int) (0:Int) a0 a1 a2 a3 a4 a5)) (Qt0 (X26_0.mk a6 a7 a8 a9 (2:Int) (0:Int) a0 a1 a2 a3 a4 a5)) (Qt1 (X26_0.mk a6 a7 a8 a9 (2:Int) (0:Int) a0 a1 a2 a3 a4 a5)) (Qt2 (X26_0.mk a6 a7 a8 a9 (2:Int) (0:Int) a0 a1 a2 a3 a4 a5)) (Qt3 (X26_0.mk a6 a7 a8 a9 (2:Int) (0:Int) a0 a1 a2 a3 a4 a5))),(F66_2 (Qt5 (X26_0.mk a6 a7 a8 a9 (2:Int) (0:Int) a0 a1 a2 a3 a4 a5)) (Qt6 (X26_0.mk a6 a7 a8 a9 (2:Int) (0:Int) a0 a1 a2 a3 a4 a5)) (Qt7 (X26_0.mk a6 a7 a8 a9 (2:Int) (0:Int) a0 a1 a2 a3 a4 a5)) (Qt8 (X26_0.mk a6 a7 a8 a9 (2:Int) (0:Int) a0 a1 a2 a3 a4 a5)) (Qt9 (X26_0.mk a6 a7 a8 a9 (2:Int) (0:Int) a0 a1 a2 a3 a4 a5)) (Qt10 (X26_0.mk a6 a7 a8 a9 (2:Int) (0:Int) a0 a1 a2 a3 a4 a5)) (Qt0 (X26_0.mk a6 a7 a8 a9 (2:Int) (0:Int) a0 a1 a2 a3 a4 a5)) (Qt1 (X26_0.mk a6 a7 a8 a9 (2:Int) (0:Int) a0 a1 a2 a3 a4 a5)) (Qt2 (X26_0.mk a6 a7 a8 a9 (2:Int) (0:Int) a0 a1 a2 a3 a4 a5)) (Qt3 (X26_0.mk a6 a7 a8 a9 (2:Int) (0:Int) a0 a1 a2 a3 a4 a5))),(0:Int)⟩) (.no))) (.no)) (.no))
       (.sw (eqCode (Lp26_0.c) (Lp26_0.c)) true (by simp only [eqCode_self,arrEq_self]) (.br (L26_0_k0 (X26_0.mk a6 a7 a8 a9 (F52_0 a0 a1 a2 (a3) a4 a5) (0:Int) a0 a1 a2 a3 a4 a5)) (.br (not (decide ((Qt4 (X26_0.mk a6 a7 a8 a9 (F52_0 a0 a1 a2 (a3) a4 a5) (0:Int) a0 a1 a2 a3 a4 a5))=(0:Int)))) (.leaf ⟨⟨[]⟩,0,0,(Qt4 (X26_0.mk a6 a7 a8 a9 (F52_0 a0 a1 a2 (a3) a4 a5) (0:Int) a0 a1 a2 a3 a4 a5))⟩)
     (.br (F66_ok (Qt5 (X26_0.mk a6 a7 a8 a9 (F52_0 a0 a1 a2 (a3) a4 a5) (0:Int) a0 a1 a2 a3 a4 a5)) (Qt6 (X26_0.mk a6 a7 a8 a9 (F52_0 a0 a1 a2 (a3) a4 a5) (0:Int) a0 a1 a2 a3 a4 a5)) (Qt7 (X26_0.mk a6 a7 a8 a9 (F52_0 a0 a1 a2 (a3) a4 a5) (0:Int) a0 a1 a2 a3 a4 a5)) (Qt8 (X26_0.mk a6 a7 a8 a9 (F52_0 a0 a1 a2 (a3) a4 a5) (0:Int) a0 a1 a2 a3 a4 a5)) (Qt9 (X26_0.mk a6 a7 a8 a9 (F52_0 a0 a1 a2 (a3) a4 a5) (0:Int) a0 a1 a2 a3 a4 a5)) (Qt10 (X26_0.mk a6 a7 a8 a9 (F52_0 a0 a1 a2 (a3) a4 a5) (0:Int) a0 a1 a2 a3 a4 a5)) (Qt0 (X26_0.mk a6 a7 a8 a9 (F52_0 a0 a1 a2 (a3) a4 a5) (0:Int) a0 a1 a2 a3 a4 a5)) (Qt1 (X26_0.mk a6 a7 a8 a9 (F52_0 a0 a1 a2 (a3) a4 a5) (0:Int) a0 a1 a2 a3 a4 a5)) (Qt2 (X26_0.mk a6 a7 a8 a9 (F52_0 a0 a1 a2 (a3) a4 a5) (0:Int) a0 a1 a2 a3 a4 a5)) (Qt3 (X26_0.mk a6 a7 a8 a9 (F52_0 a0 a1 a2 (a3) a4 a5) (0:Int) a0 a1 a2 a3 a4 a5))) (.leaf ⟨(F66_0 (Qt5 (X26_0.mk a6 a7 a8 a9 (F52_0 a0 a1 a2 (a3) a4 a5) (0:Int) a0 a1 a2 a3 a4 a5)) (Qt6 (X26_0.mk a6 a7 a8 a9 (F52_0 a0 a1 a2 (a3) a4 a5) (0:Int) a0 a1 a2 a3 a4 a5)) (Qt7 (X26_0.mk a6 a7 a8 a9 (F52_0 a0 a1 a2 (a3) a4 a5) (0:Int) a0 a1 a2 a3 a4 a5)) (Qt8 (X26_0.mk a6 a7 a8 a9 (F52_0 a0 a1 a2 (a3) a4 a5) (0:Int) a0 a1 a2 a3 a4 a5)) (Qt9 (X26_0.mk a6 a7 a8 a9 (F52_0 a0 a1 a2 (a3) a4 a5) (0:Int) a0 a1 a2 a3 a4 a5)) (Qt10 (X26_0.mk a6 a7 a8 a9 (F52_0 a0 a1 a2 (a3) a4 a5) (0:Int) a0 a1 a2 a3 a4 a5)) (Qt0 (X26_0.mk a6 a7 a8 a9 (F52_0 a0 a1 a2 (a3) a4 a5) (0:Int) a0 a1 a2 a3 a4 a5)) (Qt1 (X26_0.mk a6 a7 a8 a9 (F52_0 a0 a1 a2 (a3) a4 a5) (0:Int) a0 a1 a2 a3 a4 a5)) (Qt2 (X26_0.mk a6 a7 a8 a9 (F52_0 a0 a1 a2 (a3) a4 a5) (0:Int) a0 a1 a2 a3 a4 a5)) (Qt3 (X26_0.mk a6 a7 a8 a9 (F52_0 a0 a1 a2 (a3) a4 a5) (0:Int) a0 a1 a2 a3 a4 a5))),(F66_1 (Qt5 (X26_0.mk a6 a7 a8 a9 (F52_0 a0 a1 a2 (a3) a4 a5) (0:Int) a0 a1 a2 a3 a4 a5)) (Qt6 (X26_0.mk a6 a7 a8 a9 (F52_0 a0 a1 a2 (a3) a4 a5) (0:Int) a0 a1 a2 a3 a4 a5)) (Qt7 (X26_0.mk a6 a7 a8 a9 (F52_0 a0 a1 a2 (a3) a4 a5) (0:Int) a0 a1 a2 a3 a4 a5)) (Qt8 (X26_0.mk a6 a7 a8 a9 (F52_0 a0 a1 a2 (a3) a4 a5) (0:Int) a0 a1 a2 a3 a4 a5)) (Qt9 (X26_0.mk a6 a7 a8 a9 (F52_0 a0 a1 a2 (a3) a4 a5) (0:Int) a0 a1 a2 a3 a4 a5)) (Qt10 (X26_0.mk a6 a7 a8 a9 (F52_0 a0 a1 a2 (a3) a4 a5) (0:Int) a0 a1 a2 a3 a4 a5)) (Qt0 (X26_0.mk a6 a7 a8 a9 (F52_0 a0 a1 a2 (a3) a4 a5) (0:Int) a0 a1 a2 a3 a4 a5)) (Qt1 (X26_0.mk a6 a7 a8 a9 (F52_0 a0 a1 a2 (a3) a4 a5) (0:Int) a0 a1 a2 a3 a4 a5)) (Qt2 (X26_0.mk a6 a7 a8 a9 (F52_0 a0 a1 a2 (a3) a4 a5) (0:Int) a0 a1 a2 a3 a4 a5)) (Qt3 (X26_0.mk a6 a7 a8 a9 (F52_0 a0 a1 a2 (a3) a4 a5) (0:Int) a0 a1 a2 a3 a4 a5))),(F66_2 (Qt5 (X26_0.mk a6 a7 a8 a9 (F52_0 a0 a1 a2 (a3) a4 a5) (0:Int) a0 a1 a2 a3 a4 a5)) (Qt6 (X26_0.mk a6 a7 a8 a9 (F52_0 a0 a1 a2 (a3) a4 a5) (0:Int) a0 a1 a2 a3 a4 a5)) (Qt7 (X26_0.mk a6 a7 a8 a9 (F52_0 a0 a1 a2 (a3) a4 a5) (0:Int) a0 a1 a2 a3 a4 a5)) (Qt8 (X26_0.mk a6 a7 a8 a9 (F52_0 a0 a1 a2 (a3) a4 a5) (0:Int) a0 a1 a2 a3 a4 a5)) (Qt9 (X26_0.mk a6 a7 a8 a9 (F52_0 a0 a1 a2 (a3) a4 a5) (0:Int) a0 a1 a2 a3 a4 a5)) (Qt10 (X26_0.mk a6 a7 a8 a9 (F52_0 a0 a1 a2 (a3) a4 a5) (0:Int) a0 a1 a2 a3 a4 a5)) (Qt0 (X26_0.mk a6 a7 a8 a9 (F52_0 a0 a1 a2 (a3) a4 a5) (0:Int) a0 a1 a2 a3 a4 a5)) (Qt1 (X26_0.mk a6 a7 a8 a9 (F52_0 a0 a1 a2 (a3) a4 a5) (0:Int) a0 a1 a2 a3 a4 a5)) (Qt2 (X26_0.mk a6 a7 a8 a9 (F52_0 a0 a1 a2 (a3) a4 a5) (0:Int) a0 a1 a2 a3 a4 a5)) (Qt3 (X26_0.mk a6 a7 a8 a9 (F52_0 a0 a1 a2 (a3) a4 a5) (0:Int) a0 a1 a2 a3 a4 a5))),(0:Int)⟩) (.no))) (.no)) (.no)))
      (.sw (eqCode (Lp26_0.c) (Lp26_0.c)) true (by simp only [eqCode_self,arrEq_self]) (.br (L26_0_k0 (X26_0.mk a6 a7 a8 a9 (F52_0 a0 a1 a2 (a3) a4 a5) (0:Int) a0 a1 a2 a3 a4 a5)) (.br (not (decide ((Qt4 (X26_0.mk a6 a7 a8 a9 (F52_0 a0 a1 a2 (a3) a4 a5) (0:Int) a0 a1 a2 a3 a4 a5))=(0:Int)))) (.leaf ⟨⟨[]⟩,0,0,(Qt4 (X26_0.mk a6 a7 a8 a9 (F52_0 a0 a1 a2 (a3) a4 a5) (0:Int) a0 a1 a2 a3 a4 a5))⟩)
     (.br (F66_ok (Qt5 (X26_0.mk a6 a7 a8 a9 (F52_0 a0 a1 a2 (a3) a4 a5) (0:Int) a0 a1 a2 a3 a4 a5)) (Qt6 (X26_0.mk a6 a7 a8 a9 (F52_0 a0 a1 a2 (a3) a4 a5) (0:Int) a0 a1 a2 a3 a4 a5)) (Qt7 (X26_0.mk a6 a7 a8 a9 (F52_0 a0 a1 a2 (a3) a4 a5) (0:Int) a0 a1 a2 a3 a4 a5)) (Qt8 (X26_0.mk a6 a7 a8 a9 (F52_0 a0 a1 a2 (a3) a4 a5) (0:Int) a0 a1 a2 a3 a4 a5)) (Qt9 (X26_0.mk a6 a7 a8 a9 (F52_0 a0 a1 a2 (a3) a4 a5) (0:Int) a0 a1 a2 a3 a4 a5)) (Qt10 (X26_0.mk a6 a7 a8 a9 (F52_0 a0 a1 a2 (a3) a4 a5) (0:Int) a0 a1 a2 a3 a4 a5)) (Qt0 (X26_0.mk a6 a7 a8 a9 (F52_0 a0 a1 a2 (a3) a4 a5) (0:Int) a0 a1 a2 a3 a4 a5)) (Qt1 (X26_0.mk a6 a7 a8 a9 (F52_0 a0 a1 a2 (a3) a4 a5) (0:Int) a0 a1 a2 a3 a4 a5)) (Qt2 (X26_0.mk a6 a7 a8 a9 (F52_0 a0 a1 a2 (a3) a4 a5) (0:Int) a0 a1 a2 a3 a4 a5)) (Qt3 (X26_0.mk a6 a7 a8 a9 (F52_0 a0 a1 a2 (a3) a4 a5) (0:Int) a0 a1 a2 a3 a4 a5))) (.leaf ⟨(F66_0 (Qt5 (X26_0.mk a6 a7 a8 a9 (F52_0 a0 a1 a2 (a3) a4 a5) (0:Int) a0 a1 a2 a3 a4 a5)) (Qt6 (X26_0.mk a6 a7 a8 a9 (F52_0 a0 a1 a2 (a3) a4 a5) (0:Int) a0 a1 a2 a3 a4 a5)) (Qt7 (X26_0.mk a6 a7 a8 a9 (F52_0 a0 a1 a2 (a3) a4 a5) (0:Int) a0 a1 a2 a3 a4 a5)) (Qt8 (X26_0.mk a6 a7 a8 a9 (F52_0 a0 a1 a2 (a3) a4 a5) (0:Int) a0 a1 a2 a3 a4 a5)) (Qt9 (X26_0.mk a6 a7 a8 a9 (F52_0 a0 a1 a2 (a3) a4 a5) (0:Int) a0 a1 a2 a3 a4 a5)) (Qt10 (X26_0.mk a6 a7 a8 a9 (F52_0 a0 a1 a2 (a3) a4 a5) (0:Int) a0 a1 a2 a3 a4 a5)) (Qt0 (X26_0.mk a6 a7 a8 a9 (F52_0 a0 a1 a2 (a3) a4 a5) (0:Int) a0 a1 a2 a3 a4 a5)) (Qt1 (X26_0.mk a6 a7 a8 a9 (F52_0 a0 a1 a2 (a3) a4 a5) (0:Int) a0 a1 a2 a3 a4 a5)) (Qt2 (X26_0.mk a6 a7 a8 a9 (F52_0 a0 a1 a2 (a3) a4 a5) (0:Int) a0 a1 a2 a3 a4 a5)) (Qt3 (X26_0.mk a6 a7 a8 a9 (F52_0 a0 a1 a2 (a3) a4 a5) (0:Int) a0 a1 a2 a3 a4 a5))),(F66_1 (Qt5 (X26_0.mk a6 a7 a8 a9 (F52_0 a0 a1 a2 (a3) a4 a5) (0:Int) a0 a1 a2 a3 a4 a5)) (Qt6 (X26_0.mk a6 a7 a8 a9 (F52_0 a0 a1 a2 (a3) a4 a5) (0:Int) a0 a1 a2 a3 a4 a5)) (Qt7 (X26_0.mk a6 a7 a8 a9 (F52_0 a0 a1 a2 (a3) a4 a5) (0:Int) a0 a1 a2 a3 a4 a5)) (Qt8 (X26_0.mk a6 a7 a8 a9 (F52_0 a0 a1 a2 (a3) a4 a5) (0:Int) a0 a1 a2 a3 a4 a5)) (Qt9 (X26_0.mk a6 a7 a8 a9 (F52_0 a0 a1 a2 (a3) a4 a5) (0:Int) a0 a1 a2 a3 a4 a5)) (Qt10 (X26_0.mk a6 a7 a8 a9 (F52_0 a0 a1 a2 (a3) a4 a5) (0:Int) a0 a1 a2 a3 a4 a5)) (Qt0 (X26_0.mk a6 a7 a8 a9 (F52_0 a0 a1 a2 (a3) a4 a5) (0:Int) a0 a1 a2 a3 a4 a5)) (Qt1 (X26_0.mk a6 a7 a8 a9 (F52_0 a0 a1 a2 (a3) a4 a5) (0:Int) a0 a1 a2 a3 a4 a5)) (Qt2 (X26_0.mk a6 a7 a8 a9 (F52_0 a0 a1 a2 (a3) a4 a5) (0:Int) a0 a1 a2 a3 a4 a5)) (Qt3 (X26_0.mk a6 a7 a8 a9 (F52_0 a0 a1 a2 (a3) a4 a5) (0:Int) a0 a1 a2 a3 a4 a5))),(F66_2 (Qt5 (X26_0.mk a6 a7 a8 a9 (F52_0 a0 a1 a2 (a3) a4 a5) (0:Int) a0 a1 a2 a3 a4 a5)) (Qt6 (X26_0.mk a6 a7 a8 a9 (F52_0 a0 a1 a2 (a3) a4 a5) (0:Int) a0 a1 a2 a3 a4 a5)) (Qt7 (X26_0.mk a6 a7 a8 a9 (F52_0 a0 a1 a2 (a3) a4 a5) (0:Int) a0 a1 a2 a3 a4 a5)) (Qt8 (X26_0.mk a6 a7 a8 a9 (F52_0 a0 a1 a2 (a3) a4 a5) (0:Int) a0 a1 a2 a3 a4 a5)) (Qt9 (X26_0.mk a6 a7 a8 a9 (F52_0 a0 a1 a2 (a3) a4 a5) (0:Int) a0 a1 a2 a3 a4 a5)) (Qt10 (X26_0.mk a6 a7 a8 a9 (F52_0 a0 a1 a2 (a3) a4 a5) (0:Int) a0 a1 a2 a3 a4 a5)) (Qt0 (X26_0.mk a6 a7 a8 a9 (F52_0 a0 a1 a2 (a3) a4 a5) (0:Int) a0 a1 a2 a3 a4 a5)) (Qt1 (X26_0.mk a6 a7 a8 a9 (F52_0 a0 a1 a2 (a3) a4 a5) (0:Int) a0 a1 a2 a3 a4 a5)) (Qt2 (X26_0.mk a6 a7 a8 a9 (F52_0 a0 a1 a2 (a3) a4 a5) (0:Int) a0 a1 a2 a3 a4 a5)) (Qt3 (X26_0.mk a6 a7 a8 a9 (F52_0 a0 a1 a2 (a3) a4 a5) (0:Int) a0 a1 a2 a3 a4 a5))),(0:Int)⟩) (.no))) (.no)) (.no)))) (.no))
   (.br (decide ((F52_0 a0 a1 a2 (a3) a4 a5)=(0:Int))) (.br (not (decide ((Int.ofNat a9)=a1)))
     (.sw (eqCode (Lp26_0.c) (Lp26_0.c)) true (by simp only [eqCode_self,arrEq_self]) (.br (L26_0_k0 (X26_0.mk a6 a7 a8 a9 (2:Int) (0:Int) a0 a1 a2 a3 a4 a5)) (.br (not (decide ((Qt4 (X26_0.mk a6 a7 a8 a9 (2:Int) (0:Int) a0 a1 a2 a3 a4 a5))=(0:Int)))) (.leaf ⟨⟨[]⟩,0,0,(Qt4 (X26_0.mk a6 a7 a8 a9 (2:Int) (0:Int) a0 a1 a2 a3 a4 a5))⟩)
     (.br (F66_ok (Qt5 (X26_0.mk a6 a7 a8 a9 (2:Int) (0:Int) a0 a1 a2 a3 a4 a5)) (Qt6 (X26_0.mk a6 a7 a8 a9 (2:Int) (0:Int) a0 a1 a2 a3 a4 a5)) (Qt7 (X26_0.mk a6 a7 a8 a9 (2:Int) (0:Int) a0 a1 a2 a3 a4 a5)) (Qt8 (X26_0.mk a6 a7 a8 a9 (2:Int) (0:Int) a0 a1 a2 a3 a4 a5)) (Qt9 (X26_0.mk a6 a7 a8 a9 (2:Int) (0:Int) a0 a1 a2 a3 a4 a5)) (Qt10 (X26_0.mk a6 a7 a8 a9 (2:Int) (0:Int) a0 a1 a2 a3 a4 a5)) (Qt0 (X26_0.mk a6 a7 a8 a9 (2:Int) (0:Int) a0 a1 a2 a3 a4 a5)) (Qt1 (X26_0.mk a6 a7 a8 a9 (2:Int) (0:Int) a0 a1 a2 a3 a4 a5)) (Qt2 (X26_0.mk a6 a7 a8 a9 (2:Int) (0:Int) a0 a1 a2 a3 a4 a5)) (Qt3 (X26_0.mk a6 a7 a8 a9 (2:Int) (0:Int) a0 a1 a2 a3 a4 a5))) (.leaf ⟨(F66_0 (Qt5 (X26_0.mk a6 a7 a8 a9 (2:Int) (0:Int) a0 a1 a2 a3 a4 a5)) (Qt6 (X26_0.mk a6 a7 a8 a9 (2:Int) (0:Int) a0 a1 a2 a3 a4 a5)) (Qt7 (X26_0.mk a6 a7 a8 a9 (2:Int) (0:Int) a0 a1 a2 a3 a4 a5)) (Qt8 (X26_0.mk a6 a7 a8 a9 (2:Int) (0:Int) a0 a1 a2 a3 a4 a5)) (Qt9 (X26_0.mk a6 a7 a8 a9 (2:Int) (0:Int) a0 a1 a2 a3 a4 a5)) (Qt10 (X26_0.mk a6 a7 a8 a9 (2:Int) (0:Int) a0 a1 a2 a3 a4 a5)) (Qt0 (X26_0.mk a6 a7 a8 a9 (2:Int) (0:Int) a0 a1 a2 a3 a4 a5)) (Qt1 (X26_0.mk a6 a7 a8 a9 (2:Int) (0:Int) a0 a1 a2 a3 a4 a5)) (Qt2 (X26_0.mk a6 a7 a8 a9 (2:Int) (0:Int) a0 a1 a2 a3 a4 a5)) (Qt3 (X26_0.mk a6 a7 a8 a9 (2:Int) (0:Int) a0 a1 a2 a3 a4 a5))),(F66_1 (Qt5 (X26_0.mk a6 a7 a8 a9 (2:Int) (0:Int) a0 a1 a2 a3 a4 a5)) (Qt6 (X26_0.mk a6 a7 a8 a9 (2:Int) (0:Int) a0 a1 a2 a3 a4 a5)) (Qt7 (X26_0.mk a6 a7 a8 a9 (2:Int) (0:Int) a0 a1 a2 a3 a4 a5)) (Qt8 (X26_0.mk a6 a7 a8 a9 (2:Int) (0:Int) a0 a1 a2 a3 a4 a5)) (Qt9 (X26_0.mk a6 a7 a8 a9 (2:Int) (0:Int) a0 a1 a2 a3 a4 a5)) (Qt10 (X26_0.mk a6 a7 a8 a9 (2:Int) (0:Int) a0 a1 a2 a3 a4 a5)) (Qt0 (X26_0.mk a6 a7 a8 a9 (2:Int) (0:Int) a0 a1 a2 a3 a4 a5)) (Qt1 (X26_0.mk a6 a7 a8 a9 (2:Int) (0:Int) a0 a1 a2 a3 a4 a5)) (Qt2 (X26_0.mk a6 a7 a8 a9 (2:Int) (0:Int) a0 a1 a2 a3 a4 a5)) (Qt3 (X26_0.mk a6 a7 a8 a9 (2:Int) (0:Int) a0 a1 a2 a3 a4 a5))),(F66_2 (Qt5 (X26_0.mk a6 a7 a8 a9 (2:Int) (0:Int) a0 a1 a2 a3 a4 a5)) (Qt6 (X26_0.mk a6 a7 a8 a9 (2:Int) (0:Int) a0 a1 a2 a3 a4 a5)) (Qt7 (X26_0.mk a6 a7 a8 a9 (2:Int) (0:Int) a0 a1 a2 a3 a4 a5)) (Qt8 (X26_0.mk a6 a7 a8 a9 (2:Int) (0:Int) a0 a1 a2 a3 a4 a5)) (Qt9 (X26_0.mk a6 a7 a8 a9 (2:Int) (0:Int) a0 a1 a2 a3 a4 a5)) (Qt10 (X26_0.mk a6 a7 a8 a9 (2:Int) (0:Int) a0 a1 a2 a3 a4 a5)) (Qt0 (X26_0.mk a6 a7 a8 a9 (2:Int) (0:Int) a0 a1 a2 a3 a4 a5)) (Qt1 (X26_0.mk a6 a7 a8 a9 (2:Int) (0:Int) a0 a1 a2 a3 a4 a5)) (Qt2 (X26_0.mk a6 a7 a8 a9 (2:Int) (0:Int) a0 a1 a2 a3 a4 a5)) (Qt3 (X26_0.mk a6 a7 a8 a9 (2:Int) (0:Int) a0 a1 a2 a3 a4 a5))),(0:Int)⟩) (.no))) (.no)) (.no))
     (.sw (eqCode (Lp26_0.c) (Lp26_0.c)) true (by simp only [eqCode_self,arrEq_self]) (.br (L26_0_k0 (X26_0.mk a6 a7 a8 a9 (F52_0 a0 a1 a2 (a3) a4 a5) (0:Int) a0 a1 a2 a3 a4 a5)) (.br (not (decide ((Qt4 (X26_0.mk a6 a7 a8 a9 (F52_0 a0 a1 a2 (a3) a4 a5) (0:Int) a0 a1 a2 a3 a4 a5))=(0:Int)))) (.leaf ⟨⟨[]⟩,0,0,(Qt4 (X26_0.mk a6 a7 a8 a9 (F52_0 a0 a1 a2 (a3) a4 a5) (0:Int) a0 a1 a2 a3 a4 a5))⟩)
     (.br (F66_ok (Qt5 (X26_0.mk a6 a7 a8 a9 (F52_0 a0 a1 a2 (a3) a4 a5) (0:Int) a0 a1 a2 a3 a4 a5)) (Qt6 (X26_0.mk a6 a7 a8 a9 (F52_0 a0 a1 a2 (a3) a4 a5) (0:Int) a0 a1 a2 a3 a4 a5)) (Qt7 (X26_0.mk a6 a7 a8 a9 (F52_0 a0 a1 a2 (a3) a4 a5) (0:Int) a0 a1 a2 a3 a4 a5)) (Qt8 (X26_0.mk a6 a7 a8 a9 (F52_0 a0 a1 a2 (a3) a4 a5) (0:Int) a0 a1 a2 a3 a4 a5)) (Qt9 (X26_0.mk a6 a7 a8 a9 (F52_0 a0 a1 a2 (a3) a4 a5) (0:Int) a0 a1 a2 a3 a4 a5)) (Qt10 (X26_0.mk a6 a7 a8 a9 (F52_0 a0 a1 a2 (a3) a4 a5) (0:Int) a0 a1 a2 a3 a4 a5)) (Qt0 (X26_0.mk a6 a7 a8 a9 (F52_0 a0 a1 a2 (a3) a4 a5) (0:Int) a0 a1 a2 a3 a4 a5)) (Qt1 (X26_0.mk a6 a7 a8 a9 (F52_0 a0 a1 a2 (a3) a4 a5) (0:Int) a0 a1 a2 a3 a4 a5)) (Qt2 (X26_0.mk a6 a7 a8 a9 (F52_0 a0 a1 a2 (a3) a4 a5) (0:Int) a0 a1 a2 a3 a4 a5)) (Qt3 (X26_0.mk a6 a7 a8 a9 (F52_0 a0 a1 a2 (a3) a4 a5) (0:Int) a0 a1 a2 a3 a4 a5))) (.leaf ⟨(F66_0 (Qt5 (X26_0.mk a6 a7 a8 a9 (F52_0 a0 a1 a2 (a3) a4 a5) (0:Int) a0 a1 a2 a3 a4 a5)) (Qt6 (X26_0.mk a6 a7 a8 a9 (F52_0 a0 a1 a2 (a3) a4 a5) (0:Int) a0 a1 a2 a3 a4 a5)) (Qt7 (X26_0.mk a6 a7 a8 a9 (F52_0 a0 a1 a2 (a3) a4 a5) (0:Int) a0 a1 a2 a3 a4 a5)) (Qt8 (X26_0.mk a6 a7 a8 a9 (F52_0 a0 a1 a2 (a3) a4 a5) (0:Int) a0 a1 a2 a3 a4 a5)) (Qt9 (X26_0.mk a6 a7 a8 a9 (F52_0 a0 a1 a2 (a3) a4 a5) (0:Int) a0 a1 a2 a3 a4 a5)) (Qt10 (X26_0.mk a6 a7 a8 a9 (F52_0 a0 a1 a2 (a3) a4 a5) (0:Int) a0 a1 a2 a3 a4 a5)) (Qt0 (X26_0.mk a6 a7 a8 a9 (F52_0 a0 a1 a2 (a3) a4 a5) (0:Int) a0 a1 a2 a3 a4 a5)) (Qt1 (X26_0.mk a6 a7 a8 a9 (F52_0 a0 a1 a2 (a3) a4 a5) (0:Int) a0 a1 a2 a3 a4 a5)) (Qt2 (X26_0.mk a6 a7 a8 a9 (F52_0 a0 a1 a2 (a3) a4 a5) (0:Int) a0 a1 a2 a3 a4 a5)) (Qt3 (X26_0.mk a6 a7 a8 a9 (F52_0 a0 a1 a2 (a3) a4 a5) (0:Int) a0 a1 a2 a3 a4 a5))),(F66_1 (Qt5 (X26_0.mk a6 a7 a8 a9 (F52_0 a0 a1 a2 (a3) a4 a5) (0:Int) a0 a1 a2 a3 a4 a5)) (Qt6 (X26_0.mk a6 a7 a8 a9 (F52_0 a0 a1 a2 (a3) a4 a5) (0:Int) a0 a1 a2 a3 a4 a5)) (Qt7 (X26_0.mk a6 a7 a8 a9 (F52_0 a0 a1 a2 (a3) a4 a5) (0:Int) a0 a1 a2 a3 a4 a5)) (Qt8 (X26_0.mk a6 a7 a8 a9 (F52_0 a0 a1 a2 (a3) a4 a5) (0:Int) a0 a1 a2 a3 a4 a5)) (Qt9 (X26_0.mk a6 a7 a8 a9 (F52_0 a0 a1 a2 (a3) a4 a5) (0:Int) a0 a1 a2 a3 a4 a5)) (Qt10 (X26_0.mk a6 a7 a8 a9 (F52_0 a0 a1 a2 (a3) a4 a5) (0:Int) a0 a1 a2 a3 a4 a5)) (Qt0 (X26_0.mk a6 a7 a8 a9 (F52_0 a0 a1 a2 (a3) a4 a5) (0:Int) a0 a1 a2 a3 a4 a5)) (Qt1 (X26_0.mk a6 a7 a8 a9 (F52_0 a0 a1 a2 (a3) a4 a5) (0:Int) a0 a1 a2 a3 a4 a5)) (Qt2 (X26_0.mk a6 a7 a8 a9 (F52_0 a0 a1 a2 (a3) a4 a5) (0:Int) a0 a1 a2 a3 a4 a5)) (Qt3 (X26_0.mk a6 a7 a8 a9 (F52_0 a0 a1 a2 (a3) a4 a5) (0:Int) a0 a1 a2 a3 a4 a5))),(F66_2 (Qt5 (X26_0.mk a6 a7 a8 a9 (F52_0 a0 a1 a2 (a3) a4 a5) (0:Int) a0 a1 a2 a3 a4 a5)) (Qt6 (X26_0.mk a6 a7 a8 a9 (F52_0 a0 a1 a2 (a3) a4 a5) (0:Int) a0 a1 a2 a3 a4 a5)) (Qt7 (X26_0.mk a6 a7 a8 a9 (F52_0 a0 a1 a2 (a3) a4 a5) (0:Int) a0 a1 a2 a3 a4 a5)) (Qt8 (X26_0.mk a6 a7 a8 a9 (F52_0 a0 a1 a2 (a3) a4 a5) (0:Int) a0 a1 a2 a3 a4 a5)) (Qt9 (X26_0.mk a6 a7 a8 a9 (F52_0 a0 a1 a2 (a3) a4 a5) (0:Int) a0 a1 a2 a3 a4 a5)) (Qt10 (X26_0.mk a6 a7 a8 a9 (F52_0 a0 a1 a2 (a3) a4 a5) (0:Int) a0 a1 a2 a3 a4 a5)) (Qt0 (X26_0.mk a6 a7 a8 a9 (F52_0 a0 a1 a2 (a3) a4 a5) (0:Int) a0 a1 a2 a3 a4 a5)) (Qt1 (X26_0.mk a6 a7 a8 a9 (F52_0 a0 a1 a2 (a3) a4 a5) (0:Int) a0 a1 a2 a3 a4 a5)) (Qt2 (X26_0.mk a6 a7 a8 a9 (F52_0 a0 a1 a2 (a3) a4 a5) (0:Int) a0 a1 a2 a3 a4 a5)) (Qt3 (X26_0.mk a6 a7 a8 a9 (F52_0 a0 a1 a2 (a3) a4 a5) (0:Int) a0 a1 a2 a3 a4 a5))),(0:Int)⟩) (.no))) (.no)) (.no)))
    (.sw (eqCode (Lp26_0.c) (Lp26_0.c)) true (by simp only [eqCode_self,arrEq_self]) (.br (L26_0_k0 (X26_0.mk a6 a7 a8 a9 (F52_0 a0 a1 a2 (a3) a4 a5) (0:Int) a0 a1 a2 a3 a4 a5)) (.br (not (decide ((Qt4 (X26_0.mk a6 a7 a8 a9 (F52_0 a0 a1 a2 (a3) a4 a5) (0:Int) a0 a1 a2 a3 a4 a5))=(0:Int)))) (.leaf ⟨⟨[]⟩,0,0,(Qt4 (X26_0.mk a6 a7 a8 a9 (F52_0 a0 a1 a2 (a3) a4 a5) (0:Int) a0 a1 a2 a3 a4 a5))⟩)
     (.br (F66_ok (Qt5 (X26_0.mk a6 a7 a8 a9 (F52_0 a0 a1 a2 (a3) a4 a5) (0:Int) a0 a1 a2 a3 a4 a5)) (Qt6 (X26_0.mk a6 a7 a8 a9 (F52_0 a0 a1 a2 (a3) a4 a5) (0:Int) a0 a1 a2 a3 a4 a5)) (Qt7 (X26_0.mk a6 a7 a8 a9 (F52_0 a0 a1 a2 (a3) a4 a5) (0:Int) a0 a1 a2 a3 a4 a5)) (Qt8 (X26_0.mk a6 a7 a8 a9 (F52_0 a0 a1 a2 (a3) a4 a5) (0:Int) a0 a1 a2 a3 a4 a5)) (Qt9 (X26_0.mk a6 a7 a8 a9 (F52_0 a0 a1 a2 (a3) a4 a5) (0:Int) a0 a1 a2 a3 a4 a5)) (Qt10 (X26_0.mk a6 a7 a8 a9 (F52_0 a0 a1 a2 (a3) a4 a5) (0:Int) a0 a1 a2 a3 a4 a5)) (Qt0 (X26_0.mk a6 a7 a8 a9 (F52_0 a0 a1 a2 (a3) a4 a5) (0:Int) a0 a1 a2 a3 a4 a5)) (Qt1 (X26_0.mk a6 a7 a8 a9 (F52_0 a0 a1 a2 (a3) a4 a5) (0:Int) a0 a1 a2 a3 a4 a5)) (Qt2 (X26_0.mk a6 a7 a8 a9 (F52_0 a0 a1 a2 (a3) a4 a5) (0:Int) a0 a1 a2 a3 a4 a5)) (Qt3 (X26_0.mk a6 a7 a8 a9 (F52_0 a0 a1 a2 (a3) a4 a5) (0:Int) a0 a1 a2 a3 a4 a5))) (.leaf ⟨(F66_0 (Qt5 (X26_0.mk a6 a7 a8 a9 (F52_0 a0 a1 a2 (a3) a4 a5) (0:Int) a0 a1 a2 a3 a4 a5)) (Qt6 (X26_0.mk a6 a7 a8 a9 (F52_0 a0 a1 a2 (a3) a4 a5) (0:Int) a0 a1 a2 a3 a4 a5)) (Qt7 (X26_0.mk a6 a7 a8 a9 (F52_0 a0 a1 a2 (a3) a4 a5) (0:Int) a0 a1 a2 a3 a4 a5)) (Qt8 (X26_0.mk a6 a7 a8 a9 (F52_0 a0 a1 a2 (a3) a4 a5) (0:Int) a0 a1 a2 a3 a4 a5)) (Qt9 (X26_0.mk a6 a7 a8 a9 (F52_0 a0 a1 a2 (a3) a4 a5) (0:Int) a0 a1 a2 a3 a4 a5)) (Qt10 (X26_0.mk a6 a7 a8 a9 (F52_0 a0 a1 a2 (a3) a4 a5) (0:Int) a0 a1 a2 a3 a4 a5)) (Qt0 (X26_0.mk a6 a7 a8 a9 (F52_0 a0 a1 a2 (a3) a4 a5) (0:Int) a0 a1 a2 a3 a4 a5)) (Qt1 (X26_0.mk a6 a7 a8 a9 (F52_0 a0 a1 a2 (a3) a4 a5) (0:Int) a0 a1 a2 a3 a4 a5)) (Qt2 (X26_0.mk a6 a7 a8 a9 (F52_0 a0 a1 a2 (a3) a4 a5) (0:Int) a0 a1 a2 a3 a4 a5)) (Qt3 (X26_0.mk a6 a7 a8 a9 (F52_0 a0 a1 a2 (a3) a4 a5) (0:Int) a0 a1 a2 a3 a4 a5))),(F66_1 (Qt5 (X26_0.mk a6 a7 a8 a9 (F52_0 a0 a1 a2 (a3) a4 a5) (0:Int) a0 a1 a2 a3 a4 a5)) (Qt6 (X26_0.mk a6 a7 a8 a9 (F52_0 a0 a1 a2 (a3) a4 a5) (0:Int) a0 a1 a2 a3 a4 a5)) (Qt7 (X26_0.mk a6 a7 a8 a9 (F52_0 a0 a1 a2 (a3) a4 a5) (0:Int) a0 a1 a2 a3 a4 a5)) (Qt8 (X26_0.mk a6 a7 a8 a9 (F52_0 a0 a1 a2 (a3) a4 a5) (0:Int) a0 a1 a2 a3 a4 a5)) (Qt9 (X26_0.mk a6 a7 a8 a9 (F52_0 a0 a1 a2 (a3) a4 a5) (0:Int) a0 a1 a2 a3 a4 a5)) (Qt10 (X26_0.mk a6 a7 a8 a9 (F52_0 a0 a1 a2 (a3) a4 a5) (0:Int) a0 a1 a2 a3 a4 a5)) (Qt0 (X26_0.mk a6 a7 a8 a9 (F52_0 a0 a1 a2 (a3) a4 a5) (0:Int) a0 a1 a2 a3 a4 a5)) (Qt1 (X26_0.mk a6 a7 a8 a9 (F52_0 a0 a1 a2 (a3) a4 a5) (0:Int) a0 a1 a2 a3 a4 a5)) (Qt2 (X26_0.mk a6 a7 a8 a9 (F52_0 a0 a1 a2 (a3) a4 a5) (0:Int) a0 a1 a2 a3 a4 a5)) (Qt3 (X26_0.mk a6 a7 a8 a9 (F52_0 a0 a1 a2 (a3) a4 a5) (0:Int) a0 a1 a2 a3 a4 a5))),(F66_2 (Qt5 (X26_0.mk a6 a7 a8 a9 (F52_0 a0 a1 a2 (a3) a4 a5) (0:Int) a0 a1 a2 a3 a4 a5)) (Qt6 (X26_0.mk a6 a7 a8 a9 (F52_0 a0 a1 a2 (a3) a4 a5) (0:Int) a0 a1 a2 a3 a4 a5)) (Qt7 (X26_0.mk a6 a7 a8 a9 (F52_0 a0 a1 a2 (a3) a4 a5) (0:Int) a0 a1 a2 a3 a4 a5)) (Qt8 (X26_0.mk a6 a7 a8 a9 (F52_0 a0 a1 a2 (a3) a4 a5) (0:Int) a0 a1 a2 a3 a4 a5)) (Qt9 (X26_0.mk a6 a7 a8 a9 (F52_0 a0 a1 a2 (a3) a4 a5) (0:Int) a0 a1 a2 a3 a4 a5)) (Qt10 (X26_0.mk a6 a7 a8 a9 (F52_0 a0 a1 a2 (a3) a4 a5) (0:Int) a0 a1 a2 a3 a4 a5)) (Qt0 (X26_0.mk a6 a7 a8 a9 (F52_0 a0 a1 a2 (a3) a4 a5) (0:Int) a0 a1 a2 a3 a4 a5)) (Qt1 (X26_0.mk a6 a7 a8 a9 (F52_0 a0 a1 a2 (a3) a4 a5) (0:Int) a0 a1 a2 a3 a4 a5)) (Qt2 (X26_0.mk a6 a7 a8 a9 (F52_0 a0 a1 a2 (a3) a4 a5) (0:Int) a0 a1 a2 a3 a4 a5)) (Qt3 (X26_0.mk a6 a7 a8 a9 (F52_0 a0 a1 a2 (a3) a4 a5) (0:Int) a0 a1 a2 a3 a4 a5))),(0:Int)⟩) (.no))) (.no)) (.no)))) (.no)
def en26 (r:R26):Value:=(.tuple ⟨[(lstV r.r0 r.r1 r.r2 1),(.int .i64 r.r3)]⟩)
theorem T26 (J0:Task→List Value)(a0:ByteArray)(a1:Int)(a2:Int)(a3:Array Value)(a4:Nat)(a5:Nat)(a6:Int)(a7:Array Value)(a8:Nat)(a9:Nat):evC Try.prog (Ans.c (p52.or (p61.or (p62.or (p66.or (la26_0 J0)))))) 60 (.call 26 ⟨[(.agg ⟨[(.string a0),(.int .i64 a1),(.int .i64 a2),(lstV a3 a4 a5 4)]⟩),(.int .i64 a6),(lstV a7 a8 a9 1)]⟩ ⟨[],0,[]⟩) (frzK [1,0])=(rt26 a0 a1 a2 a3 a4 a5 a6 a7 a8 a9).out (fun r=>.ret (en26 r) ⟨[],0,[]⟩):=by kernel_rfl
def F26 (a0:ByteArray)(a1:Int)(a2:Int)(a3:Array Value)(a4:Nat)(a5:Nat)(a6:Int)(a7:Array Value)(a8:Nat)(a9:Nat):Option R26:=(rt26 a0 a1 a2 a3 a4 a5 a6 a7 a8 a9).val
section
variable (a0:ByteArray) (a1:Int) (a2:Int) (a3:Array Value) (a4:Nat) (a5:Nat) (a6:Int) (a7:Array Value) (a8:Nat) (a9:Nat)
def F26_ok:Bool:=(F26 a0 a1 a2 a3 a4 a5 a6 a7 a8 a9).isSome
def F26_0:Array Value:=match F26 a0 a1 a2 a3 a4 a5 a6 a7 a8 a9 with | some r=>r.r0 | none=>#[]
def F26_1:Nat:=match F26 a0 a1 a2 a3 a4 a5 a6 a7 a8 a9 with | some r=>r.r1 | none=>0
def F26_2:Nat:=match F26 a0 a1 a2 a3 a4 a5 a6 a7 a8 a9 with | some r=>r.r2 | none=>0
def F26_3:Int:=match F26 a0 a1 a2 a3 a4 a5 a6 a7 a8 a9 with | some r=>r.r3 | none=>0
end
def dec26:Task→Option (A26×Hp)
  | .call g ⟨[(.agg ⟨[(.string a0),(.int .i64 a1),(.int .i64 a2),(.func (.via 0 ⟨[]⟩ 0 true) a3 ⟨[.slice (some ⟨0,a4,none⟩) a5 4]⟩)]⟩),(.int .i64 a6),(.func (.via 0 ⟨[]⟩ 0 true) a7 ⟨[.slice (some ⟨0,a8,none⟩) a9 1]⟩)]⟩ h=>(match Nat.beq g 26 with | true=>some (⟨a0,a1,a2,a3,a4,a5,a6,a7,a8,a9⟩,h) | false=>none)
  | _=>none
def alt26 (x:A26)(h:Hp):AT:=.br (F26_ok x.a0 x.a1 x.a2 x.a3 x.a4 x.a5 x.a6 x.a7 x.a8 x.a9) (.leaf (.ret (.tuple ⟨[(lstV (F26_0 x.a0 x.a1 x.a2 x.a3 x.a4 x.a5 x.a6 x.a7 x.a8 x.a9) (F26_1 x.a0 x.a1 x.a2 x.a3 x.a4 x.a5 x.a6 x.a7 x.a8 x.a9) (F26_2 x.a0 x.a1 x.a2 x.a3 x.a4 x.a5 x.a6 x.a7 x.a8 x.a9) 1),(.int .i64 (F26_3 x.a0 x.a1 x.a2 x.a3 x.a4 x.a5 x.a6 x.a7 x.a8 x.a9))]⟩) h)) .no
def p26:Ans:=fnAns dec26 alt26
theorem ha26:∀(x:A26) (h:Hp)(o:Out),(alt26 x h).out=some o→∃r,(rt26 x.a0 x.a1 x.a2 x.a3 x.a4 x.a5 x.a6 x.a7 x.a8 x.a9).val=some r∧o=.ret (en26 r) h:=by
  intro x h o e
  unfold alt26 at e
  simp only [AT.out]at e
  obtain ⟨g,e⟩:=cond_some e
  unfold F26_ok at g
  obtain ⟨r,hF⟩:=Option.isSome_iff_exists.1 g
  have hv:F26 x.a0 x.a1 x.a2 x.a3 x.a4 x.a5 x.a6 x.a7 x.a8 x.a9=(rt26 x.a0 x.a1 x.a2 x.a3 x.a4 x.a5 x.a6 x.a7 x.a8 x.a9).val:=by delta F26;exact rfl
  refine ⟨r,hv.symm.trans hF,?_⟩
  simp only [Option.some.injEq]at e
  rw [← e]
  have k0:F26_0 x.a0 x.a1 x.a2 x.a3 x.a4 x.a5 x.a6 x.a7 x.a8 x.a9=r.r0:=by
    show (match F26 x.a0 x.a1 x.a2 x.a3 x.a4 x.a5 x.a6 x.a7 x.a8 x.a9 with | some r=>r.r0 | none=>#[])=r.r0
    rw [hF]
  have k1:F26_1 x.a0 x.a1 x.a2 x.a3 x.a4 x.a5 x.a6 x.a7 x.a8 x.a9=r.r1:=by
    show (match F26 x.a0 x.a1 x.a2 x.a3 x.a4 x.a5 x.a6 x.a7 x.a8 x.a9 with | some r=>r.r1 | none=>0)=r.r1
    rw [hF]
  have k2:F26_2 x.a0 x.a1 x.a2 x.a3 x.a4 x.a5 x.a6 x.a7 x.a8 x.a9=r.r2:=by
    show (match F26 x.a0 x.a1 x.a2 x.a3 x.a4 x.a5 x.a6 x.a7 x.a8 x.a9 with | some r=>r.r2 | none=>0)=r.r2
    rw [hF]
  have k3:F26_3 x.a0 x.a1 x.a2 x.a3 x.a4 x.a5 x.a6 x.a7 x.a8 x.a9=r.r3:=by
    show (match F26 x.a0 x.a1 x.a2 x.a3 x.a4 x.a5 x.a6 x.a7 x.a8 x.a9 with | some r=>r.r3 | none=>0)=r.r3
    rw [hF]
  rw [k0,k1,k2,k3]<;>rfl
theorem hd26:∀(t:Task) (x:A26)(h:Hp),dec26 t=some (x,h)→t=.call 26 ⟨[(.agg ⟨[(.string x.a0),(.int .i64 x.a1),(.int .i64 x.a2),(lstV x.a3 x.a4 x.a5 4)]⟩),(.int .i64 x.a6),(lstV x.a7 x.a8 x.a9 1)]⟩ h:=by
  intro t x h e
  unfold dec26 at e
  split at e
  case h_2=>cases e
  split at e
  case h_2=>cases e
  rename_i hg
  simp only [Option.some.injEq,Prod.mk.injEq]at e
  obtain ⟨rfl,rfl⟩:=e
  rw [Nat.eq_of_beq_eq_true hg]
theorem known26:Known Try.prog p26:=by
  obtain ⟨J0,hJ0⟩:=kl26_0
  exact Known.fn noNG mixed (Known.or known52 (Known.or known61 (Known.or known62 (Known.or known66 hJ0)))) (n:=60) (zs:=[1,0]) 26 (fun x:A26=>[(.agg ⟨[(.string x.a0),(.int .i64 x.a1),(.int .i64 x.a2),(lstV x.a3 x.a4 x.a5 4)]⟩),(.int .i64 x.a6),(lstV x.a7 x.a8 x.a9 1)]) (fun x=>rt26 x.a0 x.a1 x.a2 x.a3 x.a4 x.a5 x.a6 x.a7 x.a8 x.a9) en26 (fun x=>T26 J0 x.a0 x.a1 x.a2 x.a3 x.a4 x.a5 x.a6 x.a7 x.a8 x.a9) (fun x=>rfl) dec26 alt26 hd26 ha26
end
end Go.Proofs.Ytoojllndfjamgaa
namespace Go.Proofs.Ytoojllndfjamgaa
open Go.Gi Go.RowKit
noncomputable section
set_option maxRecDepth 100000
set_option maxHeartbeats 2000000
theorem F87_of (n:Int):F87_ok n=true∧F87_0 n=inB n 0 1000000:=by
  have q:F87 n=some ⟨inB n 0 1000000⟩:=by
    unfold F87 rt87
    simp only [RT.val,(F42_of _ _ _).1,(F42_of _ _ _).2,cond_true]
  exact ⟨by simp only [F87_ok,q];rfl,by simp only [F87_0,q]⟩
theorem F89_of (n:Int):F89_ok n=true∧F89_0 n=inB n 0 65535:=by
  have q:F89 n=some ⟨inB n 0 65535⟩:=by
    unfold F89 rt89
    simp only [RT.val,(F42_of _ _ _).1,(F42_of _ _ _).2,cond_true]
  exact ⟨by simp only [F89_ok,q];rfl,by simp only [F89_0,q]⟩
theorem F61_of (n:Int):F61_ok n=true∧F61_0 n=inB n 0 1000000:=by
  have q:F61 n=some ⟨inB n 0 1000000⟩:=by
    unfold F61 rt61
    simp only [RT.val,(F45_of _ _ _).1,(F45_of _ _ _).2,cond_true]
  exact ⟨by simp only [F61_ok,q];rfl,by simp only [F61_0,q]⟩
theorem F62_of (n:Int):F62_ok n=true∧F62_0 n=inB n 0 65535:=by
  have q:F62 n=some ⟨inB n 0 65535⟩:=by
    unfold F62 rt62
    simp only [RT.val,(F45_of _ _ _).1,(F45_of _ _ _).2,cond_true]
  exact ⟨by simp only [F62_ok,q];rfl,by simp only [F62_0,q]⟩
def wdE (c:Array Value)(k:Nat):Int:=if inB (getInt c (0+k)) 0 65535=true then 0 else 7
def erF (r num:Int)(c:Array Value)(n:Nat)(want:Int):Int :=
  if r=0 then (if inB num 0 1000000=true then (if (n:Int)=want then (if (fst1 (wdE c) n 0).isSome=true then 7 else 0) else 2) else 7) else r
section
variable {cc cv:Array Value}{nc nv:Nat}{s:ByteArray}{ws dp num want e0:Int}
theorem isI {c:Array Value}{n k:Nat}(h:GL I1 1 c n) (hk:k<n):isInt .i64 c (0+k)=true:=by
  have:=h.good.2 k hk
  simp only [I1,List.length_cons,List.length_nil,Nat.zero_add,Nat.mul_one,rdOk,rdLeaf,Bool.and_true]at this
  rw [Nat.zero_add];exact this
theorem step59 (g:GL I1 1 cv nv)(k:Nat)(hk:k<nv):(rd59_88x0 ⟨1,[],cv,0,nv,(nv:Int),(k:Int),s,ws,dp,cc,0,nc⟩).val =
    some (if wdE cv k=0 then .inl ⟨1,[],cv,0,nv,(nv:Int),((k+1:Nat):Int),s,ws,dp,cc,0,nc⟩ else .inr (.k0 false s ws dp cc 0 nc)):=by
  have few:=g.few
  unfold maxLen at few
  have hki:(k:Int)<(nv:Int):=by omega
  have h0:(0:Int)≤(k:Int):=by omega
  have h3:IntKind.wrap .i64 ((k:Int)+1)=((k+1:Nat):Int):=by rw [wrap64_id (by omega) (by omega)];omega
  have hr:=isI g hk
  unfold wdE
  simp only [rd59_88x0,RT.val,hki,h0,h3,hr,(F89_of _).1,(F89_of _).2,Int.toNat_natCast,Int.ofNat_eq_natCast,Nat.mul_one,decide_true,Bool.and_self,cond_true]
  cases inB (getInt cv (0+k)) 0 65535<;>rfl
theorem F59_of (g:GL C4 4 cc nc)(gv:GL I1 1 cv nv):F59_ok s ws dp cc 0 nc num cv 0 nv want=true∧F59_0 s ws dp cc 0 nc num cv 0 nv want=erF (ckF s ws dp cc nc).2.2 num cv nv want:=by
  have e15:=F15_eq (s:=s) (ws:=ws) (dp:=dp) g
  have o:F15_ok s ws dp cc 0 nc=true:=by simp only [F15_ok,e15];rfl
  have o2:F15_2 s ws dp cc 0 nc=(ckF s ws dp cc nc).2.2:=by simp only [F15_2,e15]
  have q:F59 s ws dp cc 0 nc num cv 0 nv want=some ⟨erF (ckF s ws dp cc nc).2.2 num cv nv want⟩:=by
    unfold F59 rt59 erF
    simp only [RT.val,o,o2,(F87_of _).1,(F87_of _).2,Int.ofNat_eq_natCast,cond_true]
    generalize (ckF s ws dp cc nc).2.2=r
    by_cases hz:r=0
    case neg=>simp only [hz,decide_false,Bool.not_false,cond_true,if_false]
    rw [if_pos hz]
    simp only [hz,decide_true,Bool.not_true,cond_false]
    cases inB num 0 1000000 with
    | false=>rfl
    | true =>
    simp only [Bool.not_true,cond_false,if_true]
    by_cases hw:(nv:Int)=want
    case neg=>simp only [hw,decide_false,Bool.not_false,cond_true,if_false]
    rw [if_pos hw]
    simp only [hw,decide_true,Bool.not_true,cond_false]
    rw [← hw]
    have z1:¬(nv:Int)<(nv:Int):=by omega
    have l:L59_88x0 (X59_88x0.mk 1 [] cv 0 nv (nv:Int) 0 s ws dp cc 0 nc)=some (match fst1 (wdE cv) nv 0 with | some (i,r)=>.k0 false s ws dp cc 0 nc | none=>.k1 s ws dp cc 0 nc) :=
      loop_fst (rd:=rd59_88x0) (S:=fun k=>X59_88x0.mk 1 [] cv 0 nv (nv:Int) (k:Int) s ws dp cc 0 nc) (E:=wdE cv) (n:=nv) (err:=fun _ _=>.k0 false s ws dp cc 0 nc) (fin:=.k1 s ws dp cc 0 nc)
        (fun k hk=>step59 gv k hk) (by simp only [rd59_88x0,RT.val,z1,decide_false,cond_false]) nv 0 (by omega)
    cases hf:fst1 (wdE cv) nv 0 with
    | some ir =>
      rw [hf]at l
      simp only [L59_88x0_k0,L59_88x0_k0_0,l,Option.isSome_some,Bool.not_false,if_true,cond_true]
    | none =>
      rw [hf]at l
      simp only [L59_88x0_k0,L59_88x0_k1,l,Option.isSome_none,Bool.false_eq_true,if_false,cond_true,cond_false]
  exact ⟨by simp only [F59_ok,q];rfl,by simp only [F59_0,q]⟩
theorem F52_of (g:GL C4 4 cc nc):F52_ok s ws dp cc 0 nc=true∧F52_0 s ws dp cc 0 nc=(ckF s ws dp cc nc).2.2:=by
  have e16:=F16_eq (s:=s) (ws:=ws) (dp:=dp) g
  have o0:F16_ok s ws dp cc 0 nc=true:=by simp only [F16_ok,e16];rfl
  have o1:F16_2 s ws dp cc 0 nc=(ckF s ws dp cc nc).2.2:=by simp only [F16_2,e16]
  have e52:F52 s ws dp cc 0 nc=some ⟨(ckF s ws dp cc nc).2.2⟩:=by
    unfold F52 rt52
    simp only [RT.val,o0,o1,cond_true]
  exact ⟨by simp only [F52_ok,e52];rfl,by simp only [F52_0,e52]⟩
def wvE (e0:Int)(c:Array Value)(n:Nat):Int:=if e0=0 then (if (fst1 (wdE c) n 0).isSome=true then 7 else 0) else e0
theorem L23_0_of (gv:GL I1 1 cv nv):L23_0 (X23_0.mk num cv 0 nv e0 0 s ws dp cc 0 nc)=some (.k0 num cv 0 nv (wvE e0 cv nv) s ws dp cc 0 nc):=by
  have few:=gv.few
  unfold maxLen at few
  have z1:¬(nv:Int)<(nv:Int):=by omega
  unfold wvE
  by_cases h0:e0=0
  · rw [if_pos h0]
    subst h0
    have l:=loop_fst3 (rd:=rd23_0) (S:=fun k=>X23_0.mk num cv 0 nv 0 (k:Int) s ws dp cc 0 nc) (T:=fun k=>X23_0.mk num cv 0 nv 7 (k:Int) s ws dp cc 0 nc) (E:=wdE cv) (n:=nv) (bad:=.k0 num cv 0 nv 7 s ws dp cc 0 nc) (fin:=.k0 num cv 0 nv 0 s ws dp cc 0 nc)
      (fun k hk=>by
        have hki:(k:Int)<(nv:Int):=by omega
        have h0:(0:Int)≤(k:Int):=by omega
        have h3:IntKind.wrap .i64 ((k:Int)+1)=((k+1:Nat):Int):=by rw [wrap64_id (by omega) (by omega)];omega
        have hr:=isI gv hk
        unfold wdE
        simp only [rd23_0,RT.val,hki,h0,h3,hr,(F62_of _).1,(F62_of _).2,Int.toNat_natCast,Int.ofNat_eq_natCast,Nat.mul_one,decide_true,Bool.and_self,cond_true]
        cases inB (getInt cv (0+k)) 0 65535<;>rfl)
      (fun k hk=>by
        have e7:¬(7:Int)=0:=by decide
        by_cases hk2:((k+1:Nat):Int)<(nv:Int)
        · simp only [rd23_0,RT.val,hk2,e7,Int.ofNat_eq_natCast,decide_true,decide_false,cond_true,cond_false]
        · simp only [rd23_0,RT.val,hk2,Int.ofNat_eq_natCast,decide_false,cond_false])
      (by simp only [rd23_0,RT.val,z1,Int.ofNat_eq_natCast,decide_false,cond_false]) nv 0 (by omega)
    refine Eq.trans l ?_
    split<;>rfl
  · rw [if_neg h0]
    refine loopR_done ?_
    by_cases hk2:(0:Int)<(nv:Int)
    · simp only [rd23_0,RT.val,hk2,h0,Int.ofNat_eq_natCast,decide_true,decide_false,cond_true,cond_false]
    · simp only [rd23_0,RT.val,hk2,Int.ofNat_eq_natCast,decide_false,cond_false]
theorem L26_0_of (gv:GL I1 1 cv nv):L26_0 (X26_0.mk num cv 0 nv e0 0 s ws dp cc 0 nc)=some (.k0 num cv 0 nv (wvE e0 cv nv) s ws dp cc 0 nc):=by
  have few:=gv.few
  unfold maxLen at few
  have z1:¬(nv:Int)<(nv:Int):=by omega
  unfold wvE
  by_cases h0:e0=0
  · rw [if_pos h0]
    subst h0
    have l:=loop_fst3 (rd:=rd26_0) (S:=fun k=>X26_0.mk num cv 0 nv 0 (k:Int) s ws dp cc 0 nc) (T:=fun k=>X26_0.mk num cv 0 nv 7 (k:Int) s ws dp cc 0 nc) (E:=wdE cv) (n:=nv) (bad:=.k0 num cv 0 nv 7 s ws dp cc 0 nc) (fin:=.k0 num cv 0 nv 0 s ws dp cc 0 nc)
      (fun k hk=>by
        have hki:(k:Int)<(nv:Int):=by omega
        have h0:(0:Int)≤(k:Int):=by omega
        have h3:IntKind.wrap .i64 ((k:Int)+1)=((k+1:Nat):Int):=by rw [wrap64_id (by omega) (by omega)];omega
        have hr:=isI gv hk
        unfold wdE
        simp only [rd26_0,RT.val,hki,h0,h3,hr,(F62_of _).1,(F62_of _).2,Int.toNat_natCast,Int.ofNat_eq_natCast,Nat.mul_one,decide_true,Bool.and_self,cond_true]
        cases inB (getInt cv (0+k)) 0 65535<;>rfl)
      (fun k hk=>by
        have e7:¬(7:Int)=0:=by decide
        by_cases hk2:((k+1:Nat):Int)<(nv:Int)
        · simp only [rd26_0,RT.val,hk2,e7,Int.ofNat_eq_natCast,decide_true,decide_false,cond_true,cond_false]
        · simp only [rd26_0,RT.val,hk2,Int.ofNat_eq_natCast,decide_false,cond_false])
      (by simp only [rd26_0,RT.val,z1,Int.ofNat_eq_natCast,decide_false,cond_false]) nv 0 (by omega)
    refine Eq.trans l ?_
    split<;>rfl
  · rw [if_neg h0]
    refine loopR_done ?_
    by_cases hk2:(0:Int)<(nv:Int)
    · simp only [rd26_0,RT.val,hk2,h0,Int.ofNat_eq_natCast,decide_true,decide_false,cond_true,cond_false]
    · simp only [rd26_0,RT.val,hk2,Int.ofNat_eq_natCast,decide_false,cond_false]
end
end
end Go.Proofs.Ytoojllndfjamgaa
namespace Go.Proofs.Ytoojllndfjamgaa
open Go.Gi Go.RowKit Go.Proofs.Ytoojllndfjamgaa.Old
noncomputable section
set_option maxRecDepth 100000
set_option maxHeartbeats 4000000
structure R60 where
  r0:Bool
structure A60 where
  a0:ByteArray
  a1:Int
  a2:Int
  a3:Int
  a4:Int
def rt60 (a0:ByteArray)(a1:Int)(a2:Int)(a3:Int)(a4:Int):RT R60 :=
  .br (not (decide (a2=(0:Int)))) (.leaf ⟨(decide ((Int.tmod a4 a2)=a3))⟩) (.no)
def en60 (r:R60):Value:=(.bool r.r0)
theorem T60  (a0:ByteArray) (a1:Int) (a2:Int) (a3:Int) (a4:Int):evC Try.prog (Ans.c (fun _=>none:Ans)) 60 (.call 60 ⟨[(.agg ⟨[(.string a0),(.int .i64 a1),(.int .i64 a2),(.int .i64 a3)]⟩),(.int .i64 a4)]⟩ ⟨[],0,[]⟩) (frzK [0])=(rt60 a0 a1 a2 a3 a4).out (fun r=>.ret (en60 r) ⟨[],0,[]⟩):=by kernel_rfl
def F60 (a0:ByteArray)(a1:Int)(a2:Int)(a3:Int)(a4:Int):Option R60:=(rt60 a0 a1 a2 a3 a4).val
section
variable (a0:ByteArray) (a1:Int) (a2:Int) (a3:Int) (a4:Int)
def F60_ok:Bool:=(F60 a0 a1 a2 a3 a4).isSome
def F60_0:Bool:=match F60 a0 a1 a2 a3 a4 with | some r=>r.r0 | none=>false
end
def dec60:Task→Option (A60×Hp)
  | .call g ⟨[(.agg ⟨[(.string a0),(.int .i64 a1),(.int .i64 a2),(.int .i64 a3)]⟩),(.int .i64 a4)]⟩ h=>(match Nat.beq g 60 with | true=>some (⟨a0,a1,a2,a3,a4⟩,h) | false=>none)
  | _=>none
def alt60 (x:A60)(h:Hp):AT:=.br (F60_ok x.a0 x.a1 x.a2 x.a3 x.a4) (.leaf (.ret (.bool (F60_0 x.a0 x.a1 x.a2 x.a3 x.a4)) h)) .no
def p60:Ans:=fnAns dec60 alt60
theorem ha60:∀(x:A60) (h:Hp)(o:Out),(alt60 x h).out=some o→∃r,(rt60 x.a0 x.a1 x.a2 x.a3 x.a4).val=some r∧o=.ret (en60 r) h:=by
  intro x h o e
  unfold alt60 at e
  simp only [AT.out]at e
  obtain ⟨g,e⟩:=cond_some e
  unfold F60_ok at g
  obtain ⟨r,hF⟩:=Option.isSome_iff_exists.1 g
  have hv:F60 x.a0 x.a1 x.a2 x.a3 x.a4=(rt60 x.a0 x.a1 x.a2 x.a3 x.a4).val:=by delta F60;exact rfl
  refine ⟨r,hv.symm.trans hF,?_⟩
  simp only [Option.some.injEq]at e
  rw [← e]
  have k0:F60_0 x.a0 x.a1 x.a2 x.a3 x.a4=r.r0:=by
    show (match F60 x.a0 x.a1 x.a2 x.a3 x.a4 with | some r=>r.r0 | none=>false)=r.r0
    rw [hF]
  rw [k0]<;>rfl
theorem hd60:∀(t:Task) (x:A60)(h:Hp),dec60 t=some (x,h)→t=.call 60 ⟨[(.agg ⟨[(.string x.a0),(.int .i64 x.a1),(.int .i64 x.a2),(.int .i64 x.a3)]⟩),(.int .i64 x.a4)]⟩ h:=by
  intro t x h e
  unfold dec60 at e
  split at e
  case h_2=>cases e
  split at e
  case h_2=>cases e
  rename_i hg
  simp only [Option.some.injEq,Prod.mk.injEq]at e
  obtain ⟨rfl,rfl⟩:=e
  rw [Nat.eq_of_beq_eq_true hg]
theorem known60:Known Try.prog p60:=by
  exact Known.fn noNG mixed (Known.nothing Try.prog) (n:=60) (zs:=[0]) 60 (fun x:A60=>[(.agg ⟨[(.string x.a0),(.int .i64 x.a1),(.int .i64 x.a2),(.int .i64 x.a3)]⟩),(.int .i64 x.a4)]) (fun x=>rt60 x.a0 x.a1 x.a2 x.a3 x.a4) en60 (fun x=>T60  x.a0 x.a1 x.a2 x.a3 x.a4) (fun x=>rfl) dec60 alt60 hd60 ha60
structure X22_0 where
  v0:Int
  v1:Array Value
  v2:Nat
  v3:Nat
  v4:Nat
  v5:Array Value
  v6:Nat
  v7:Nat
  v8:Int
  v9:Int
  v10:ByteArray
  v11:Int
  v12:Int
  v13:Array Value
  v14:Nat
  v15:Nat
  v16:Array Value
inductive D22_0 where
  | k0 (d0:Nat) (d1:ByteArray) (d2:Int) (d3:Int) (d4:Array Value) (d5:Nat) (d6:Nat) (d7:Array Value)
def Lp22_0:LoopS X22_0 D22_0 where
  c:=(theLoop Try.prog 22 0)
  N:=46
  M:=2
  S:=[1,2,9,26,27,28]
  Bs:=[1]
  q:=none
  sz:=0
  z:=0
  own:=fun x=>none
  sl:=fun x=>[(.int .i64 x.v0),(lstV x.v1 x.v2 x.v3 1),(.slice (some ⟨1,0,none⟩) x.v4 1),(lstV x.v5 x.v6 x.v7 4),(.int .i64 x.v8),(.int .i64 x.v9)]
  hp:=fun x w=>[.cells ⟨[(.string x.v10),(.int .i64 x.v11),(.int .i64 x.v12),(lstV x.v13 x.v14 x.v15 4)]⟩ false,.cells x.v16 false]
  ex:=fun d=>match d with | .k0 ..=>.exit 0
  pick:=fun e=>match e with | .exit 0=>[9] | _=>[]
  dv:=fun d=>match d with | .k0 d0 d1 d2 d3 d4 d5 d6 d7=>[(.slice (some ⟨1,0,none⟩) d0 1)]
  dh:=fun d=>match d with | .k0 d0 d1 d2 d3 d4 d5 d6 d7=>[.cells ⟨[(.string d1),(.int .i64 d2),(.int .i64 d3),(lstV d4 d5 d6 4)]⟩ false,.cells d7 false]
theorem ok22_0:Lp22_0.OkS:=⟨fun x=>rfl,fun x=>rfl,fun x w=>rfl,fun x=>(fun h=>by have h2:(allFz x.v16&&true)=true:=h;simp only [Bool.and_eq_true]at h2;obtain ⟨g0,_⟩:=h2;exact (all_box_cons rfl (all_box_cons (boxD_arr g0) all_box_nil))),fun x w=>rfl,fun x w=>rfl,(fun q j h=>by cases h),fun d=>by cases d<;>rfl,fun d=>by cases d<;>rfl,fun d=>match d with | .k0 d0 d1 d2 d3 d4 d5 d6 d7=>(fun h=>by have h2:(allFz d7&&true)=true:=h;simp only [Bool.and_eq_true]at h2;obtain ⟨g0,_⟩:=h2;exact (all_box_cons rfl (all_box_cons (boxD_arr g0) all_box_nil))),fun d=>by cases d<;>(intro h;cases h),fun d=>by cases d<;>rfl,fun d=>by cases d<;>rfl,by decide,by decide⟩
def rd22_0 (x:X22_0):RT (Sum X22_0 D22_0):=match x with
  | ⟨v0,v1,v2,v3,v4,v5,v6,v7,v8,v9,v10,v11,v12,v13,v14,v15,v16⟩ =>
     .br (decide (v9<v8)) (.br (and (decide ((0:Int)≤v9)) (decide (v9<(Int.ofNat v7)))) (.br (rdOk v5 [Leaf.str,(Leaf.int .i64),(Leaf.int .i64),(Leaf.int .i64)] (v6+((Int.toNat v9)*4))) (.br (F60_ok (getStr v5 (v6+((Int.toNat v9)*4))) (getInt v5 ((v6+((Int.toNat v9)*4))+1)) (getInt v5 (((v6+((Int.toNat v9)*4))+1)+1)) (getInt v5 ((((v6+((Int.toNat v9)*4))+1)+1)+1)) v0) (.br (F60_0 (getStr v5 (v6+((Int.toNat v9)*4))) (getInt v5 ((v6+((Int.toNat v9)*4))+1)) (getInt v5 (((v6+((Int.toNat v9)*4))+1)+1)) (getInt v5 ((((v6+((Int.toNat v9)*4))+1)+1)+1)) v0) (.br (and (decide ((0:Int)≤v9)) (decide (v9<(Int.ofNat v3)))) (.br (isInt .i64 v1 (v2+((Int.toNat v9)*1))) (.br (and (decide ((0:Int)≤(getInt v5 ((v6+((Int.toNat v9)*4))+1)))) (decide ((getInt v5 ((v6+((Int.toNat v9)*4))+1))<(Int.ofNat v4))))
     (.br (and true (and (decide ((Array.size ⟨[(Value.int .i64 (getInt v1 (v2+((Int.toNat v9)*1))))]⟩)=1)) (and (decide (((0+((Int.toNat (getInt v5 ((v6+((Int.toNat v9)*4))+1)))*1))+1)≤(Array.size v16))) (and true true)))) (.br (allFz (wcells v16 (0+((Int.toNat (getInt v5 ((v6+((Int.toNat v9)*4))+1)))*1)) [(Value.int .i64 (getInt v1 (v2+((Int.toNat v9)*1))))])) (.leaf (.inl ⟨v0,v1,v2,v3,v4,v5,v6,v7,v8,(IntKind.wrap .i64 (v9+(1:Int))),v10,v11,v12,v13,v14,v15,(wcells v16 (0+((Int.toNat (getInt v5 ((v6+((Int.toNat v9)*4))+1)))*1)) [(Value.int .i64 (getInt v1 (v2+((Int.toNat v9)*1))))])⟩)) (.no)) (.no)) (.no)) (.no)) (.no)) (.br (allFz v16) (.leaf (.inl ⟨v0,v1,v2,v3,v4,v5,v6,v7,v8,(IntKind.wrap .i64 (v9+(1:Int))),v10,v11,v12,v13,v14,v15,v16⟩)) (.no))) (.no)) (.no)) (.no)) (.br (allFz v16) (.leaf (.inr (.k0 (v4) (v10) (v11) (v12) (v13) (v14) (v15) (v16)))) (.no))
theorem T22_0n  (y:List Value) (v0:Int) (v1:Array Value) (v2:Nat) (v3:Nat) (v4:Nat) (v5:Array Value) (v6:Nat) (v7:Nat) (v8:Int) (v9:Int) (v10:ByteArray) (v11:Int) (v12:Int) (v13:Array Value) (v14:Nat) (v15:Nat) (v16:Array Value):evC Try.prog (Ans.c (p59.or p60)) 60 (.code none (theLoop Try.prog 22 0) ⟨sets (junkF 46 y) [(1,(.int .i64 v0)),(2,(lstV v1 v2 v3 1)),(9,(.slice (some ⟨1,0,none⟩) v4 1)),(26,(lstV v5 v6 v7 4)),(27,(.int .i64 v8)),(28,(.int .i64 v9))],[],⟨[.cells ⟨[(.string v10),(.int .i64 v11),(.int .i64 v12),(lstV v13 v14 v15 4)]⟩ false,.cells v16 false],0,[]⟩⟩) (kS 46 2 [1,2,9,26,27,28] Lp22_0.pick [1] 0 none)=(rd22_0 ⟨v0,v1,v2,v3,v4,v5,v6,v7,v8,v9,v10,v11,v12,v13,v14,v15,v16⟩).out Lp22_0.encS:=by kernel_rfl
theorem T22_0  (x:X22_0) (y:List Value):evC Try.prog (Ans.c (p59.or p60)) 60 (Lp22_0.headS x y) (kS Lp22_0.N Lp22_0.M Lp22_0.S Lp22_0.pick Lp22_0.Bs Lp22_0.z Lp22_0.q)=(rd22_0 x).out Lp22_0.encS:=by
  obtain ⟨v0,v1,v2,v3,v4,v5,v6,v7,v8,v9,v10,v11,v12,v13,v14,v15,v16⟩:=x
  exact T22_0n  y v0 v1 v2 v3 v4 v5 v6 v7 v8 v9 v10 v11 v12 v13 v14 v15 v16
def L22_0 (x:X22_0):Option D22_0:=loopR rd22_0 x
section
variable (x:X22_0)
def L22_0_k0:Bool:=match L22_0 x with | some (.k0 ..)=>true | _=>false
def Qu0:Nat:=match L22_0 x with | some (.k0 d _ _ _ _ _ _ _)=>d | _=>0
def Qu1:ByteArray:=match L22_0 x with | some (.k0 _ d _ _ _ _ _ _)=>d | _=>ByteArray.empty
def Qu2:Int:=match L22_0 x with | some (.k0 _ _ d _ _ _ _ _)=>d | _=>0
def Qu3:Int:=match L22_0 x with | some (.k0 _ _ _ d _ _ _ _)=>d | _=>0
def Qu4:Array Value:=match L22_0 x with | some (.k0 _ _ _ _ d _ _ _)=>d | _=>#[]
def Qu5:Nat:=match L22_0 x with | some (.k0 _ _ _ _ _ d _ _)=>d | _=>0
def Qu6:Nat:=match L22_0 x with | some (.k0 _ _ _ _ _ _ d _)=>d | _=>0
def Qu7:Array Value:=match L22_0 x with | some (.k0 _ _ _ _ _ _ _ d)=>d | _=>#[]
end
def dec22_0:Task→Option (Code×X22_0)
  | .code none (.loop code) ⟨t,[],⟨[b0,b1],0,[]⟩⟩ =>
    (match Nat.beq (firstReg code) 6,lenIs t 46 with
    | true,true=>((dI .i64 (lget t 1)).bind fun v0=>(dLs 1 (lget t 2)).bind fun q1=>(fun v1 v2 v3=>(dSl 1 1 (lget t 9)).bind fun v4=>(dLs 4 (lget t 26)).bind fun q3=>(fun v5 v6 v7=>(dI .i64 (lget t 27)).bind fun v8=>(dI .i64 (lget t 28)).bind fun v9=>(dCe b0).bind fun l6=>match l6 with | [y6_0,y6_1,y6_2,y6_3]=>((dSt y6_0).bind fun v10=>(dI .i64 y6_1).bind fun v11=>(dI .i64 y6_2).bind fun v12=>(dLs 4 y6_3).bind fun q10=>(fun v13 v14 v15=>(dAr b1).bind fun v16=>some (code,⟨v0,v1,v2,v3,v4,v5,v6,v7,v8,v9,v10,v11,v12,v13,v14,v15,v16⟩)) q10.1 q10.2.1 q10.2.2) | _=>none) q3.1 q3.2.1 q3.2.2) q1.1 q1.2.1 q1.2.2)
    | _,_=>none)
  | _=>none
def alt22_0 (x:X22_0)(j:List Value):AT:=.br (allFz x.v16) (.br (L22_0_k0 x) (loopEnd 46 (.exit 0) [(9,(.slice (some ⟨1,0,none⟩) (Qu0 x) 1))] ⟨[.cells ⟨[(.string (Qu1 x)),(.int .i64 (Qu2 x)),(.int .i64 (Qu3 x)),(lstV (Qu4 x) (Qu5 x) (Qu6 x) 4)]⟩ false,.cells (Qu7 x) false],0,[]⟩ j) (.no)) .no
def la22_0 (J:Task→List Value):Ans:=loopAns Lp22_0.c dec22_0 alt22_0 J
theorem ha22_0:∀(x:X22_0) (j:List Value)(o:Out),(alt22_0 x j).out=some o→Lp22_0.good x∧∃d,loopR rd22_0 x=some d∧o=Lp22_0.tailS x d j:=by
  intro x j o h
  simp only [alt22_0,AT.out]at h
  obtain ⟨g0,h⟩:=cond_some h
  refine ⟨⟨(show (allFz x.v16&&true)=true by rw [g0];rfl),fun a l e=>(by cases e)⟩,?_⟩
  cases hL:L22_0 x with
  | none=>simp only [L22_0_k0,Qu0,Qu1,Qu2,Qu3,Qu4,Qu5,Qu6,Qu7,hL,AT.out,cond_false]at h;cases h
  | some d =>
    refine ⟨d,hL,?_⟩
    cases d<;>(simp only [L22_0_k0,Qu0,Qu1,Qu2,Qu3,Qu4,Qu5,Qu6,Qu7,hL,AT.out,loopEnd,cond_true,cond_false,Option.some.injEq]at h;rw [← h];rfl)
theorem hd22_0:∀(t:Task) (c:Code)(x:X22_0),dec22_0 t=some (c,x)→c=Lp22_0.c→∃T H',t=.code none (.loop Lp22_0.c) ⟨T,[],⟨H',0,[]⟩⟩∧Forgets H' (Lp22_0.H x)∧T.length=Lp22_0.N∧∀kv∈Lp22_0.S.zip (Lp22_0.sl x),lget T kv.1=kv.2:=by
  intro t c x h hc
  unfold dec22_0 at h
  split at h
  · split at h
    case h_2=>cases h
    rename_i hreg hlen
    have e2:=Option.bind_eq_some_iff.1 h
    clear h
    obtain ⟨_,hh,h⟩:=e2
    have hh:=dI_eq hh
    have e2:=Option.bind_eq_some_iff.1 h
    clear h
    obtain ⟨_,hh,h⟩:=e2
    have hh:=dLs_eq hh
    have e2:=Option.bind_eq_some_iff.1 h
    clear h
    obtain ⟨_,hh,h⟩:=e2
    have hh:=dSl_eq hh
    have e2:=Option.bind_eq_some_iff.1 h
    clear h
    obtain ⟨_,hh,h⟩:=e2
    have hh:=dLs_eq hh
    have e2:=Option.bind_eq_some_iff.1 h
    clear h
    obtain ⟨_,hh,h⟩:=e2
    have hh:=dI_eq hh
    have e2:=Option.bind_eq_some_iff.1 h
    clear h
    obtain ⟨_,hh,h⟩:=e2
    have hh:=dI_eq hh
    have e2:=Option.bind_eq_some_iff.1 h
    clear h
    obtain ⟨_,hh,h⟩:=e2
    obtain rfl:=dCe_eq hh
    clear hh
    split at h
    case h_2=>cases h
    have e2:=Option.bind_eq_some_iff.1 h
    clear h
    obtain ⟨_,hh,h⟩:=e2
    obtain rfl:=dSt_eq hh
    clear hh
    have e2:=Option.bind_eq_some_iff.1 h
    clear h
    obtain ⟨_,hh,h⟩:=e2
    obtain rfl:=dI_eq hh
    clear hh
    have e2:=Option.bind_eq_some_iff.1 h
    clear h
    obtain ⟨_,hh,h⟩:=e2
    obtain rfl:=dI_eq hh
    clear hh
    have e2:=Option.bind_eq_some_iff.1 h
    clear h
    obtain ⟨_,hh,h⟩:=e2
    obtain rfl:=dLs_eq hh
    clear hh
    have e2:=Option.bind_eq_some_iff.1 h
    clear h
    obtain ⟨_,hh,h⟩:=e2
    obtain rfl:=dAr_eq hh
    clear hh
    simp only [Option.some.injEq,Prod.mk.injEq]at h
    obtain ⟨rfl,rfl⟩:=h
    subst hc
    refine ⟨_,_,rfl,(Forgets.refl _),lenIs_eq _ _ hlen,?_⟩
    intro kv hk
    simp only [Lp22_0,List.zip_cons_cons,List.zip_nil_right,List.mem_cons,List.not_mem_nil,or_false]at hk
    rcases hk with rfl | rfl | rfl | rfl | rfl | rfl<;>assumption
  · cases h
theorem kl22_0:∃J,Known Try.prog (la22_0 J):=by
  exact LoopS.known noNG mixed ok22_0 (Known.or known59 known60) (n:=60) (rd:=rd22_0) (fun x j _=>T22_0  x j) dec22_0 alt22_0 hd22_0 ha22_0
structure R22 where
  r0:Array Value
  r1:Nat
  r2:Nat
  r3:Int
structure A22 where
  a0:ByteArray
  a1:Int
  a2:Int
  a3:Array Value
  a4:Nat
  a5:Nat
  a6:Int
  a7:Array Value
  a8:Nat
  a9:Nat
def rt22 (a0:ByteArray)(a1:Int)(a2:Int)(a3:Array Value)(a4:Nat)(a5:Nat)(a6:Int)(a7:Array Value)(a8:Nat)(a9:Nat):RT R22 :=
  .br (F59_ok a0 a1 a2 (a3) a4 a5 a6 (a7) a8 a9 (Int.ofNat a5)) (.br (not (decide ((F59_0 a0 a1 a2 (a3) a4 a5 a6 (a7) a8 a9 (Int.ofNat a5))=(0:Int)))) (.leaf ⟨⟨[]⟩,0,0,(F59_0 a0 a1 a2 (a3) a4 a5 a6 (a7) a8 a9 (Int.ofNat a5))⟩) (.br (and (decide (a1=a1)) (and (decide ((0:Int)≤a1)) (decide (a1≤(16777216:Int))))) (.br (decide (((Int.toNat a1)*8)≤140737488355328))
     (.sw (eqCode (Lp22_0.c) (Lp22_0.c)) true (by simp only [eqCode_self,arrEq_self]) (.br (allFz (zrow ⟨[(Value.int .i64 (0:Int))]⟩ ((Int.toNat a1)*1))) (.br (L22_0_k0 (X22_0.mk a6 (a7) a8 a9 (Int.toNat a1) (a3) a4 a5 (Int.ofNat a5) (0:Int) a0 a1 a2 (a3) a4 a5 (zrow ⟨[(Value.int .i64 (0:Int))]⟩ ((Int.toNat a1)*1))))
     (.br (and (allFz (Qu7 (X22_0.mk a6 (a7) a8 a9 (Int.toNat a1) (a3) a4 a5 (Int.ofNat a5) (0:Int) a0 a1 a2 (a3) a4 a5 (zrow ⟨[(Value.int .i64 (0:Int))]⟩ ((Int.toNat a1)*1))))) (decide ((0+((Qu0 (X22_0.mk a6 (a7) a8 a9 (Int.toNat a1) (a3) a4 a5 (Int.ofNat a5) (0:Int) a0 a1 a2 (a3) a4 a5 (zrow ⟨[(Value.int .i64 (0:Int))]⟩ ((Int.toNat a1)*1))))*1))≤(Array.size (Qu7 (X22_0.mk a6 (a7) a8 a9 (Int.toNat a1) (a3) a4 a5 (Int.ofNat a5) (0:Int) a0 a1 a2 (a3) a4 a5 (zrow ⟨[(Value.int .i64 (0:Int))]⟩ ((Int.toNat a1)*1)))))))) (.leaf ⟨(Qu7 (X22_0.mk a6 (a7) a8 a9 (Int.toNat a1) (a3) a4 a5 (Int.ofNat a5) (0:Int) a0 a1 a2 (a3) a4 a5 (zrow ⟨[(Value.int .i64 (0:Int))]⟩ ((Int.toNat a1)*1)))),0,(Qu0 (X22_0.mk a6 (a7) a8 a9 (Int.toNat a1) (a3) a4 a5 (Int.ofNat a5) (0:Int) a0 a1 a2 (a3) a4 a5 (zrow ⟨[(Value.int .i64 (0:Int))]⟩ ((Int.toNat a1)*1)))),(0:Int)⟩) (.no)) (.no)) (.no)) (.no)) (.no)) (.no))) (.no)
def en22 (r:R22):Value:=(.tuple ⟨[(lstV r.r0 r.r1 r.r2 1),(.int .i64 r.r3)]⟩)
theorem T22 (J0:Task→List Value)(a0:ByteArray)(a1:Int)(a2:Int)(a3:Array Value)(a4:Nat)(a5:Nat)(a6:Int)(a7:Array Value)(a8:Nat)(a9:Nat):evC Try.prog (Ans.c (p59.or (p60.or (la22_0 J0)))) 60 (.call 22 ⟨[(.agg ⟨[(.string a0),(.int .i64 a1),(.int .i64 a2),(lstV a3 a4 a5 4)]⟩),(.int .i64 a6),(lstV a7 a8 a9 1)]⟩ ⟨[],0,[]⟩) (frzK [1,0])=(rt22 a0 a1 a2 a3 a4 a5 a6 a7 a8 a9).out (fun r=>.ret (en22 r) ⟨[],0,[]⟩):=by kernel_rfl
def F22 (a0:ByteArray)(a1:Int)(a2:Int)(a3:Array Value)(a4:Nat)(a5:Nat)(a6:Int)(a7:Array Value)(a8:Nat)(a9:Nat):Option R22:=(rt22 a0 a1 a2 a3 a4 a5 a6 a7 a8 a9).val
section
variable (a0:ByteArray) (a1:Int) (a2:Int) (a3:Array Value) (a4:Nat) (a5:Nat) (a6:Int) (a7:Array Value) (a8:Nat) (a9:Nat)
def F22_ok:Bool:=(F22 a0 a1 a2 a3 a4 a5 a6 a7 a8 a9).isSome
def F22_0:Array Value:=match F22 a0 a1 a2 a3 a4 a5 a6 a7 a8 a9 with | some r=>r.r0 | none=>#[]
def F22_1:Nat:=match F22 a0 a1 a2 a3 a4 a5 a6 a7 a8 a9 with | some r=>r.r1 | none=>0
def F22_2:Nat:=match F22 a0 a1 a2 a3 a4 a5 a6 a7 a8 a9 with | some r=>r.r2 | none=>0
def F22_3:Int:=match F22 a0 a1 a2 a3 a4 a5 a6 a7 a8 a9 with | some r=>r.r3 | none=>0
end
def dec22:Task→Option (A22×Hp)
  | .call g ⟨[(.agg ⟨[(.string a0),(.int .i64 a1),(.int .i64 a2),(.func (.via 0 ⟨[]⟩ 0 true) a3 ⟨[.slice (some ⟨0,a4,none⟩) a5 4]⟩)]⟩),(.int .i64 a6),(.func (.via 0 ⟨[]⟩ 0 true) a7 ⟨[.slice (some ⟨0,a8,none⟩) a9 1]⟩)]⟩ h=>(match Nat.beq g 22 with | true=>some (⟨a0,a1,a2,a3,a4,a5,a6,a7,a8,a9⟩,h) | false=>none)
  | _=>none
def alt22 (x:A22)(h:Hp):AT:=.br (F22_ok x.a0 x.a1 x.a2 x.a3 x.a4 x.a5 x.a6 x.a7 x.a8 x.a9) (.leaf (.ret (.tuple ⟨[(lstV (F22_0 x.a0 x.a1 x.a2 x.a3 x.a4 x.a5 x.a6 x.a7 x.a8 x.a9) (F22_1 x.a0 x.a1 x.a2 x.a3 x.a4 x.a5 x.a6 x.a7 x.a8 x.a9) (F22_2 x.a0 x.a1 x.a2 x.a3 x.a4 x.a5 x.a6 x.a7 x.a8 x.a9) 1),(.int .i64 (F22_3 x.a0 x.a1 x.a2 x.a3 x.a4 x.a5 x.a6 x.a7 x.a8 x.a9))]⟩) h)) .no
def p22:Ans:=fnAns dec22 alt22
theorem ha22:∀(x:A22) (h:Hp)(o:Out),(alt22 x h).out=some o→∃r,(rt22 x.a0 x.a1 x.a2 x.a3 x.a4 x.a5 x.a6 x.a7 x.a8 x.a9).val=some r∧o=.ret (en22 r) h:=by
  intro x h o e
  unfold alt22 at e
  simp only [AT.out]at e
  obtain ⟨g,e⟩:=cond_some e
  unfold F22_ok at g
  obtain ⟨r,hF⟩:=Option.isSome_iff_exists.1 g
  have hv:F22 x.a0 x.a1 x.a2 x.a3 x.a4 x.a5 x.a6 x.a7 x.a8 x.a9=(rt22 x.a0 x.a1 x.a2 x.a3 x.a4 x.a5 x.a6 x.a7 x.a8 x.a9).val:=by delta F22;exact rfl
  refine ⟨r,hv.symm.trans hF,?_⟩
  simp only [Option.some.injEq]at e
  rw [← e]
  have k0:F22_0 x.a0 x.a1 x.a2 x.a3 x.a4 x.a5 x.a6 x.a7 x.a8 x.a9=r.r0:=by
    show (match F22 x.a0 x.a1 x.a2 x.a3 x.a4 x.a5 x.a6 x.a7 x.a8 x.a9 with | some r=>r.r0 | none=>#[])=r.r0
    rw [hF]
  have k1:F22_1 x.a0 x.a1 x.a2 x.a3 x.a4 x.a5 x.a6 x.a7 x.a8 x.a9=r.r1:=by
    show (match F22 x.a0 x.a1 x.a2 x.a3 x.a4 x.a5 x.a6 x.a7 x.a8 x.a9 with | some r=>r.r1 | none=>0)=r.r1
    rw [hF]
  have k2:F22_2 x.a0 x.a1 x.a2 x.a3 x.a4 x.a5 x.a6 x.a7 x.a8 x.a9=r.r2:=by
    show (match F22 x.a0 x.a1 x.a2 x.a3 x.a4 x.a5 x.a6 x.a7 x.a8 x.a9 with | some r=>r.r2 | none=>0)=r.r2
    rw [hF]
  have k3:F22_3 x.a0 x.a1 x.a2 x.a3 x.a4 x.a5 x.a6 x.a7 x.a8 x.a9=r.r3:=by
    show (match F22 x.a0 x.a1 x.a2 x.a3 x.a4 x.a5 x.a6 x.a7 x.a8 x.a9 with | some r=>r.r3 | none=>0)=r.r3
    rw [hF]
  rw [k0,k1,k2,k3]<;>rfl
theorem hd22:∀(t:Task) (x:A22)(h:Hp),dec22 t=some (x,h)→t=.call 22 ⟨[(.agg ⟨[(.string x.a0),(.int .i64 x.a1),(.int .i64 x.a2),(lstV x.a3 x.a4 x.a5 4)]⟩),(.int .i64 x.a6),(lstV x.a7 x.a8 x.a9 1)]⟩ h:=by
  intro t x h e
  unfold dec22 at e
  split at e
  case h_2=>cases e
  split at e
  case h_2=>cases e
  rename_i hg
  simp only [Option.some.injEq,Prod.mk.injEq]at e
  obtain ⟨rfl,rfl⟩:=e
  rw [Nat.eq_of_beq_eq_true hg]
theorem known22:Known Try.prog p22:=by
  obtain ⟨J0,hJ0⟩:=kl22_0
  exact Known.fn noNG mixed (Known.or known59 (Known.or known60 hJ0)) (n:=60) (zs:=[1,0]) 22 (fun x:A22=>[(.agg ⟨[(.string x.a0),(.int .i64 x.a1),(.int .i64 x.a2),(lstV x.a3 x.a4 x.a5 4)]⟩),(.int .i64 x.a6),(lstV x.a7 x.a8 x.a9 1)]) (fun x=>rt22 x.a0 x.a1 x.a2 x.a3 x.a4 x.a5 x.a6 x.a7 x.a8 x.a9) en22 (fun x=>T22 J0 x.a0 x.a1 x.a2 x.a3 x.a4 x.a5 x.a6 x.a7 x.a8 x.a9) (fun x=>rfl) dec22 alt22 hd22 ha22
end
end Go.Proofs.Ytoojllndfjamgaa
namespace Go.Proofs.Ytoojllndfjamgaa
open Go.Gi Go.RowKit
noncomputable section
set_option maxRecDepth 100000
set_option maxHeartbeats 2000000
theorem fst1_none {E:Nat→Int}:∀{m k:Nat},fst1 E m k=none→∀j,k≤j→j<k+m→E j=0
  | 0,k,_,j,h1,h2=>by omega
  | m+1,k,h,j,h1,h2=>by
    unfold fst1 at h
    split at h
    · rename_i he
      rcases Nat.lt_or_ge k j with h3 | h3
      · exact fst1_none h j (by omega) (by omega)
      · obtain rfl:j=k:=by omega
        exact he
    · cases h
theorem fst1_some {E:Nat→Int}:∀{m k i:Nat}{r:Int},fst1 E m k=some (i,r)→r≠0
  | 0,k,i,r,h=>by cases h
  | m+1,k,i,r,h=>by
    unfold fst1 at h
    split at h
    · exact fst1_some h
    · rename_i he
      simp only [Option.some.injEq,Prod.mk.injEq]at h
      rw [← h.2];exact he
structure Fmt (s:ByteArray) (ws dp:Int) (cc:Array Value) (nc:Nat):Prop where
  s1:1≤s.size
  s2:s.size≤4
  n:nc≤12
  w1:1≤ws
  w2:ws≤32
  d:dpB dp=true
  c:∀k,k<nc→rgB ws dp (getInt cc (0+k*4+1)) (getInt cc (0+k*4+1+1)) (getInt cc (0+k*4+1+1+1))=true
theorem fmt_of {s:ByteArray}{ws dp:Int}{cc:Array Value}{nc:Nat}(h:(ckF s ws dp cc nc).2.2=0):Fmt s ws dp cc nc:=by
  unfold ckF at h
  by_cases h1:inB (s.size:Int) 1 4=true
  case neg=>rw [if_neg h1]at h;cases h
  rw [if_pos h1]at h
  by_cases h2:12<nc
  · rw [if_pos h2]at h;cases h
  rw [if_neg h2]at h
  by_cases h3:inB ws 1 32=true
  case neg=>rw [if_neg h3]at h;cases h
  rw [if_pos h3]at h
  by_cases h4:dpB dp=true
  case neg=>rw [if_neg h4]at h;cases h
  rw [if_pos h4]at h
  simp only [inB,Bool.and_eq_true,decide_eq_true_eq]at h1 h3
  cases hf:fst1 (chX coP ws dp cc) nc 0 with
  | some ir =>
    obtain ⟨i,r⟩:=ir
    rw [hf]at h
    exact absurd h (fst1_some hf)
  | none =>
    exact ⟨by omega,by omega,by omega,h3.1,h3.2,h4,fun k hk=>ch_rg (fst1_none hf k (Nat.zero_le _) (by omega))⟩
section
variable {cc cv:Array Value}{nc nv:Nat}{s:ByteArray}{ws dp num:Int}
theorem Fmt.e (h:Fmt s ws dp cc nc) {k:Nat}(hk:k<nc):1≤getInt cc (0+k*4+1+1)∧0≤getInt cc (0+k*4+1)∧getInt cc (0+k*4+1)<ws:=by
  have:=h.c k hk
  simp only [rgB,inB,Bool.and_eq_true,decide_eq_true_eq]at this
  have hw:IntKind.wrap .i64 (ws-1)=ws-1:=wrap64_id (by have:=h.w1;omega) (by have:=h.w2;omega)
  rw [hw]at this
  exact ⟨this.2.1.1,this.1.1,by omega⟩
theorem F60_of {nm:ByteArray}{w e p:Int}(he:1≤e):F60_ok nm w e p num=true∧F60_0 nm w e p num=decide (Int.tmod num e=p):=by
  have h0:¬e=0:=by omega
  have q:F60 nm w e p num=some ⟨decide (Int.tmod num e=p)⟩:=by
    unfold F60 rt60
    simp only [RT.val,h0,decide_false,Bool.not_false,cond_true]
  exact ⟨by simp only [F60_ok,q];rfl,by simp only [F60_0,q]⟩
theorem F63_of {nm:ByteArray}{w e p:Int}(he:1≤e):F63_ok nm w e p num=true∧F63_0 nm w e p num=decide (Int.tmod num e=p):=by
  have h0:¬e=0:=by omega
  have q:F63 nm w e p num=some ⟨decide (Int.tmod num e=p)⟩:=by
    unfold F63 rt63
    simp only [RT.val,h0,decide_false,Bool.not_false,cond_true]
  exact ⟨by simp only [F63_ok,q];rfl,by simp only [F63_0,q]⟩
def cmF (num:Int)(cc cv:Array Value)(k:Nat)(l:List Int):List Int :=
  if Int.tmod num (getInt cc (0+k*4+1+1))=getInt cc (0+k*4+1+1+1) then l.set (getInt cc (0+k*4+1)).toNat (getInt cv (0+k)) else l
def cmA (num:Int)(cc cv:Array Value)(nc:Nat)(ws:Int):List Int:=iterN (cmF num cc cv) nc 0 (List.replicate ws.toNat 0)
theorem cmF_len (k:Nat)(l:List Int):(cmF num cc cv k l).length=l.length:=by
  unfold cmF;split<;>simp
theorem cmA_len:(cmA num cc cv nc ws).length=ws.toNat :=
  iterN_inv (I:=fun l=>l.length=ws.toNat) (n:=nc) (fun k l _ h=>(cmF_len k l).trans h) nc 0 _ (by omega) (by simp)
theorem size1 (v:Value):Array.size ⟨[v]⟩=1:=rfl
theorem step22 (f:Fmt s ws dp cc nc)(g:GL C4 4 cc nc)(gv:GL I1 1 cv nv)(hv:nv=nc)(k:Nat)(l:List Int)(hk:k<nc)(hl:l.length=ws.toNat) :
    (rd22_0 ⟨num,cv,0,nv,ws.toNat,cc,0,nc,(nc:Int),(k:Int),s,ws,dp,cc,0,nc,intA .i64 l⟩).val=some (.inl ⟨num,cv,0,nv,ws.toNat,cc,0,nc,(nc:Int),((k+1:Nat):Int),s,ws,dp,cc,0,nc,intA .i64 (cmF num cc cv k l)⟩):=by
  have fn:=f.n
  have hki:(k:Int)<(nc:Int):=by omega
  have hkv:(k:Int)<(nv:Int):=by omega
  have h0:(0:Int)≤(k:Int):=by omega
  have h3:IntKind.wrap .i64 ((k:Int)+1)=((k+1:Nat):Int):=by rw [wrap64_id (by omega) (by omega)];omega
  have hr:rdOk cc C4 (0+k*4)=true:=row4 g hk
  unfold C4 at hr
  have hi:=isI gv (show k<nv by omega)
  obtain ⟨e1,e2,e3⟩:=f.e hk
  have e4:(getInt cc (0+k*4+1))<(ws.toNat:Int):=by omega
  have e5:0+(getInt cc (0+k*4+1)).toNat+1≤(intA .i64 l).size:=by rw [intA_size];omega
  have e6:0+(getInt cc (0+k*4+1)).toNat=(getInt cc (0+k*4+1)).toNat:=by omega
  have e7:=intA_set .i64 l (getInt cc (0+k*4+1)).toNat (getInt cv (0+k))
  have e8:=intA_fz .i64 (l.set (getInt cc (0+k*4+1)).toNat (getInt cv (0+k)))
  rw [e6]at e5
  obtain ⟨o,e⟩:=F60_of (num:=num) (nm:=getStr cc (0+k*4)) (w:=getInt cc (0+k*4+1)) (p:=getInt cc (0+k*4+1+1+1)) e1
  unfold cmF
  simp only [rd22_0,RT.val,hki,hkv,h0,h3,hr,hi,o,e,e2,e4,e5,e6,e7,e8,size1,intA_fz,Int.toNat_natCast,Int.ofNat_eq_natCast,Nat.mul_one,decide_true,Bool.and_self,cond_true]
  by_cases hp:Int.tmod num (getInt cc (0+k*4+1+1))=getInt cc (0+k*4+1+1+1)
  · simp only [hp,decide_true,cond_true,if_true]
  · simp only [hp,decide_false,cond_false,if_false]
theorem step23 (f:Fmt s ws dp cc nc)(g:GL C4 4 cc nc)(gv:GL I1 1 cv nv)(hv:nv=nc)(k:Nat)(l:List Int)(hk:k<nc)(hl:l.length=ws.toNat) :
    (rd23_1 ⟨num,cv,0,nv,ws.toNat,(k:Int),s,ws,dp,cc,0,nc,intA .i64 l⟩).val=some (.inl ⟨num,cv,0,nv,ws.toNat,((k+1:Nat):Int),s,ws,dp,cc,0,nc,intA .i64 (cmF num cc cv k l)⟩):=by
  have fn:=f.n
  have hki:(k:Int)<(nc:Int):=by omega
  have hkv:(k:Int)<(nv:Int):=by omega
  have h0:(0:Int)≤(k:Int):=by omega
  have h3:IntKind.wrap .i64 ((k:Int)+1)=((k+1:Nat):Int):=by rw [wrap64_id (by omega) (by omega)];omega
  have hr:rdOk cc C4 (0+k*4)=true:=row4 g hk
  have hr1:isInt .i64 cc (0+k*4+1)=true:=(rd_and (rd_and hr).2).1
  unfold C4 at hr
  have hi:=isI gv (show k<nv by omega)
  obtain ⟨e1,e2,e3⟩:=f.e hk
  have e4:(getInt cc (0+k*4+1))<(ws.toNat:Int):=by omega
  have e5:0+(getInt cc (0+k*4+1)).toNat+1≤(intA .i64 l).size:=by rw [intA_size];omega
  have e6:0+(getInt cc (0+k*4+1)).toNat=(getInt cc (0+k*4+1)).toNat:=by omega
  have e7:=intA_set .i64 l (getInt cc (0+k*4+1)).toNat (getInt cv (0+k))
  have e8:=intA_fz .i64 (l.set (getInt cc (0+k*4+1)).toNat (getInt cv (0+k)))
  rw [e6]at e5
  obtain ⟨o,e⟩:=F63_of (num:=num) (nm:=getStr cc (0+k*4)) (w:=getInt cc (0+k*4+1)) (p:=getInt cc (0+k*4+1+1+1)) e1
  unfold cmF
  simp only [rd23_1,RT.val,hki,hkv,h0,h3,hr,hr1,hi,o,e,e2,e4,e5,e6,e7,e8,size1,intA_fz,Int.toNat_natCast,Int.ofNat_eq_natCast,Nat.mul_one,decide_true,Bool.and_self,cond_true]
  by_cases hp:Int.tmod num (getInt cc (0+k*4+1+1))=getInt cc (0+k*4+1+1+1)
  · simp only [hp,decide_true,cond_true,if_true]
  · simp only [hp,decide_false,cond_false,if_false]
theorem L22_of (f:Fmt s ws dp cc nc)(g:GL C4 4 cc nc)(gv:GL I1 1 cv nv)(hv:nv=nc):L22_0 (X22_0.mk num cv 0 nv ws.toNat cc 0 nc (nc:Int) 0 s ws dp cc 0 nc (intA .i64 (List.replicate ws.toNat 0)))=some (.k0 ws.toNat s ws dp cc 0 nc (intA .i64 (cmA num cc cv nc ws))):=by
  have z1:¬(nc:Int)<(nc:Int):=by omega
  exact loop_iter (σ:=List Int) (rd:=rd22_0) (S:=fun k l=>X22_0.mk num cv 0 nv ws.toNat cc 0 nc (nc:Int) (k:Int) s ws dp cc 0 nc (intA .i64 l)) (f:=cmF num cc cv) (n:=nc) (fin:=fun l=>D22_0.k0 ws.toNat s ws dp cc 0 nc (intA .i64 l)) (I:=fun l=>l.length=ws.toNat)
    (fun k l _ h=>(cmF_len k l).trans h) (fun k l hk h=>step22 f g gv hv k l hk h) (fun l h=>by simp only [rd22_0,RT.val,z1,intA_fz,decide_false,cond_true,cond_false]) nc 0 _ (by omega) (by simp)
theorem L23_of (f:Fmt s ws dp cc nc)(g:GL C4 4 cc nc)(gv:GL I1 1 cv nv)(hv:nv=nc):L23_1 (X23_1.mk num cv 0 nv ws.toNat 0 s ws dp cc 0 nc (intA .i64 (List.replicate ws.toNat 0)))=some (.k0 ws.toNat s ws dp cc 0 nc (intA .i64 (cmA num cc cv nc ws))):=by
  have z1:¬(nc:Int)<(nc:Int):=by omega
  exact loop_iter (σ:=List Int) (rd:=rd23_1) (S:=fun k l=>X23_1.mk num cv 0 nv ws.toNat (k:Int) s ws dp cc 0 nc (intA .i64 l)) (f:=cmF num cc cv) (n:=nc) (fin:=fun l=>D23_1.k0 ws.toNat s ws dp cc 0 nc (intA .i64 l)) (I:=fun l=>l.length=ws.toNat)
    (fun k l _ h=>(cmF_len k l).trans h) (fun k l hk h=>step23 f g gv hv k l hk h) (fun l h=>by simp only [rd23_1,RT.val,z1,intA_fz,Int.ofNat_eq_natCast,decide_false,cond_true,cond_false]) nc 0 _ (by omega) (by simp)
def cmR (r num:Int)(cc cv:Array Value)(nc nv:Nat)(ws:Int):Array Value×Nat×Int :=
  if erF r num cv nv (nc:Int)=0 then (intA .i64 (cmA num cc cv nc ws),ws.toNat,0) else (⟨[]⟩,0,erF r num cv nv (nc:Int))
theorem er_zero {r want:Int}(h:erF r num cv nv want=0):r=0∧(nv:Int)=want∧(fst1 (wdE cv) nv 0).isSome=false∧inB num 0 1000000=true:=by
  unfold erF at h
  by_cases h1:r=0
  case neg=>rw [if_neg h1]at h;exact absurd h h1
  rw [if_pos h1]at h
  by_cases h2:inB num 0 1000000=true
  case neg=>rw [if_neg h2]at h;cases h
  rw [if_pos h2]at h
  by_cases h3:(nv:Int)=want
  case neg=>rw [if_neg h3]at h;cases h
  rw [if_pos h3]at h
  cases h4:(fst1 (wdE cv) nv 0).isSome with
  | true=>rw [h4]at h;cases h
  | false=>exact ⟨h1,h3,rfl,h2⟩
theorem F22_eq (g:GL C4 4 cc nc)(gv:GL I1 1 cv nv):F22 s ws dp cc 0 nc num cv 0 nv=some ⟨(cmR (ckF s ws dp cc nc).2.2 num cc cv nc nv ws).1,0,(cmR (ckF s ws dp cc nc).2.2 num cc cv nc nv ws).2.1,(cmR (ckF s ws dp cc nc).2.2 num cc cv nc nv ws).2.2⟩:=by
  obtain ⟨o,e⟩:=F59_of (s:=s) (ws:=ws) (dp:=dp) (num:=num) (want:=(nc:Int)) g gv
  unfold F22 rt22 cmR
  simp only [RT.val,o,e,Int.ofNat_eq_natCast,cond_true]
  by_cases hz:erF (ckF s ws dp cc nc).2.2 num cv nv (nc:Int)=0
  case neg=>simp only [hz,decide_false,Bool.not_false,cond_true,if_false]
  rw [if_pos hz]
  obtain ⟨z1,z2,_⟩:=er_zero hz
  have f:=fmt_of z1
  have hv:nv=nc:=by omega
  have w1:=f.w1
  have w2:=f.w2
  have e1:(0:Int)≤ws:=by omega
  have e2:ws≤16777216:=by omega
  have e3:ws.toNat*8≤140737488355328:=by omega
  have e4:ws.toNat*1=ws.toNat:=Nat.mul_one _
  have l:=L22_of (num:=num) f g gv hv
  have e5:0+ws.toNat≤(intA .i64 (cmA num cc cv nc ws)).size:=by rw [intA_size,cmA_len];omega
  simp only [hz,e1,e2,e3,e4,intA_row,intA_fz,L22_0_k0,Qu0,Qu7,l,e5,decide_true,Bool.not_true,Bool.and_self,cond_true,cond_false]
theorem F23_eq (g:GL C4 4 cc nc)(gv:GL I1 1 cv nv):F23 s ws dp cc 0 nc num cv 0 nv=some ⟨(cmR (ckF s ws dp cc nc).2.2 num cc cv nc nv ws).1,0,(cmR (ckF s ws dp cc nc).2.2 num cc cv nc nv ws).2.1,(cmR (ckF s ws dp cc nc).2.2 num cc cv nc nv ws).2.2⟩:=by
  obtain ⟨o,e⟩:=F52_of (s:=s) (ws:=ws) (dp:=dp) g
  have e7:¬(7:Int)=0:=by decide
  have e8:¬(2:Int)=0:=by decide
  unfold F23 rt23 cmR
  simp only [RT.val,o,e,(F61_of _).1,(F61_of _).2,Y23_0,Y23_1,Y23_2,Y23_3,Y23_4,Y23_5,L23_0_k0,Qn0,Qn1,Qn2,Qn3,Qn4,Qn5,Qn6,Qn7,Qn8,Qn9,Qn10,L23_0_of gv,Int.ofNat_eq_natCast,cond_true]
  by_cases hr:(ckF s ws dp cc nc).2.2=0
  case neg =>
    have q:erF (ckF s ws dp cc nc).2.2 num cv nv (nc:Int)=(ckF s ws dp cc nc).2.2:=by unfold erF;rw [if_neg hr]
    have q2:wvE (ckF s ws dp cc nc).2.2 cv nv=(ckF s ws dp cc nc).2.2:=by unfold wvE;rw [if_neg hr]
    simp only [q,q2,hr,decide_false,Bool.not_false,cond_true,cond_false,if_false]
  have f:=fmt_of hr
  simp only [hr,decide_true,cond_true]
  unfold erF
  rw [if_pos rfl]
  cases hn:inB num 0 1000000 with
  | false =>
    have q2:wvE 7 cv nv=7:=rfl
    simp only [q2,e7,decide_false,Bool.not_false,Bool.false_eq_true,cond_true,if_false]
  | true =>
  simp only [Bool.not_true,cond_false,if_true]
  by_cases hv:(nv:Int)=(nc:Int)
  case neg =>
    have q2:wvE 2 cv nv=2:=rfl
    simp only [hv,q2,e8,decide_false,Bool.not_false,cond_true,if_false]
  simp only [hv,decide_true,Bool.not_true,cond_false,if_true]
  have hv2:nv=nc:=by omega
  have w1:=f.w1
  have w2:=f.w2
  have e1:(0:Int)≤ws:=by omega
  have e2:ws≤16777216:=by omega
  have e3:ws.toNat*8≤140737488355328:=by omega
  have e4:ws.toNat*1=ws.toNat:=Nat.mul_one _
  have l:=L23_of (num:=num) f g gv hv2
  have e5:0+ws.toNat≤(intA .i64 (cmA num cc cv nc ws)).size:=by rw [intA_size,cmA_len];omega
  unfold wvE
  rw [if_pos rfl]
  cases hw:(fst1 (wdE cv) nv 0).isSome with
  | true=>simp only [e7,decide_false,Bool.not_false,cond_true,if_true,if_false]
  | false =>
    simp only [e1,e2,e3,e4,intA_row,intA_fz,L23_1_k0,Qo0,Qo7,l,e5,Bool.false_eq_true,decide_true,Bool.not_true,Bool.and_self,cond_true,cond_false,if_true,if_false]
end
end
end Go.Proofs.Ytoojllndfjamgaa
namespace Go.Proofs.Ytoojllndfjamgaa
open Go.Gi Go.RowKit Go.Proofs.Ytoojllndfjamgaa.Old
noncomputable section
set_option maxRecDepth 100000
set_option maxHeartbeats 4000000
structure X58_0 where
  v0:Int
  v1:Int
inductive D58_0 where
  | k0 (d0:Int)
def Lp58_0:LoopOf X58_0 D58_0 where
  c:=(theLoop Try.prog 58 0)
  N:=22
  M:=0
  S:=[0,11]
  sl:=fun x=>[(.int .u16 x.v0),(.int .i64 x.v1)]
  hp:=fun x=>[]
  ex:=fun d=>match d with | .k0 ..=>.exit 0
  pick:=fun e=>match e with | .exit 0=>[0] | _=>[]
  dv:=fun d=>match d with | .k0 d0=>[(.int .u16 d0)]
  dh:=fun d=>match d with | .k0 d0=>[]
theorem ok58_0:Lp58_0.Ok:=⟨fun x=>rfl,fun x=>rfl,fun x=>rfl,fun x=>rfl,fun d=>by cases d<;>rfl,fun d=>by cases d<;>rfl,fun d=>by cases d<;>rfl,fun d=>by cases d<;>(intro h;cases h),fun d=>by cases d<;>rfl,fun d=>by cases d<;>rfl⟩
def rd58_0 (x:X58_0):RT (Sum X58_0 D58_0):=match x with
  | ⟨v0,v1⟩ =>
     .br (decide (v1<(8:Int))) (.br (decide ((32768:Int)≤v0)) (.leaf (.inl ⟨(xorI .u16 (IntKind.wrap .u16 (v0*(2:Int))) (4129:Int)),(IntKind.wrap .i64 (v1+(1:Int)))⟩)) (.leaf (.inl ⟨(IntKind.wrap .u16 (v0*(2:Int))),(IntKind.wrap .i64 (v1+(1:Int)))⟩))) (.leaf (.inr (.k0 (v0))))
theorem T58_0  (y:List Value) (v0:Int) (v1:Int):evC Try.prog (Ans.c (fun _=>none:Ans)) 60 (.code none (theLoop Try.prog 58 0) ⟨sets (junkF 22 y) [(0,(.int .u16 v0)),(11,(.int .i64 v1))],[],⟨[],0,[]⟩⟩) (sumK 0 22 Lp58_0.pk)=(rd58_0 ⟨v0,v1⟩).out Lp58_0.enc:=by kernel_rfl
def L58_0 (x:X58_0):Option D58_0:=loopR rd58_0 x
section
variable (x:X58_0)
def L58_0_k0:Bool:=match L58_0 x with | some (.k0 ..)=>true | _=>false
def Qv0:Int:=match L58_0 x with | some (.k0 d)=>d | _=>0
end
def dec58_0:Task→Option (Code×X58_0)
  | .code none (.loop code) ⟨t,[],⟨[],0,[]⟩⟩ =>
    (match Nat.beq (firstReg code) 3,lenIs t 22,lget t 0,lget t 11 with
    | true,true,(.int .u16 v0),(.int .i64 v1)=>some (code,⟨v0,v1⟩)
    | _,_,_,_=>none)
  | _=>none
def alt58_0 (x:X58_0)(j:List Value):AT:=.br (L58_0_k0 x) (loopEnd 22 (.exit 0) [(0,(.int .u16 (Qv0 x)))] ⟨[],0,[]⟩ j) (.no)
def la58_0 (J:Task→List Value):Ans:=loopAns Lp58_0.c dec58_0 alt58_0 J
theorem ha58_0:∀(x:X58_0) (j:List Value)(o:Out),(alt58_0 x j).out=some o→∃d,loopR rd58_0 x=some d∧o=Lp58_0.tail d j:=by
  intro x j o h
  unfold alt58_0 at h
  cases hL:L58_0 x with
  | none=>simp [L58_0_k0,Qv0,hL,AT.out]at h
  | some d =>
    refine ⟨d,hL,?_⟩
    cases d<;>(simp only [L58_0_k0,Qv0,hL,AT.out,loopEnd,cond_true,cond_false,Option.some.injEq]at h;rw [← h];rfl)
theorem hd58_0:∀(t:Task) (c:Code)(x:X58_0),dec58_0 t=some (c,x)→c=Lp58_0.c→∃T,t=.code none (.loop Lp58_0.c) ⟨T,[],⟨Lp58_0.hp x,0,[]⟩⟩∧T.length=Lp58_0.N∧∀kv∈Lp58_0.S.zip (Lp58_0.sl x),lget T kv.1=kv.2:=by
  intro t c x h hc
  unfold dec58_0 at h
  split at h
  case h_2=>cases h
  split at h
  case h_2=>cases h
  simp only [Option.some.injEq,Prod.mk.injEq]at h
  obtain ⟨rfl,rfl⟩:=h
  subst hc
  refine ⟨_,rfl,lenIs_eq _ _ (by assumption),?_⟩
  intro kv hk
  simp only [Lp58_0,List.zip_cons_cons,List.zip_nil_right,List.mem_cons,List.not_mem_nil,or_false]at hk
  rcases hk with rfl | rfl<;>assumption
theorem kl58_0:∃J,Known Try.prog (la58_0 J):=by
  exact LoopOf.known noNG mixed ok58_0 (by decide) (by decide) (Known.nothing Try.prog) (n:=60) (rd:=rd58_0) (fun x j=>T58_0  j x.v0 x.v1) dec58_0 alt58_0 hd58_0 ha58_0
structure R58 where
  r0:Int
structure A58 where
  a0:Int
  a1:Int
def rt58 (a0:Int)(a1:Int):RT R58 :=
  .sw (eqCode (Lp58_0.c) (Lp58_0.c)) true (by simp only [eqCode_self,arrEq_self]) (.br (L58_0_k0 (X58_0.mk (xorI .u16 a0 (IntKind.wrap .u16 ((IntKind.wrap .u16 a1)*(256:Int)))) (0:Int))) (.leaf ⟨(Qv0 (X58_0.mk (xorI .u16 a0 (IntKind.wrap .u16 ((IntKind.wrap .u16 a1)*(256:Int)))) (0:Int)))⟩) (.no)) (.no)
def en58 (r:R58):Value:=(.int .u16 r.r0)
theorem T58 (J0:Task→List Value)(a0:Int)(a1:Int):evC Try.prog (Ans.c (la58_0 J0)) 60 (.call 58 ⟨[(.int .u16 a0),(.int .u8 a1)]⟩ ⟨[],0,[]⟩) (frzK [0])=(rt58 a0 a1).out (fun r=>.ret (en58 r) ⟨[],0,[]⟩):=by kernel_rfl
def F58 (a0:Int)(a1:Int):Option R58:=(rt58 a0 a1).val
section
variable (a0:Int) (a1:Int)
def F58_ok:Bool:=(F58 a0 a1).isSome
def F58_0:Int:=match F58 a0 a1 with | some r=>r.r0 | none=>0
end
def dec58:Task→Option (A58×Hp)
  | .call g ⟨[(.int .u16 a0),(.int .u8 a1)]⟩ h=>(match Nat.beq g 58 with | true=>some (⟨a0,a1⟩,h) | false=>none)
  | _=>none
def alt58 (x:A58)(h:Hp):AT:=.br (F58_ok x.a0 x.a1) (.leaf (.ret (.int .u16 (F58_0 x.a0 x.a1)) h)) .no
def p58:Ans:=fnAns dec58 alt58
theorem ha58:∀(x:A58) (h:Hp)(o:Out),(alt58 x h).out=some o→∃r,(rt58 x.a0 x.a1).val=some r∧o=.ret (en58 r) h:=by
  intro x h o e
  unfold alt58 at e
  simp only [AT.out]at e
  obtain ⟨g,e⟩:=cond_some e
  unfold F58_ok at g
  obtain ⟨r,hF⟩:=Option.isSome_iff_exists.1 g
  have hv:F58 x.a0 x.a1=(rt58 x.a0 x.a1).val:=by delta F58;exact rfl
  refine ⟨r,hv.symm.trans hF,?_⟩
  simp only [Option.some.injEq]at e
  rw [← e]
  have k0:F58_0 x.a0 x.a1=r.r0:=by
    show (match F58 x.a0 x.a1 with | some r=>r.r0 | none=>0)=r.r0
    rw [hF]
  rw [k0]<;>rfl
theorem hd58:∀(t:Task) (x:A58)(h:Hp),dec58 t=some (x,h)→t=.call 58 ⟨[(.int .u16 x.a0),(.int .u8 x.a1)]⟩ h:=by
  intro t x h e
  unfold dec58 at e
  split at e
  case h_2=>cases e
  split at e
  case h_2=>cases e
  rename_i hg
  simp only [Option.some.injEq,Prod.mk.injEq]at e
  obtain ⟨rfl,rfl⟩:=e
  rw [Nat.eq_of_beq_eq_true hg]
theorem known58:Known Try.prog p58:=by
  obtain ⟨J0,hJ0⟩:=kl58_0
  exact Known.fn noNG mixed hJ0 (n:=60) (zs:=[0]) 58 (fun x:A58=>[(.int .u16 x.a0),(.int .u8 x.a1)]) (fun x=>rt58 x.a0 x.a1) en58 (fun x=>T58 J0 x.a0 x.a1) (fun x=>rfl) dec58 alt58 hd58 ha58
structure X20_0 where
  v0:Int
  v1:Array Value
  v2:Nat
  v3:Nat
  v4:Int
  v5:Int
inductive D20_0 where
  | k0 (d0:Int)
def Lp20_0:LoopOf X20_0 D20_0 where
  c:=(theLoop Try.prog 20 0)
  N:=18
  M:=0
  S:=[3,6,7,8]
  sl:=fun x=>[(.int .u16 x.v0),(lstV x.v1 x.v2 x.v3 1),(.int .i64 x.v4),(.int .i64 x.v5)]
  hp:=fun x=>[]
  ex:=fun d=>match d with | .k0 ..=>.exit 0
  pick:=fun e=>match e with | .exit 0=>[3] | _=>[]
  dv:=fun d=>match d with | .k0 d0=>[(.int .u16 d0)]
  dh:=fun d=>match d with | .k0 d0=>[]
theorem ok20_0:Lp20_0.Ok:=⟨fun x=>rfl,fun x=>rfl,fun x=>rfl,fun x=>rfl,fun d=>by cases d<;>rfl,fun d=>by cases d<;>rfl,fun d=>by cases d<;>rfl,fun d=>by cases d<;>(intro h;cases h),fun d=>by cases d<;>rfl,fun d=>by cases d<;>rfl⟩
def rd20_0 (x:X20_0):RT (Sum X20_0 D20_0):=match x with
  | ⟨v0,v1,v2,v3,v4,v5⟩ =>
     .br (decide (v5<v4)) (.br (and (decide ((0:Int)≤v5)) (decide (v5<(Int.ofNat v3)))) (.br (isInt .u8 v1 (v2+((Int.toNat v5)*1))) (.br (F58_ok v0 (getInt v1 (v2+((Int.toNat v5)*1)))) (.leaf (.inl ⟨(F58_0 v0 (getInt v1 (v2+((Int.toNat v5)*1)))),v1,v2,v3,v4,(IntKind.wrap .i64 (v5+(1:Int)))⟩)) (.no)) (.no)) (.no)) (.leaf (.inr (.k0 (v0))))
theorem T20_0  (y:List Value) (v0:Int) (v1:Array Value) (v2:Nat) (v3:Nat) (v4:Int) (v5:Int):evC Try.prog (Ans.c p58) 60 (.code none (theLoop Try.prog 20 0) ⟨sets (junkF 18 y) [(3,(.int .u16 v0)),(6,(lstV v1 v2 v3 1)),(7,(.int .i64 v4)),(8,(.int .i64 v5))],[],⟨[],0,[]⟩⟩) (sumK 0 18 Lp20_0.pk)=(rd20_0 ⟨v0,v1,v2,v3,v4,v5⟩).out Lp20_0.enc:=by kernel_rfl
def L20_0 (x:X20_0):Option D20_0:=loopR rd20_0 x
section
variable (x:X20_0)
def L20_0_k0:Bool:=match L20_0 x with | some (.k0 ..)=>true | _=>false
def Qw0:Int:=match L20_0 x with | some (.k0 d)=>d | _=>0
end
def dec20_0:Task→Option (Code×X20_0)
  | .code none (.loop code) ⟨t,[],⟨[],0,[]⟩⟩ =>
    (match Nat.beq (firstReg code) 3,lenIs t 18,lget t 3,lget t 6,lget t 7,lget t 8 with
    | true,true,(.int .u16 v0),(.func (.via 0 ⟨[]⟩ 0 true) v1 ⟨[.slice (some ⟨0,v2,none⟩) v3 1]⟩),(.int .i64 v4),(.int .i64 v5)=>some (code,⟨v0,v1,v2,v3,v4,v5⟩)
    | _,_,_,_,_,_=>none)
  | _=>none
def alt20_0 (x:X20_0)(j:List Value):AT:=.br (L20_0_k0 x) (loopEnd 18 (.exit 0) [(3,(.int .u16 (Qw0 x)))] ⟨[],0,[]⟩ j) (.no)
def la20_0 (J:Task→List Value):Ans:=loopAns Lp20_0.c dec20_0 alt20_0 J
theorem ha20_0:∀(x:X20_0) (j:List Value)(o:Out),(alt20_0 x j).out=some o→∃d,loopR rd20_0 x=some d∧o=Lp20_0.tail d j:=by
  intro x j o h
  unfold alt20_0 at h
  cases hL:L20_0 x with
  | none=>simp [L20_0_k0,Qw0,hL,AT.out]at h
  | some d =>
    refine ⟨d,hL,?_⟩
    cases d<;>(simp only [L20_0_k0,Qw0,hL,AT.out,loopEnd,cond_true,cond_false,Option.some.injEq]at h;rw [← h];rfl)
theorem hd20_0:∀(t:Task) (c:Code)(x:X20_0),dec20_0 t=some (c,x)→c=Lp20_0.c→∃T,t=.code none (.loop Lp20_0.c) ⟨T,[],⟨Lp20_0.hp x,0,[]⟩⟩∧T.length=Lp20_0.N∧∀kv∈Lp20_0.S.zip (Lp20_0.sl x),lget T kv.1=kv.2:=by
  intro t c x h hc
  unfold dec20_0 at h
  split at h
  case h_2=>cases h
  split at h
  case h_2=>cases h
  simp only [Option.some.injEq,Prod.mk.injEq]at h
  obtain ⟨rfl,rfl⟩:=h
  subst hc
  refine ⟨_,rfl,lenIs_eq _ _ (by assumption),?_⟩
  intro kv hk
  simp only [Lp20_0,List.zip_cons_cons,List.zip_nil_right,List.mem_cons,List.not_mem_nil,or_false]at hk
  rcases hk with rfl | rfl | rfl | rfl<;>assumption
theorem kl20_0:∃J,Known Try.prog (la20_0 J):=by
  exact LoopOf.known noNG mixed ok20_0 (by decide) (by decide) known58 (n:=60) (rd:=rd20_0) (fun x j=>T20_0  j x.v0 x.v1 x.v2 x.v3 x.v4 x.v5) dec20_0 alt20_0 hd20_0 ha20_0
structure R20 where
  r0:Int
structure A20 where
  a0:Array Value
  a1:Nat
  a2:Nat
def rt20 (a0:Array Value)(a1:Nat)(a2:Nat):RT R20 :=
  .sw (eqCode (Lp20_0.c) (Lp20_0.c)) true (by simp only [eqCode_self,arrEq_self]) (.br (L20_0_k0 (X20_0.mk (65535:Int) a0 a1 a2 (Int.ofNat a2) (0:Int))) (.leaf ⟨(IntKind.wrap .i64 (Qw0 (X20_0.mk (65535:Int) a0 a1 a2 (Int.ofNat a2) (0:Int))))⟩) (.no)) (.no)
def en20 (r:R20):Value:=(.int .i64 r.r0)
theorem T20 (J0:Task→List Value)(a0:Array Value)(a1:Nat)(a2:Nat):evC Try.prog (Ans.c (p58.or (la20_0 J0))) 60 (.call 20 ⟨[(lstV a0 a1 a2 1)]⟩ ⟨[],0,[]⟩) (frzK [0])=(rt20 a0 a1 a2).out (fun r=>.ret (en20 r) ⟨[],0,[]⟩):=by kernel_rfl
def F20 (a0:Array Value)(a1:Nat)(a2:Nat):Option R20:=(rt20 a0 a1 a2).val
section
variable (a0:Array Value) (a1:Nat) (a2:Nat)
def F20_ok:Bool:=(F20 a0 a1 a2).isSome
def F20_0:Int:=match F20 a0 a1 a2 with | some r=>r.r0 | none=>0
end
def dec20:Task→Option (A20×Hp)
  | .call g ⟨[(.func (.via 0 ⟨[]⟩ 0 true) a0 ⟨[.slice (some ⟨0,a1,none⟩) a2 1]⟩)]⟩ h=>(match Nat.beq g 20 with | true=>some (⟨a0,a1,a2⟩,h) | false=>none)
  | _=>none
def alt20 (x:A20)(h:Hp):AT:=.br (F20_ok x.a0 x.a1 x.a2) (.leaf (.ret (.int .i64 (F20_0 x.a0 x.a1 x.a2)) h)) .no
def p20:Ans:=fnAns dec20 alt20
theorem ha20:∀(x:A20) (h:Hp)(o:Out),(alt20 x h).out=some o→∃r,(rt20 x.a0 x.a1 x.a2).val=some r∧o=.ret (en20 r) h:=by
  intro x h o e
  unfold alt20 at e
  simp only [AT.out]at e
  obtain ⟨g,e⟩:=cond_some e
  unfold F20_ok at g
  obtain ⟨r,hF⟩:=Option.isSome_iff_exists.1 g
  have hv:F20 x.a0 x.a1 x.a2=(rt20 x.a0 x.a1 x.a2).val:=by delta F20;exact rfl
  refine ⟨r,hv.symm.trans hF,?_⟩
  simp only [Option.some.injEq]at e
  rw [← e]
  have k0:F20_0 x.a0 x.a1 x.a2=r.r0:=by
    show (match F20 x.a0 x.a1 x.a2 with | some r=>r.r0 | none=>0)=r.r0
    rw [hF]
  rw [k0]<;>rfl
theorem hd20:∀(t:Task) (x:A20)(h:Hp),dec20 t=some (x,h)→t=.call 20 ⟨[(lstV x.a0 x.a1 x.a2 1)]⟩ h:=by
  intro t x h e
  unfold dec20 at e
  split at e
  case h_2=>cases e
  split at e
  case h_2=>cases e
  rename_i hg
  simp only [Option.some.injEq,Prod.mk.injEq]at e
  obtain ⟨rfl,rfl⟩:=e
  rw [Nat.eq_of_beq_eq_true hg]
theorem known20:Known Try.prog p20:=by
  obtain ⟨J0,hJ0⟩:=kl20_0
  exact Known.fn noNG mixed (Known.or known58 hJ0) (n:=60) (zs:=[0]) 20 (fun x:A20=>[(lstV x.a0 x.a1 x.a2 1)]) (fun x=>rt20 x.a0 x.a1 x.a2) en20 (fun x=>T20 J0 x.a0 x.a1 x.a2) (fun x=>rfl) dec20 alt20 hd20 ha20
end
end Go.Proofs.Ytoojllndfjamgaa
namespace Go.Proofs.Ytoojllndfjamgaa
open Go.Gi Go.RowKit
noncomputable section
set_option maxRecDepth 100000
set_option maxHeartbeats 1000000
def dbl (s:Nat):Nat:=if 32768≤s then (2*s % 65536) ^^^ 4129 else 2*s % 65536
theorem dbl_lt (s:Nat):dbl s<65536:=by
  unfold dbl
  split
  · exact Nat.xor_lt_two_pow (n:=16) (Nat.mod_lt _ (by decide)) (by decide)
  · exact Nat.mod_lt _ (by decide)
def wth (s b:Nat):Nat:=iterN (fun _=>dbl) 8 0 (s ^^^ (b*256))
theorem wth_lt {s b:Nat}(hs:s<65536) (hb:b<256):wth s b<65536 :=
  iterN_inv (n:=8) (I:=fun s=>s<65536) (fun _ s _ _=>dbl_lt s) 8 0 _ rfl (Nat.xor_lt_two_pow (n:=16) hs (show b*256<2 ^ 16 by omega))
def crc (c:Array Value)(o n:Nat):Nat:=iterN (fun k s=>wth s (byt c (o+k))) n 0 65535
theorem wrapU16_nat (m:Nat):IntKind.wrap .u16 (m:Int)=((m % 65536:Nat):Int):=by
  simp only [IntKind.wrap,IntKind.bits,IntKind.signed,Bool.false_and,Bool.false_eq_true,if_false]
  omega
theorem F58_of {s b:Nat}(hs:s<65536) (hb:b<256):F58_ok (s:Int) (b:Int)=true∧F58_0 (s:Int) (b:Int)=(wth s b:Int):=by
  have h0:s ^^^ (b*256)<65536:=Nat.xor_lt_two_pow (n:=16) hs (show b*256<2 ^ 16 by omega)
  have e1:xorI .u16 (s:Int) (IntKind.wrap .u16 ((IntKind.wrap .u16 (b:Int))*(256:Int)))=((s ^^^ (b*256):Nat):Int):=by
    rw [wrapU16 b (by omega),show (b:Int)*256=((b*256:Nat):Int) by omega,wrapU16 _ (by omega)]
    exact xorU16 _ _ hs (by omega)
  have l:L58_0 (X58_0.mk ((s ^^^ (b*256):Nat):Int) 0)=some (.k0 (wth s b:Int)) :=
    loop_iter (σ:=Nat) (rd:=rd58_0) (S:=fun k s=>X58_0.mk (s:Int) (k:Int)) (f:=fun _=>dbl) (n:=8) (fin:=fun s=>.k0 (s:Int)) (I:=fun s=>s<65536) (fun _ s _ _=>dbl_lt s)
      (fun k s hk h=>by
        have h1:(k:Int)<8:=by omega
        have h3:IntKind.wrap .i64 ((k:Int)+1)=((k+1:Nat):Int):=by rw [wrap64_id (by omega) (by omega)];omega
        have h4:IntKind.wrap .u16 ((s:Int)*2)=((2*s % 65536:Nat):Int):=by rw [show (s:Int)*2=((2*s:Nat):Int) by omega];exact wrapU16_nat _
        have h5:2*s % 65536<65536:=Nat.mod_lt _ (by decide)
        have h6:xorI .u16 ((2*s % 65536:Nat):Int) 4129=(((2*s % 65536) ^^^ 4129:Nat):Int):=xorU16 _ 4129 h5 (by decide)
        unfold dbl
        by_cases hs:32768≤s
        · have i1:(32768:Int)≤(s:Int):=by omega
          simp only [rd58_0,RT.val,h1,h3,h4,i1,h6,hs,if_true,decide_true,cond_true]
        · have i1:¬(32768:Int)≤(s:Int):=by omega
          simp only [rd58_0,RT.val,h1,h3,h4,i1,hs,if_false,decide_true,decide_false,cond_true,cond_false])
      (fun s h=>by
        have h1:¬((8:Nat):Int)<8:=by omega
        simp only [rd58_0,RT.val,h1,decide_false,cond_false]) 8 0 (s ^^^ (b*256)) rfl h0
  have q:F58 (s:Int) (b:Int)=some ⟨(wth s b:Int)⟩:=by
    unfold F58 rt58
    simp only [RT.val,e1,L58_0_k0,Qv0,l,cond_true]
  exact ⟨by simp only [F58_ok,q];rfl,by simp only [F58_0,q]⟩
section
variable {c:Array Value}{n:Nat}
theorem F20_of (g:BL c n):F20 c 0 n=some ⟨(crc c 0 n:Int)⟩:=by
  have few:=g.few
  unfold maxLen at few
  have l:L20_0 (X20_0.mk 65535 c 0 n (n:Int) 0)=some (.k0 (crc c 0 n:Int)) :=
    loop_iter (σ:=Nat) (rd:=rd20_0) (S:=fun k s=>X20_0.mk (s:Int) c 0 n (n:Int) (k:Int)) (f:=fun k s=>wth s (byt c (0+k))) (n:=n) (fin:=fun s=>.k0 (s:Int)) (I:=fun s=>s<65536)
      (fun k s hk h=>wth_lt h (by rw [Nat.zero_add];exact g.lt hk))
      (fun k s hk h=>by
        have h0:(0:Int)≤(k:Int):=by omega
        have h1:(k:Int)<(n:Int):=by omega
        have h3:IntKind.wrap .i64 ((k:Int)+1)=((k+1:Nat):Int):=by rw [wrap64_id (by omega) (by omega)];omega
        have h4:=g.isu k hk
        have h5:=g.eq hk
        obtain ⟨o,e⟩:=F58_of (s:=s) (b:=byt c k) h (g.lt hk)
        simp only [rd20_0,RT.val,h0,h1,h3,h4,h5,o,e,Int.toNat_natCast,Int.ofNat_eq_natCast,Nat.zero_add,Nat.mul_one,decide_true,Bool.and_self,cond_true])
      (fun s h=>by
        have h1:¬(n:Int)<(n:Int):=by omega
        simp only [rd20_0,RT.val,h1,decide_false,cond_false]) n 0 65535 (Nat.zero_add n) (by decide)
  have hc:crc c 0 n<65536:=iterN_inv (n:=n) (I:=fun s=>s<65536) (fun k s hk h=>wth_lt h (by rw [Nat.zero_add];exact g.lt hk)) n 0 _ (by omega) (by decide)
  unfold F20 rt20
  simp only [RT.val,L20_0_k0,Qw0,l,cond_true,Int.ofNat_eq_natCast]
  rw [wrapI64 _ (by omega)]
theorem F21_of (g:BL c n):F21 c 0 n=some ⟨(crc c 0 n:Int)⟩:=by
  have few:=g.few
  unfold maxLen at few
  have inner:∀(j s:Nat),s<65536→L21_1 (X21_1.mk c 0 n (s:Int) (j:Int) 0)=some (.k0 c 0 n ((iterN (fun _=>dbl) 8 0 s:Nat):Int) (j:Int)):=by
    intro j s hs
    exact loop_iter (σ:=Nat) (rd:=rd21_1) (S:=fun k s=>X21_1.mk c 0 n (s:Int) (j:Int) (k:Int)) (f:=fun _=>dbl) (n:=8) (fin:=fun s=>D21_1.k0 c 0 n (s:Int) (j:Int)) (I:=fun s=>s<65536) (fun _ s _ _=>dbl_lt s)
      (fun k s hk h=>by
        have h1:(k:Int)<8:=by omega
        have h3:IntKind.wrap .i64 ((k:Int)+1)=((k+1:Nat):Int):=by rw [wrap64_id (by omega) (by omega)];omega
        have h4:Int.tmod (IntKind.wrap .i64 ((2:Int)*(s:Int))) 65536=((2*s % 65536:Nat):Int):=by
          rw [wrap64_id (by omega) (by omega),Int.tmod_eq_emod_of_nonneg (by omega)];omega
        have h5:2*s % 65536<65536:=Nat.mod_lt _ (by decide)
        have h6:xorI .i64 ((2*s % 65536:Nat):Int) 4129=(((2*s % 65536) ^^^ 4129:Nat):Int):=xorI64 _ 4129 (by omega) (by decide)
        unfold dbl
        by_cases hs:32768≤s
        · have i1:(32768:Int)≤(s:Int):=by omega
          simp only [rd21_1,RT.val,h1,h3,h4,i1,h6,hs,if_true,decide_true,cond_true]
        · have i1:¬(32768:Int)≤(s:Int):=by omega
          simp only [rd21_1,RT.val,h1,h3,h4,i1,hs,if_false,decide_true,decide_false,cond_true,cond_false])
      (fun s h=>by
        have h1:¬((8:Nat):Int)<8:=by omega
        simp only [rd21_1,RT.val,h1,decide_false,cond_false]) 8 0 s rfl hs
  have l:L21_0 (X21_0.mk c 0 n 65535 0)=some (.k0 (crc c 0 n:Int)) :=
    loop_iter (σ:=Nat) (rd:=rd21_0) (S:=fun k s=>X21_0.mk c 0 n (s:Int) (k:Int)) (f:=fun k s=>wth s (byt c (0+k))) (n:=n) (fin:=fun s=>.k0 (s:Int)) (I:=fun s=>s<65536)
      (fun k s hk h=>wth_lt h (by rw [Nat.zero_add];exact g.lt hk))
      (fun k s hk h=>by
        have h0:(0:Int)≤(k:Int):=by omega
        have h1:(k:Int)<(n:Int):=by omega
        have h3:IntKind.wrap .i64 ((k:Int)+1)=((k+1:Nat):Int):=by rw [wrap64_id (by omega) (by omega)];omega
        have h4:=g.isu k hk
        have h5:=g.eq hk
        have hb:=g.lt hk
        have hx:s ^^^ (byt c k*256)<65536:=Nat.xor_lt_two_pow (n:=16) h (show byt c k*256<2 ^ 16 by omega)
        have e1:xorI .i64 (s:Int) (IntKind.wrap .i64 ((IntKind.wrap .i64 (byt c k:Int))*(256:Int)))=((s ^^^ (byt c k*256):Nat):Int):=by
          rw [wrapI64 _ (by omega),show (byt c k:Int)*256=((byt c k*256:Nat):Int) by omega,wrapI64 _ (by omega)]
          exact xorI64 _ _ (by omega) (by omega)
        have li:=inner k _ hx
        simp only [rd21_0,RT.val,h0,h1,h4,h5,e1,L21_1_k0,Qp0,Qp1,Qp2,Qp3,Qp4,li,h3,Int.toNat_natCast,Int.ofNat_eq_natCast,Nat.zero_add,Nat.mul_one,decide_true,Bool.and_self,cond_true]
        rfl)
      (fun s h=>by
        have h1:¬(n:Int)<(n:Int):=by omega
        simp only [rd21_0,RT.val,h1,Int.ofNat_eq_natCast,decide_false,cond_false]) n 0 65535 (Nat.zero_add n) (by decide)
  unfold F21 rt21
  simp only [RT.val,L21_0_k0,Qq0,l,cond_true,Int.ofNat_eq_natCast]
end
end
end Go.Proofs.Ytoojllndfjamgaa
