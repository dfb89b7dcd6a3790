/- Part 9 of the texts below the claim. Conditions: none. -/
import Derived.Test.YtoojllndfjamgaaMg7
import Derived.Test.YtoojllndfjamgaaMg8
set_option linter.unusedVariables false
set_option linter.unusedSimpArgs false
namespace Go.Proofs.Ytoojllndfjamgaa
open Go.Gi Go.RowKit Go.Proofs.Ytoojllndfjamgaa.Old
noncomputable section
set_option maxRecDepth 100000
set_option maxHeartbeats 4000000
structure X15_0 where
  v0:Array Value
  v1:Nat
  v2:Nat
  v3:Int
  v4:Int
  v5:ByteArray
  v6:Int
  v7:Int
  v8:Array Value
  v9:Nat
  v10:Nat
  v11:Int
  v12:Int
  v13:Int
  v14:Int
  v15:Int
inductive D15_0 where
  | k0 (d0:Int) (d1:Int) (d2:Int) (d3:ByteArray) (d4:Int) (d5:Int) (d6:Array Value) (d7:Nat) (d8:Nat) (d9:Int) (d10:Int) (d11:Int) (d12:Int) (d13:Int)
  | k1 (d0:ByteArray) (d1:Int) (d2:Int) (d3:Array Value) (d4:Nat) (d5:Nat) (d6:Int) (d7:Int) (d8:Int) (d9:Int) (d10:Int)
def Lp15_0:LoopOf X15_0 D15_0 where
  c:=(theLoop Try.prog 15 0)
  N:=48
  M:=2
  S:=[1,29,30,31]
  sl:=fun x=>[(Value.pointer (Option.some (Addr.mk 0 0 Option.none))),(lstV x.v0 x.v1 x.v2 4),(.int .i64 x.v3),(.int .i64 x.v4)]
  hp:=fun x=>[.cells ⟨[(.string x.v5),(.int .i64 x.v6),(.int .i64 x.v7),(lstV x.v8 x.v9 x.v10 4)]⟩ false,.cells ⟨[(.int .i64 x.v11),(.int .i64 x.v12),(.int .i64 x.v13),(.int .i64 x.v14),(.int .i64 x.v15)]⟩ false]
  ex:=fun d=>match d with | .k0 ..=>.ret | .k1 ..=>.exit 1
  pick:=fun e=>match e with | .ret=>[2,3,4] | .exit 1=>[] | _=>[]
  dv:=fun d=>match d with | .k0 d0 d1 d2 d3 d4 d5 d6 d7 d8 d9 d10 d11 d12 d13=>[(.int .i64 d0),(.int .i64 d1),(.int .i64 d2)] | .k1 d0 d1 d2 d3 d4 d5 d6 d7 d8 d9 d10=>[]
  dh:=fun d=>match d with | .k0 d0 d1 d2 d3 d4 d5 d6 d7 d8 d9 d10 d11 d12 d13=>[.cells ⟨[(.string d3),(.int .i64 d4),(.int .i64 d5),(lstV d6 d7 d8 4)]⟩ false,.cells ⟨[(.int .i64 d9),(.int .i64 d10),(.int .i64 d11),(.int .i64 d12),(.int .i64 d13)]⟩ false] | .k1 d0 d1 d2 d3 d4 d5 d6 d7 d8 d9 d10=>[.cells ⟨[(.string d0),(.int .i64 d1),(.int .i64 d2),(lstV d3 d4 d5 4)]⟩ false,.cells ⟨[(.int .i64 d6),(.int .i64 d7),(.int .i64 d8),(.int .i64 d9),(.int .i64 d10)]⟩ false]
theorem ok15_0:Lp15_0.Ok:=⟨fun x=>rfl,fun x=>rfl,fun x=>rfl,fun x=>rfl,fun d=>by cases d<;>rfl,fun d=>by cases d<;>rfl,fun d=>by cases d<;>rfl,fun d=>by cases d<;>(intro h;cases h),fun d=>by cases d<;>rfl,fun d=>by cases d<;>rfl⟩
def rd15_0 (x:X15_0):RT (Sum X15_0 D15_0):=match x with
  | ⟨v0,v1,v2,v3,v4,v5,v6,v7,v8,v9,v10,v11,v12,v13,v14,v15⟩ =>
     .br (decide (v4<v3)) (.br (and (decide ((0:Int)≤v4)) (decide (v4<(Int.ofNat v2)))) (.br (rdOk v0 [Leaf.str,(Leaf.int .i64),(Leaf.int .i64),(Leaf.int .i64)] (v1+((Int.toNat v4)*4))) (.br (and true (and (decide ((0:Int)≤v4)) (and (decide (0≤(Int.toNat v4))) (decide ((Int.toNat v4)≤v10))))) (.br (F44_ok v5 v6 v7 (v8) v9 v10 (getStr v0 (v1+((Int.toNat v4)*4))) (getInt v0 ((v1+((Int.toNat v4)*4))+1)) (getInt v0 (((v1+((Int.toNat v4)*4))+1)+1)) (getInt v0 ((((v1+((Int.toNat v4)*4))+1)+1)+1)) (v8) (v9+0) ((Int.toNat v4)-0))
     (.br (not (decide ((F44_0 v5 v6 v7 (v8) v9 v10 (getStr v0 (v1+((Int.toNat v4)*4))) (getInt v0 ((v1+((Int.toNat v4)*4))+1)) (getInt v0 (((v1+((Int.toNat v4)*4))+1)+1)) (getInt v0 ((((v1+((Int.toNat v4)*4))+1)+1)+1)) (v8) (v9+0) ((Int.toNat v4)-0))=(0:Int)))) (.leaf (.inr (.k0 ((2:Int)) (v4) ((F44_0 v5 v6 v7 (v8) v9 v10 (getStr v0 (v1+((Int.toNat v4)*4))) (getInt v0 ((v1+((Int.toNat v4)*4))+1)) (getInt v0 (((v1+((Int.toNat v4)*4))+1)+1)) (getInt v0 ((((v1+((Int.toNat v4)*4))+1)+1)+1)) (v8) (v9+0) ((Int.toNat v4)-0))) (v5) (v6) (v7) (v8) (v9) (v10) (v11) (v12) (v13) (v14) (v15)))) (.leaf (.inl ⟨v0,v1,v2,v3,(IntKind.wrap .i64 (v4+(1:Int))),v5,v6,v7,v8,v9,v10,v11,v12,v13,v14,v15⟩))) (.no)) (.no)) (.no)) (.no)) (.leaf (.inr (.k1 (v5) (v6) (v7) (v8) (v9) (v10) (v11) (v12) (v13) (v14) (v15))))
theorem T15_0  (y:List Value) (v0:Array Value) (v1:Nat) (v2:Nat) (v3:Int) (v4:Int) (v5:ByteArray) (v6:Int) (v7:Int) (v8:Array Value) (v9:Nat) (v10:Nat) (v11:Int) (v12:Int) (v13:Int) (v14:Int) (v15:Int):evC Try.prog (Ans.c (p42.or (p43.or p44))) 60 (.code none (theLoop Try.prog 15 0) ⟨sets (junkF 48 y) [(1,(Value.pointer (Option.some (Addr.mk 0 0 Option.none)))),(29,(lstV v0 v1 v2 4)),(30,(.int .i64 v3)),(31,(.int .i64 v4))],[],⟨[.cells ⟨[(.string v5),(.int .i64 v6),(.int .i64 v7),(lstV v8 v9 v10 4)]⟩ false,.cells ⟨[(.int .i64 v11),(.int .i64 v12),(.int .i64 v13),(.int .i64 v14),(.int .i64 v15)]⟩ false],0,[]⟩⟩) (sumK 2 48 Lp15_0.pk)=(rd15_0 ⟨v0,v1,v2,v3,v4,v5,v6,v7,v8,v9,v10,v11,v12,v13,v14,v15⟩).out Lp15_0.enc:=by kernel_rfl
def L15_0 (x:X15_0):Option D15_0:=loopR rd15_0 x
section
variable (x:X15_0)
def L15_0_k0:Bool:=match L15_0 x with | some (.k0 ..)=>true | _=>false
def Qd0:Int:=match L15_0 x with | some (.k0 d _ _ _ _ _ _ _ _ _ _ _ _ _)=>d | _=>0
def Qd1:Int:=match L15_0 x with | some (.k0 _ d _ _ _ _ _ _ _ _ _ _ _ _)=>d | _=>0
def Qd2:Int:=match L15_0 x with | some (.k0 _ _ d _ _ _ _ _ _ _ _ _ _ _)=>d | _=>0
def Qd3:ByteArray:=match L15_0 x with | some (.k0 _ _ _ d _ _ _ _ _ _ _ _ _ _)=>d | _=>ByteArray.empty
def Qd4:Int:=match L15_0 x with | some (.k0 _ _ _ _ d _ _ _ _ _ _ _ _ _)=>d | _=>0
def Qd5:Int:=match L15_0 x with | some (.k0 _ _ _ _ _ d _ _ _ _ _ _ _ _)=>d | _=>0
def Qd6:Array Value:=match L15_0 x with | some (.k0 _ _ _ _ _ _ d _ _ _ _ _ _ _)=>d | _=>#[]
def Qd7:Nat:=match L15_0 x with | some (.k0 _ _ _ _ _ _ _ d _ _ _ _ _ _)=>d | _=>0
def Qd8:Nat:=match L15_0 x with | some (.k0 _ _ _ _ _ _ _ _ d _ _ _ _ _)=>d | _=>0
def Qd9:Int:=match L15_0 x with | some (.k0 _ _ _ _ _ _ _ _ _ d _ _ _ _)=>d | _=>0
def Qd10:Int:=match L15_0 x with | some (.k0 _ _ _ _ _ _ _ _ _ _ d _ _ _)=>d | _=>0
def Qd11:Int:=match L15_0 x with | some (.k0 _ _ _ _ _ _ _ _ _ _ _ d _ _)=>d | _=>0
def Qd12:Int:=match L15_0 x with | some (.k0 _ _ _ _ _ _ _ _ _ _ _ _ d _)=>d | _=>0
def Qd13:Int:=match L15_0 x with | some (.k0 _ _ _ _ _ _ _ _ _ _ _ _ _ d)=>d | _=>0
def L15_0_k1:Bool:=match L15_0 x with | some (.k1 ..)=>true | _=>false
def Qe0:ByteArray:=match L15_0 x with | some (.k1 d _ _ _ _ _ _ _ _ _ _)=>d | _=>ByteArray.empty
def Qe1:Int:=match L15_0 x with | some (.k1 _ d _ _ _ _ _ _ _ _ _)=>d | _=>0
def Qe2:Int:=match L15_0 x with | some (.k1 _ _ d _ _ _ _ _ _ _ _)=>d | _=>0
def Qe3:Array Value:=match L15_0 x with | some (.k1 _ _ _ d _ _ _ _ _ _ _)=>d | _=>#[]
def Qe4:Nat:=match L15_0 x with | some (.k1 _ _ _ _ d _ _ _ _ _ _)=>d | _=>0
def Qe5:Nat:=match L15_0 x with | some (.k1 _ _ _ _ _ d _ _ _ _ _)=>d | _=>0
def Qe6:Int:=match L15_0 x with | some (.k1 _ _ _ _ _ _ d _ _ _ _)=>d | _=>0
def Qe7:Int:=match L15_0 x with | some (.k1 _ _ _ _ _ _ _ d _ _ _)=>d | _=>0
def Qe8:Int:=match L15_0 x with | some (.k1 _ _ _ _ _ _ _ _ d _ _)=>d | _=>0
def Qe9:Int:=match L15_0 x with | some (.k1 _ _ _ _ _ _ _ _ _ d _)=>d | _=>0
def Qe10:Int:=match L15_0 x with | some (.k1 _ _ _ _ _ _ _ _ _ _ d)=>d | _=>0
end
def dec15_0:Task→Option (Code×X15_0)
  | .code none (.loop code) ⟨t,[],⟨[.cells ⟨[(.string v5),(.int .i64 v6),(.int .i64 v7),(.func (.via 0 ⟨[]⟩ 0 true) v8 ⟨[.slice (some ⟨0,v9,none⟩) v10 4]⟩)]⟩ false,.cells ⟨[(.int .i64 v11),(.int .i64 v12),(.int .i64 v13),(.int .i64 v14),(.int .i64 v15)]⟩ false],0,[]⟩⟩ =>
    (match Nat.beq (firstReg code) 8,lenIs t 48,lget t 1,lget t 29,lget t 30,lget t 31 with
    | true,true,(Value.pointer (Option.some (Addr.mk 0 0 Option.none))),(.func (.via 0 ⟨[]⟩ 0 true) v0 ⟨[.slice (some ⟨0,v1,none⟩) v2 4]⟩),(.int .i64 v3),(.int .i64 v4)=>some (code,⟨v0,v1,v2,v3,v4,v5,v6,v7,v8,v9,v10,v11,v12,v13,v14,v15⟩)
    | _,_,_,_,_,_=>none)
  | _=>none
def alt15_0 (x:X15_0)(j:List Value):AT:=.br (L15_0_k0 x) (loopEnd 48 (.ret) [(2,(.int .i64 (Qd0 x))),(3,(.int .i64 (Qd1 x))),(4,(.int .i64 (Qd2 x)))] ⟨[.cells ⟨[(.string (Qd3 x)),(.int .i64 (Qd4 x)),(.int .i64 (Qd5 x)),(lstV (Qd6 x) (Qd7 x) (Qd8 x) 4)]⟩ false,.cells ⟨[(.int .i64 (Qd9 x)),(.int .i64 (Qd10 x)),(.int .i64 (Qd11 x)),(.int .i64 (Qd12 x)),(.int .i64 (Qd13 x))]⟩ false],0,[]⟩ j) (.br (L15_0_k1 x) (loopEnd 48 (.exit 1) [] ⟨[.cells ⟨[(.string (Qe0 x)),(.int .i64 (Qe1 x)),(.int .i64 (Qe2 x)),(lstV (Qe3 x) (Qe4 x) (Qe5 x) 4)]⟩ false,.cells ⟨[(.int .i64 (Qe6 x)),(.int .i64 (Qe7 x)),(.int .i64 (Qe8 x)),(.int .i64 (Qe9 x)),(.int .i64 (Qe10 x))]⟩ false],0,[]⟩ j) (.no))
def la15_0 (J:Task→List Value):Ans:=loopAns Lp15_0.c dec15_0 alt15_0 J
theorem ha15_0:∀(x:X15_0) (j:List Value)(o:Out),(alt15_0 x j).out=some o→∃d,loopR rd15_0 x=some d∧o=Lp15_0.tail d j:=by
  intro x j o h
  unfold alt15_0 at h
  cases hL:L15_0 x with
  | none=>simp [L15_0_k0,Qd0,Qd1,Qd2,Qd3,Qd4,Qd5,Qd6,Qd7,Qd8,Qd9,Qd10,Qd11,Qd12,Qd13,L15_0_k1,Qe0,Qe1,Qe2,Qe3,Qe4,Qe5,Qe6,Qe7,Qe8,Qe9,Qe10,hL,AT.out]at h
  | some d =>
    refine ⟨d,hL,?_⟩
    cases d<;>(simp only [L15_0_k0,Qd0,Qd1,Qd2,Qd3,Qd4,Qd5,Qd6,Qd7,Qd8,Qd9,Qd10,Qd11,Qd12,Qd13,L15_0_k1,Qe0,Qe1,Qe2,Qe3,Qe4,Qe5,Qe6,Qe7,Qe8,Qe9,Qe10,hL,AT.out,loopEnd,cond_true,cond_false,Option.some.injEq]at h;rw [← h];rfl)
theorem hd15_0:∀(t:Task) (c:Code)(x:X15_0),dec15_0 t=some (c,x)→c=Lp15_0.c→∃T,t=.code none (.loop Lp15_0.c) ⟨T,[],⟨Lp15_0.hp x,0,[]⟩⟩∧T.length=Lp15_0.N∧∀kv∈Lp15_0.S.zip (Lp15_0.sl x),lget T kv.1=kv.2:=by
  intro t c x h hc
  unfold dec15_0 at h
  split at h
  case h_2=>cases h
  split at h
  case h_2=>cases h
  simp only [Option.some.injEq,Prod.mk.injEq]at h
  obtain ⟨rfl,rfl⟩:=h
  subst hc
  refine ⟨_,rfl,lenIs_eq _ _ (by assumption),?_⟩
  intro kv hk
  simp only [Lp15_0,List.zip_cons_cons,List.zip_nil_right,List.mem_cons,List.not_mem_nil,or_false]at hk
  rcases hk with rfl | rfl | rfl | rfl<;>assumption
theorem kl15_0:∃J,Known Try.prog (la15_0 J):=by
  exact LoopOf.known noNG mixed ok15_0 (by decide) (by decide) (Known.or known42 (Known.or known43 known44)) (n:=60) (rd:=rd15_0) (fun x j=>T15_0  j x.v0 x.v1 x.v2 x.v3 x.v4 x.v5 x.v6 x.v7 x.v8 x.v9 x.v10 x.v11 x.v12 x.v13 x.v14 x.v15) dec15_0 alt15_0 hd15_0 ha15_0
structure R15 where
  r0:Int
  r1:Int
  r2:Int
structure A15 where
  a0:ByteArray
  a1:Int
  a2:Int
  a3:Array Value
  a4:Nat
  a5:Nat
def rt15 (a0:ByteArray)(a1:Int)(a2:Int)(a3:Array Value)(a4:Nat)(a5:Nat):RT R15 :=
  .br (F42_ok (Int.ofNat (ByteArray.size a0)) (1:Int) (4:Int)) (.br (not (F42_0 (Int.ofNat (ByteArray.size a0)) (1:Int) (4:Int))) (.leaf ⟨(1:Int),(0:Int),(3:Int)⟩) (.br (decide ((12:Int)<(Int.ofNat a5))) (.leaf ⟨(1:Int),(0:Int),(3:Int)⟩) (.br (F42_ok a1 (1:Int) (32:Int)) (.br (not (F42_0 a1 (1:Int) (32:Int))) (.leaf ⟨(1:Int),(0:Int),(7:Int)⟩) (.br (decide (a2=(1:Int)))
       (.sw (eqCode (Lp15_0.c) (Lp15_0.c)) true (by simp only [eqCode_self,arrEq_self]) (.br (L15_0_k0 (X15_0.mk a3 a4 a5 (Int.ofNat a5) (0:Int) a0 a1 a2 a3 a4 a5 (1:Int) (2:Int) (4:Int) (8:Int) (16:Int))) (.leaf ⟨(Qd0 (X15_0.mk a3 a4 a5 (Int.ofNat a5) (0:Int) a0 a1 a2 a3 a4 a5 (1:Int) (2:Int) (4:Int) (8:Int) (16:Int))),(Qd1 (X15_0.mk a3 a4 a5 (Int.ofNat a5) (0:Int) a0 a1 a2 a3 a4 a5 (1:Int) (2:Int) (4:Int) (8:Int) (16:Int))),(Qd2 (X15_0.mk a3 a4 a5 (Int.ofNat a5) (0:Int) a0 a1 a2 a3 a4 a5 (1:Int) (2:Int) (4:Int) (8:Int) (16:Int)))⟩) (.br (L15_0_k1 (X15_0.mk a3 a4 a5 (Int.ofNat a5) (0:Int) a0 a1 a2 a3 a4 a5 (1:Int) (2:Int) (4:Int) (8:Int) (16:Int))) (.leaf ⟨(0:Int),(0:Int),(0:Int)⟩) (.no))) (.no)) (.br (decide (a2=(2:Int)))
        (.sw (eqCode (Lp15_0.c) (Lp15_0.c)) true (by simp only [eqCode_self,arrEq_self]) (.br (L15_0_k0 (X15_0.mk a3 a4 a5 (Int.ofNat a5) (0:Int) a0 a1 a2 a3 a4 a5 (1:Int) (2:Int) (4:Int) (8:Int) (16:Int))) (.leaf ⟨(Qd0 (X15_0.mk a3 a4 a5 (Int.ofNat a5) (0:Int) a0 a1 a2 a3 a4 a5 (1:Int) (2:Int) (4:Int) (8:Int) (16:Int))),(Qd1 (X15_0.mk a3 a4 a5 (Int.ofNat a5) (0:Int) a0 a1 a2 a3 a4 a5 (1:Int) (2:Int) (4:Int) (8:Int) (16:Int))),(Qd2 (X15_0.mk a3 a4 a5 (Int.ofNat a5) (0:Int) a0 a1 a2 a3 a4 a5 (1:Int) (2:Int) (4:Int) (8:Int) (16:Int)))⟩) (.br (L15_0_k1 (X15_0.mk a3 a4 a5 (Int.ofNat a5) (0:Int) a0 a1 a2 a3 a4 a5 (1:Int) (2:Int) (4:Int) (8:Int) (16:Int))) (.leaf ⟨(0:Int),(0:Int),(0:Int)⟩) (.no))) (.no)) (.br (decide (a2=(4:Int)))
         (.sw (eqCode (Lp15_0.c) (Lp15_0.c)) true (by simp only [eqCode_self,arrEq_self]) (.br (L15_0_k0 (X15_0.mk a3 a4 a5 (Int.ofNat a5) (0:Int) a0 a1 a2 a3 a4 a5 (1:Int) (2:Int) (4:Int) (8:Int) (16:Int))) (.leaf ⟨(Qd0 (X15_0.mk a3 a4 a5 (Int.ofNat a5) (0:Int) a0 a1 a2 a3 a4 a5 (1:Int) (2:Int) (4:Int) (8:Int) (16:Int))),(Qd1 (X15_0.mk a3 a4 a5 (Int.ofNat a5) (0:Int) a0 a1 a2 a3 a4 a5 (1:Int) (2:Int) (4:Int) (8:Int) (16:Int))),(Qd2 (X15_0.mk a3 a4 a5 (Int.ofNat a5) (0:Int) a0 a1 a2 a3 a4 a5 (1:Int) (2:Int) (4:Int) (8:Int) (16:Int)))⟩) (.br (L15_0_k1 (X15_0.mk a3 a4 a5 (Int.ofNat a5) (0:Int) a0 a1 a2 a3 a4 a5 (1:Int) (2:Int) (4:Int) (8:Int) (16:Int))) (.leaf ⟨(0:Int),(0:Int),(0:Int)⟩) (.no))) (.no)) (.br (decide (a2=(8:Int)))
          (.sw (eqCode (Lp15_0.c) (Lp15_0.c)) true (by simp only [eqCode_self,arrEq_self]) (.br (L15_0_k0 (X15_0.mk a3 a4 a5 (Int.ofNat a5) (0:Int) a0 a1 a2 a3 a4 a5 (1:Int) (2:Int) (4:Int) (8:Int) (16:Int))) (.leaf ⟨(Qd0 (X15_0.mk a3 a4 a5 (Int.ofNat a5) (0:Int) a0 a1 a2 a3 a4 a5 (1:Int) (2:Int) (4:Int) (8:Int) (16:Int))),(Qd1 (X15_0.mk a3 a4 a5 (Int.ofNat a5) (0:Int) a0 a1 a2 a3 a4 a5 (1:Int) (2:Int) (4:Int) (8:Int) (16:Int))),(Qd2 (X15_0.mk a3 a4 a5 (Int.ofNat a5) (0:Int) a0 a1 a2 a3 a4 a5 (1:Int) (2:Int) (4:Int) (8:Int) (16:Int)))⟩) (.br (L15_0_k1 (X15_0.mk a3 a4 a5 (Int.ofNat a5) (0:Int) a0 a1 a2 a3 a4 a5 (1:Int) (2:Int) (4:Int) (8:Int) (16:Int))) (.leaf ⟨(0:Int),(0:Int),(0:Int)⟩) (.no))) (.no)) (.br (decide (a2=(16:Int)))
           (.sw (eqCode (Lp15_0.c) (Lp15_0.c)) true (by simp only [eqCode_self,arrEq_self]) (.br (L15_0_k0 (X15_0.mk a3 a4 a5 (Int.ofNat a5) (0:Int) a0 a1 a2 a3 a4 a5 (1:Int) (2:Int) (4:Int) (8:Int) (16:Int))) (.leaf ⟨(Qd0 (X15_0.mk a3 a4 a5 (Int.ofNat a5) (0:Int) a0 a1 a2 a3 a4 a5 (1:Int) (2:Int) (4:Int) (8:Int) (16:Int))),(Qd1 (X15_0.mk a3 a4 a5 (Int.ofNat a5) (0:Int) a0 a1 a2 a3 a4 a5 (1:Int) (2:Int) (4:Int) (8:Int) (16:Int))),(Qd2 (X15_0.mk a3 a4 a5 (Int.ofNat a5) (0:Int) a0 a1 a2 a3 a4 a5 (1:Int) (2:Int) (4:Int) (8:Int) (16:Int)))⟩) (.br (L15_0_k1 (X15_0.mk a3 a4 a5 (Int.ofNat a5) (0:Int) a0 a1 a2 a3 a4 a5 (1:Int) (2:Int) (4:Int) (8:Int) (16:Int))) (.leaf ⟨(0:Int),(0:Int),(0:Int)⟩) (.no))) (.no)) (.leaf ⟨(1:Int),(0:Int),(7:Int)⟩))))))) (.no)))) (.no)
def en15 (r:R15):Value:=(.tuple ⟨[(.int .i64 r.r0),(.int .i64 r.r1),(.int .i64 r.r2)]⟩)
theorem T15 (J0:Task→List Value)(a0:ByteArray)(a1:Int)(a2:Int)(a3:Array Value)(a4:Nat)(a5:Nat):evC Try.prog (Ans.c (p42.or (p43.or (p44.or (la15_0 J0))))) 60 (.call 15 ⟨[(.agg ⟨[(.string a0),(.int .i64 a1),(.int .i64 a2),(lstV a3 a4 a5 4)]⟩)]⟩ ⟨[],0,[]⟩) (frzK [0,0,0])=(rt15 a0 a1 a2 a3 a4 a5).out (fun r=>.ret (en15 r) ⟨[],0,[]⟩):=by kernel_rfl
def F15 (a0:ByteArray)(a1:Int)(a2:Int)(a3:Array Value)(a4:Nat)(a5:Nat):Option R15:=(rt15 a0 a1 a2 a3 a4 a5).val
section
variable (a0:ByteArray) (a1:Int) (a2:Int) (a3:Array Value) (a4:Nat) (a5:Nat)
def F15_ok:Bool:=(F15 a0 a1 a2 a3 a4 a5).isSome
def F15_0:Int:=match F15 a0 a1 a2 a3 a4 a5 with | some r=>r.r0 | none=>0
def F15_1:Int:=match F15 a0 a1 a2 a3 a4 a5 with | some r=>r.r1 | none=>0
def F15_2:Int:=match F15 a0 a1 a2 a3 a4 a5 with | some r=>r.r2 | none=>0
end
def dec15:Task→Option (A15×Hp)
  | .call g ⟨[(.agg ⟨[(.string a0),(.int .i64 a1),(.int .i64 a2),(.func (.via 0 ⟨[]⟩ 0 true) a3 ⟨[.slice (some ⟨0,a4,none⟩) a5 4]⟩)]⟩)]⟩ h=>(match Nat.beq g 15 with | true=>some (⟨a0,a1,a2,a3,a4,a5⟩,h) | false=>none)
  | _=>none
def alt15 (x:A15)(h:Hp):AT:=.br (F15_ok x.a0 x.a1 x.a2 x.a3 x.a4 x.a5) (.leaf (.ret (.tuple ⟨[(.int .i64 (F15_0 x.a0 x.a1 x.a2 x.a3 x.a4 x.a5)),(.int .i64 (F15_1 x.a0 x.a1 x.a2 x.a3 x.a4 x.a5)),(.int .i64 (F15_2 x.a0 x.a1 x.a2 x.a3 x.a4 x.a5))]⟩) h)) .no
def p15:Ans:=fnAns dec15 alt15
theorem ha15:∀(x:A15) (h:Hp)(o:Out),(alt15 x h).out=some o→∃r,(rt15 x.a0 x.a1 x.a2 x.a3 x.a4 x.a5).val=some r∧o=.ret (en15 r) h:=by
  intro x h o e
  unfold alt15 at e
  simp only [AT.out]at e
  obtain ⟨g,e⟩:=cond_some e
  unfold F15_ok at g
  obtain ⟨r,hF⟩:=Option.isSome_iff_exists.1 g
  have hv:F15 x.a0 x.a1 x.a2 x.a3 x.a4 x.a5=(rt15 x.a0 x.a1 x.a2 x.a3 x.a4 x.a5).val:=by delta F15;exact rfl
  refine ⟨r,hv.symm.trans hF,?_⟩
  simp only [Option.some.injEq]at e
  rw [← e]
  have k0:F15_0 x.a0 x.a1 x.a2 x.a3 x.a4 x.a5=r.r0:=by
    show (match F15 x.a0 x.a1 x.a2 x.a3 x.a4 x.a5 with | some r=>r.r0 | none=>0)=r.r0
    rw [hF]
  have k1:F15_1 x.a0 x.a1 x.a2 x.a3 x.a4 x.a5=r.r1:=by
    show (match F15 x.a0 x.a1 x.a2 x.a3 x.a4 x.a5 with | some r=>r.r1 | none=>0)=r.r1
    rw [hF]
  have k2:F15_2 x.a0 x.a1 x.a2 x.a3 x.a4 x.a5=r.r2:=by
    show (match F15 x.a0 x.a1 x.a2 x.a3 x.a4 x.a5 with | some r=>r.r2 | none=>0)=r.r2
    rw [hF]
  rw [k0,k1,k2]<;>rfl
theorem hd15:∀(t:Task) (x:A15)(h:Hp),dec15 t=some (x,h)→t=.call 15 ⟨[(.agg ⟨[(.string x.a0),(.int .i64 x.a1),(.int .i64 x.a2),(lstV x.a3 x.a4 x.a5 4)]⟩)]⟩ h:=by
  intro t x h e
  unfold dec15 at e
  split at e
  case h_2=>cases e
  split at e
  case h_2=>cases e
  rename_i hg
  simp only [Option.some.injEq,Prod.mk.injEq]at e
  obtain ⟨rfl,rfl⟩:=e
  rw [Nat.eq_of_beq_eq_true hg]
theorem known15:Known Try.prog p15:=by
  obtain ⟨J0,hJ0⟩:=kl15_0
  exact Known.fn noNG mixed (Known.or known42 (Known.or known43 (Known.or known44 hJ0))) (n:=60) (zs:=[0,0,0]) 15 (fun x:A15=>[(.agg ⟨[(.string x.a0),(.int .i64 x.a1),(.int .i64 x.a2),(lstV x.a3 x.a4 x.a5 4)]⟩)]) (fun x=>rt15 x.a0 x.a1 x.a2 x.a3 x.a4 x.a5) en15 (fun x=>T15 J0 x.a0 x.a1 x.a2 x.a3 x.a4 x.a5) (fun x=>rfl) dec15 alt15 hd15 ha15
end
end Go.Proofs.Ytoojllndfjamgaa
namespace Go.Proofs.Ytoojllndfjamgaa
open Go.Gi Go.RowKit
noncomputable section
set_option maxRecDepth 100000
set_option maxHeartbeats 2000000
theorem F42_of (n lo hi:Int):F42_ok n lo hi=true∧F42_0 n lo hi=inB n lo hi:=by
  have q:F42 n lo hi=some ⟨inB n lo hi⟩:=by
    unfold F42 rt42 inB
    by_cases h:lo≤n<;>simp [RT.val,h]
  exact ⟨by simp only [F42_ok,q];rfl,by simp only [F42_0,q]⟩
theorem F82_of (n m:Int):F82_ok n m=true∧F82_0 n m=(decide (1≤n)&&decide (Int.tmod m n=0)):=by
  have q:F82 n m=some ⟨decide (1≤n)&&decide (Int.tmod m n=0)⟩:=by
    unfold F82 rt82
    by_cases h:(1:Int)≤n
    · have h0:¬n=0:=by omega
      simp [RT.val,h,h0]
    · simp [RT.val,h]
  exact ⟨by simp only [F82_ok,q];rfl,by simp only [F82_0,q]⟩
theorem row4 {c:Array Value}{n k:Nat}(h:GL C4 4 c n) (hk:k<n):rdOk c C4 (0+k*4)=true:=h.good.2 k hk
section
variable {cc:Array Value}{nc k:Nat}{s nm:ByteArray}{ws dp w e p:Int}
theorem step44a (g:GL C4 4 cc nc)(few:nc≤1000)(hk:k≤nc)(j:Nat)(hj:j<k):(rd44_103x0a ⟨2,[],cc,0,k,(k:Int),(j:Int),s,ws,dp,cc,0,nc,nm,w,e,p⟩).val =
    some (if twE cc nm j=0 then .inl ⟨2,[],cc,0,k,(k:Int),((j+1:Nat):Int),s,ws,dp,cc,0,nc,nm,w,e,p⟩ else .inr (.k0 (j:Int) s ws dp cc 0 nc nm w e p)):=by
  have hji:(j:Int)<(k:Int):=by omega
  have h0:(0:Int)≤(j:Int):=by omega
  have h3:IntKind.wrap .i64 ((j:Int)+1)=((j+1:Nat):Int):=by rw [wrap64_id (by omega) (by omega)];omega
  have hr:rdOk cc C4 (0+j*4)=true:=row4 g (by omega)
  unfold C4 at hr
  unfold twE
  simp only [rd44_103x0a,RT.val,hji,h0,h3,hr,Int.toNat_natCast,Int.ofNat_eq_natCast,decide_true,Bool.and_self,cond_true]
  cases strEq (getStr cc (0+j*4)) nm<;>rfl
theorem step44b (g:GL C4 4 cc nc)(few:nc≤1000)(hk:k≤nc)(he:1≤e)(hv:∀j,j<k→1≤getInt cc (0+j*4+1+1))(j:Nat)(hj:j<k):(rd44_103x0b ⟨2,[],cc,0,k,(k:Int),(j:Int),s,ws,dp,cc,0,nc,nm,w,e,p⟩).val =
    some (if coP cc w e p j=0 then .inl ⟨2,[],cc,0,k,(k:Int),((j+1:Nat):Int),s,ws,dp,cc,0,nc,nm,w,e,p⟩ else .inr (.k0 (j:Int) s ws dp cc 0 nc nm w e p)):=by
  have hji:(j:Int)<(k:Int):=by omega
  have h0:(0:Int)≤(j:Int):=by omega
  have h3:IntKind.wrap .i64 ((j:Int)+1)=((j+1:Nat):Int):=by rw [wrap64_id (by omega) (by omega)];omega
  have hr:rdOk cc C4 (0+j*4)=true:=row4 g (by omega)
  unfold C4 at hr
  have hE:=hv j hj
  have hm:¬min (getInt cc (0+j*4+1+1)) e=0:=by omega
  unfold coP coI
  simp only [rd44_103x0b,RT.val,hji,h0,h3,hr,hm,Int.toNat_natCast,Int.ofNat_eq_natCast,decide_true,decide_false,Bool.not_false,Bool.and_self,cond_true]
  by_cases c1:getInt cc (0+j*4+1)=w
  · by_cases c2:Int.tmod (getInt cc (0+j*4+1+1+1)) (min (getInt cc (0+j*4+1+1)) e)=Int.tmod p (min (getInt cc (0+j*4+1+1)) e)
    · simp only [c1,c2,if_true,decide_true,cond_true];rfl
    · simp only [c1,c2,if_true,if_false,decide_true,decide_false,cond_true,cond_false]
  · simp only [c1,if_true,if_false,decide_false,cond_false]
theorem F44_of (g:GL C4 4 cc nc)(few:nc≤1000)(hkn:k<nc)(hv:∀j,j<k→chX coP ws dp cc j=0) :
    F44_ok s ws dp cc 0 nc (getStr cc (0+k*4)) (getInt cc (0+k*4+1)) (getInt cc (0+k*4+1+1)) (getInt cc (0+k*4+1+1+1)) cc 0 k=true ∧
    F44_0 s ws dp cc 0 nc (getStr cc (0+k*4)) (getInt cc (0+k*4+1)) (getInt cc (0+k*4+1+1)) (getInt cc (0+k*4+1+1+1)) cc 0 k=chX coP ws dp cc k:=by
  have hv2:∀j,j<k→1≤getInt cc (0+j*4+1+1):=fun j hj=>by
    have:=ch_rg (hv j hj)
    simp only [rgB,Bool.and_eq_true,decide_eq_true_eq]at this
    exact this.2.1.1
  have q:F44 s ws dp cc 0 nc (getStr cc (0+k*4)) (getInt cc (0+k*4+1)) (getInt cc (0+k*4+1+1)) (getInt cc (0+k*4+1+1+1)) cc 0 k=some ⟨chX coP ws dp cc k⟩:=by
    unfold F44 rt44 chX
    generalize getStr cc (0+k*4)=nm
    generalize getInt cc (0+k*4+1)=w
    generalize getInt cc (0+k*4+1+1)=e
    generalize getInt cc (0+k*4+1+1+1)=p
    have i2:¬(k:Int)<(k:Int):=by omega
    have la:L44_103x0a (X44_103x0a.mk 2 [] cc 0 k (k:Int) 0 s ws dp cc 0 nc nm w e p)=some (match fst1 (twE cc nm) k 0 with | some (i,r)=>.k0 (i:Int) s ws dp cc 0 nc nm w e p | none=>.k1 s ws dp cc 0 nc nm w e p) :=
      loop_fst (rd:=rd44_103x0a) (S:=fun j=>X44_103x0a.mk 2 [] cc 0 k (k:Int) (j:Int) s ws dp cc 0 nc nm w e p) (E:=twE cc nm) (n:=k) (err:=fun i _=>.k0 (i:Int) s ws dp cc 0 nc nm w e p) (fin:=.k1 s ws dp cc 0 nc nm w e p)
        (fun j hj=>step44a g few (by omega) j hj) (by simp only [rd44_103x0a,RT.val,i2,decide_false,cond_false]) k 0 (by omega)
    simp only [RT.val,(F79_of).1,(F79_of).2,Int.ofNat_eq_natCast,cond_true]
    cases nmB nm with
    | false=>rfl
    | true =>
    simp only [Bool.not_true,cond_false,if_true]
    cases ha:fst1 (twE cc nm) k 0 with
    | some ir =>
      obtain ⟨i,r⟩:=ir
      rw [ha]at la
      have i3:(0:Int)≤(i:Int):=by omega
      simp only [L44_103x0a_k0,L44_103x0a_k0_0,la,i3,Option.isSome_some,decide_true,cond_true,if_true]
    | none =>
    rw [ha]at la
    simp only [L44_103x0a_k0,L44_103x0a_k1,L44_103x0a_k1_0,L44_103x0a_k1_1,L44_103x0a_k1_2,L44_103x0a_k1_3,L44_103x0a_k1_4,L44_103x0a_k1_5,L44_103x0a_k1_6,L44_103x0a_k1_7,L44_103x0a_k1_8,L44_103x0a_k1_9,la,(F42_of _ _ _).1,(F42_of _ _ _).2,(F82_of _ _).1,(F82_of _ _).2,Option.isSome_none,Bool.false_eq_true,if_false,cond_true,cond_false]
    unfold rgB
    cases h1:inB w 0 (IntKind.wrap .i64 (ws-1)) with
    | false=>rfl
    | true =>
    cases h2:(decide (1≤e)&&decide (Int.tmod dp e=0)) with
    | false=>rfl
    | true =>
    cases h3:inB p 0 (IntKind.wrap .i64 (e-1)) with
    | false=>rfl
    | true =>
    simp only [Bool.not_true,Bool.and_self,cond_false,if_true]
    rw [Bool.and_eq_true,decide_eq_true_eq]at h2
    have lb:L44_103x0b (X44_103x0b.mk 2 [] cc 0 k (k:Int) 0 s ws dp cc 0 nc nm w e p)=some (match fst1 (coP cc w e p) k 0 with | some (i,r)=>.k0 (i:Int) s ws dp cc 0 nc nm w e p | none=>.k1 s ws dp cc 0 nc nm w e p) :=
      loop_fst (rd:=rd44_103x0b) (S:=fun j=>X44_103x0b.mk 2 [] cc 0 k (k:Int) (j:Int) s ws dp cc 0 nc nm w e p) (E:=coP cc w e p) (n:=k) (err:=fun i _=>.k0 (i:Int) s ws dp cc 0 nc nm w e p) (fin:=.k1 s ws dp cc 0 nc nm w e p)
        (fun j hj=>step44b g few (by omega) h2.1 hv2 j hj) (by simp only [rd44_103x0b,RT.val,i2,decide_false,cond_false]) k 0 (by omega)
    cases hb:fst1 (coP cc w e p) k 0 with
    | some ir =>
      obtain ⟨i,r⟩:=ir
      rw [hb]at lb
      have i3:(0:Int)≤(i:Int):=by omega
      simp only [L44_103x0b_k0,L44_103x0b_k0_0,lb,i3,Option.isSome_some,decide_true,cond_true,if_true]
    | none =>
      rw [hb]at lb
      simp only [L44_103x0b_k0,L44_103x0b_k1,lb,Option.isSome_none,Bool.false_eq_true,if_false,cond_true,cond_false]
  exact ⟨by simp only [F44_ok,q];rfl,by simp only [F44_0,q]⟩
theorem step15 (g:GL C4 4 cc nc)(few:nc≤1000)(k:Nat)(hk:k<nc)(hv:∀j,j<k→chX coP ws dp cc j=0) :
    (rd15_0 ⟨cc,0,nc,(nc:Int),(k:Int),s,ws,dp,cc,0,nc,1,2,4,8,16⟩).val =
    some (if chX coP ws dp cc k=0 then .inl ⟨cc,0,nc,(nc:Int),((k+1:Nat):Int),s,ws,dp,cc,0,nc,1,2,4,8,16⟩ else .inr (.k0 2 (k:Int) (chX coP ws dp cc k) s ws dp cc 0 nc 1 2 4 8 16)):=by
  have hki:(k:Int)<(nc:Int):=by omega
  have h0:(0:Int)≤(k:Int):=by omega
  have h4:(0:Nat)≤k:=by omega
  have h5:k≤nc:=by omega
  have h3:IntKind.wrap .i64 ((k:Int)+1)=((k+1:Nat):Int):=by rw [wrap64_id (by omega) (by omega)];omega
  have hr:rdOk cc C4 (0+k*4)=true:=row4 g hk
  unfold C4 at hr
  obtain ⟨o,e⟩:=F44_of (s:=s) g few hk hv
  simp only [rd15_0,RT.val,hki,h0,h3,h4,h5,hr,o,e,Int.toNat_natCast,Int.ofNat_eq_natCast,Nat.add_zero,Nat.sub_zero,decide_true,Bool.and_self,Bool.true_and,cond_true]
  by_cases hz:chX coP ws dp cc k=0
  · simp only [hz,decide_true,Bool.not_true,cond_false,if_true]
  · simp only [hz,decide_false,Bool.not_false,cond_true,if_false]
theorem F15_eq (g:GL C4 4 cc nc):F15 s ws dp cc 0 nc=some ⟨(ckF s ws dp cc nc).1,(ckF s ws dp cc nc).2.1,(ckF s ws dp cc nc).2.2⟩:=by
  unfold F15 rt15 ckF
  simp only [RT.val,(F42_of _ _ _).1,(F42_of _ _ _).2,Int.ofNat_eq_natCast,cond_true]
  cases inB (s.size:Int) 1 4 with
  | false=>rfl
  | true =>
  simp only [Bool.not_true,cond_false,if_true]
  by_cases h2:12<nc
  · have i2:(12:Int)<(nc:Int):=by omega
    rw [if_pos h2]
    simp only [i2,decide_true,cond_true]
  have i2:¬(12:Int)<(nc:Int):=by omega
  rw [if_neg h2]
  simp only [i2,decide_false,cond_false]
  cases inB ws 1 32 with
  | false=>rfl
  | true =>
  simp only [Bool.not_true,cond_false,if_true]
  have z1:¬(nc:Int)<(nc:Int):=by omega
  have l0:L15_0 (X15_0.mk cc 0 nc (nc:Int) 0 s ws dp cc 0 nc 1 2 4 8 16)=some (match fst1 (chX coP ws dp cc) nc 0 with | some (i,r)=>.k0 2 (i:Int) r s ws dp cc 0 nc 1 2 4 8 16 | none=>.k1 s ws dp cc 0 nc 1 2 4 8 16) :=
    loop_fst2 (rd:=rd15_0) (S:=fun k=>X15_0.mk cc 0 nc (nc:Int) (k:Int) s ws dp cc 0 nc 1 2 4 8 16) (E:=chX coP ws dp cc) (n:=nc) (err:=fun i r=>.k0 2 (i:Int) r s ws dp cc 0 nc 1 2 4 8 16) (fin:=.k1 s ws dp cc 0 nc 1 2 4 8 16)
      (fun k hk h=>step15 g (by omega) k hk h) (by simp only [rd15_0,RT.val,z1,decide_false,cond_false]) nc 0 (by omega) (fun j hj=>absurd hj (Nat.not_lt_zero _))
  unfold dpB
  generalize decide (dp=1)=d1
  generalize decide (dp=2)=d2
  generalize decide (dp=4)=d3
  generalize decide (dp=8)=d4
  generalize decide (dp=16)=d5
  cases d1<;>cases d2<;>cases d3<;>cases d4<;>cases d5
  all_goals
    cases hf:fst1 (chX coP ws dp cc) nc 0 with
    | some ir =>
      obtain ⟨i,r⟩:=ir
      rw [hf]at l0
      simp only [hf,L15_0_k0,Qd0,Qd1,Qd2,l0,decide_true,decide_false,Bool.true_or,Bool.or_true,Bool.false_or,Bool.or_false,Bool.or_self,Bool.false_eq_true,if_true,if_false,cond_true,cond_false]
    | none =>
      rw [hf]at l0
      simp only [hf,L15_0_k0,L15_0_k1,l0,decide_true,decide_false,Bool.true_or,Bool.or_true,Bool.false_or,Bool.or_false,Bool.or_self,Bool.false_eq_true,if_true,if_false,cond_true,cond_false]
end
end
end Go.Proofs.Ytoojllndfjamgaa
namespace Go.Proofs.Ytoojllndfjamgaa
open Go.Gi Go.RowKit Go.Proofs.Ytoojllndfjamgaa.Old
noncomputable section
set_option maxRecDepth 100000
set_option maxHeartbeats 4000000
structure R45 where
  r0:Bool
structure A45 where
  a0:Int
  a1:Int
  a2:Int
def rt45 (a0:Int)(a1:Int)(a2:Int):RT R45 :=
  .br (decide (a1≤a0)) (.leaf ⟨(decide (a0≤a2))⟩) (.leaf ⟨false⟩)
def en45 (r:R45):Value:=(.bool r.r0)
theorem T45  (a0:Int) (a1:Int) (a2:Int):evC Try.prog (Ans.c (fun _=>none:Ans)) 60 (.call 45 ⟨[(.int .i64 a0),(.int .i64 a1),(.int .i64 a2)]⟩ ⟨[],0,[]⟩) (frzK [0])=(rt45 a0 a1 a2).out (fun r=>.ret (en45 r) ⟨[],0,[]⟩):=by kernel_rfl
def F45 (a0:Int)(a1:Int)(a2:Int):Option R45:=(rt45 a0 a1 a2).val
section
variable (a0:Int) (a1:Int) (a2:Int)
def F45_ok:Bool:=(F45 a0 a1 a2).isSome
def F45_0:Bool:=match F45 a0 a1 a2 with | some r=>r.r0 | none=>false
end
def dec45:Task→Option (A45×Hp)
  | .call g ⟨[(.int .i64 a0),(.int .i64 a1),(.int .i64 a2)]⟩ h=>(match Nat.beq g 45 with | true=>some (⟨a0,a1,a2⟩,h) | false=>none)
  | _=>none
def alt45 (x:A45)(h:Hp):AT:=.br (F45_ok x.a0 x.a1 x.a2) (.leaf (.ret (.bool (F45_0 x.a0 x.a1 x.a2)) h)) .no
def p45:Ans:=fnAns dec45 alt45
theorem ha45:∀(x:A45) (h:Hp)(o:Out),(alt45 x h).out=some o→∃r,(rt45 x.a0 x.a1 x.a2).val=some r∧o=.ret (en45 r) h:=by
  intro x h o e
  unfold alt45 at e
  simp only [AT.out]at e
  obtain ⟨g,e⟩:=cond_some e
  unfold F45_ok at g
  obtain ⟨r,hF⟩:=Option.isSome_iff_exists.1 g
  have hv:F45 x.a0 x.a1 x.a2=(rt45 x.a0 x.a1 x.a2).val:=by delta F45;exact rfl
  refine ⟨r,hv.symm.trans hF,?_⟩
  simp only [Option.some.injEq]at e
  rw [← e]
  have k0:F45_0 x.a0 x.a1 x.a2=r.r0:=by
    show (match F45 x.a0 x.a1 x.a2 with | some r=>r.r0 | none=>false)=r.r0
    rw [hF]
  rw [k0]<;>rfl
theorem hd45:∀(t:Task) (x:A45)(h:Hp),dec45 t=some (x,h)→t=.call 45 ⟨[(.int .i64 x.a0),(.int .i64 x.a1),(.int .i64 x.a2)]⟩ h:=by
  intro t x h e
  unfold dec45 at e
  split at e
  case h_2=>cases e
  split at e
  case h_2=>cases e
  rename_i hg
  simp only [Option.some.injEq,Prod.mk.injEq]at e
  obtain ⟨rfl,rfl⟩:=e
  rw [Nat.eq_of_beq_eq_true hg]
theorem known45:Known Try.prog p45:=by
  exact Known.fn noNG mixed (Known.nothing Try.prog) (n:=60) (zs:=[0]) 45 (fun x:A45=>[(.int .i64 x.a0),(.int .i64 x.a1),(.int .i64 x.a2)]) (fun x=>rt45 x.a0 x.a1 x.a2) en45 (fun x=>T45  x.a0 x.a1 x.a2) (fun x=>rfl) dec45 alt45 hd45 ha45
structure X46_0 where
  v0:Int
  v1:Int
  v2:ByteArray
  v3:Int
  v4:Int
  v5:Array Value
  v6:Nat
  v7:Nat
  v8:ByteArray
  v9:Int
  v10:Int
  v11:Int
inductive D46_0 where
  | k0 (d0:Int) (d1:ByteArray) (d2:Int) (d3:Int) (d4:Array Value) (d5:Nat) (d6:Nat) (d7:ByteArray) (d8:Int) (d9:Int) (d10:Int)
  | k1 (d0:Int) (d1:ByteArray) (d2:Int) (d3:Int) (d4:Array Value) (d5:Nat) (d6:Nat) (d7:ByteArray) (d8:Int) (d9:Int) (d10:Int)
def Lp46_0:LoopOf X46_0 D46_0 where
  c:=(theLoop Try.prog 46 0)
  N:=99
  M:=2
  S:=[1,2,5,6]
  sl:=fun x=>[(.int .i64 x.v0),(Value.pointer (Option.some (Addr.mk 0 0 Option.none))),(Value.pointer (Option.some (Addr.mk 1 0 Option.none))),(.int .i64 x.v1)]
  hp:=fun x=>[.cells ⟨[(.string x.v2),(.int .i64 x.v3),(.int .i64 x.v4),(lstV x.v5 x.v6 x.v7 4)]⟩ false,.cells ⟨[(.string x.v8),(.int .i64 x.v9),(.int .i64 x.v10),(.int .i64 x.v11)]⟩ false]
  ex:=fun d=>match d with | .k0 ..=>.ret | .k1 ..=>.exit 0
  pick:=fun e=>match e with | .ret=>[4] | .exit 0=>[1,2,5] | _=>[]
  dv:=fun d=>match d with | .k0 d0 d1 d2 d3 d4 d5 d6 d7 d8 d9 d10=>[(.int .i64 d0)] | .k1 d0 d1 d2 d3 d4 d5 d6 d7 d8 d9 d10=>[(.int .i64 d0),(Value.pointer (Option.some (Addr.mk 0 0 Option.none))),(Value.pointer (Option.some (Addr.mk 1 0 Option.none)))]
  dh:=fun d=>match d with | .k0 d0 d1 d2 d3 d4 d5 d6 d7 d8 d9 d10=>[.cells ⟨[(.string d1),(.int .i64 d2),(.int .i64 d3),(lstV d4 d5 d6 4)]⟩ false,.cells ⟨[(.string d7),(.int .i64 d8),(.int .i64 d9),(.int .i64 d10)]⟩ false] | .k1 d0 d1 d2 d3 d4 d5 d6 d7 d8 d9 d10=>[.cells ⟨[(.string d1),(.int .i64 d2),(.int .i64 d3),(lstV d4 d5 d6 4)]⟩ false,.cells ⟨[(.string d7),(.int .i64 d8),(.int .i64 d9),(.int .i64 d10)]⟩ false]
theorem ok46_0:Lp46_0.Ok:=⟨fun x=>rfl,fun x=>rfl,fun x=>rfl,fun x=>rfl,fun d=>by cases d<;>rfl,fun d=>by cases d<;>rfl,fun d=>by cases d<;>rfl,fun d=>by cases d<;>(intro h;cases h),fun d=>by cases d<;>rfl,fun d=>by cases d<;>rfl⟩
def rd46_0 (x:X46_0):RT (Sum X46_0 D46_0):=match x with
  | ⟨v0,v1,v2,v3,v4,v5,v6,v7,v8,v9,v10,v11⟩ =>
     .br (decide (v1<v0)) (.br (and (decide ((0:Int)≤v1)) (decide (v1<(Int.ofNat v7)))) (.br (isStr v5 ((v6+((Int.toNat v1)*4))+0)) (.br (strEq (getStr v5 ((v6+((Int.toNat v1)*4))+0)) v8) (.leaf (.inr (.k0 ((5:Int)) (v2) (v3) (v4) (v5) (v6) (v7) (v8) (v9) (v10) (v11)))) (.leaf (.inl ⟨v0,(IntKind.wrap .i64 (v1+(1:Int))),v2,v3,v4,v5,v6,v7,v8,v9,v10,v11⟩))) (.no)) (.no)) (.leaf (.inr (.k1 (v0) (v2) (v3) (v4) (v5) (v6) (v7) (v8) (v9) (v10) (v11))))
theorem T46_0  (y:List Value) (v0:Int) (v1:Int) (v2:ByteArray) (v3:Int) (v4:Int) (v5:Array Value) (v6:Nat) (v7:Nat) (v8:ByteArray) (v9:Int) (v10:Int) (v11:Int):evC Try.prog (Ans.c (p45.or p85)) 60 (.code none (theLoop Try.prog 46 0) ⟨sets (junkF 99 y) [(1,(.int .i64 v0)),(2,(Value.pointer (Option.some (Addr.mk 0 0 Option.none)))),(5,(Value.pointer (Option.some (Addr.mk 1 0 Option.none)))),(6,(.int .i64 v1))],[],⟨[.cells ⟨[(.string v2),(.int .i64 v3),(.int .i64 v4),(lstV v5 v6 v7 4)]⟩ false,.cells ⟨[(.string v8),(.int .i64 v9),(.int .i64 v10),(.int .i64 v11)]⟩ false],0,[]⟩⟩) (sumK 2 99 Lp46_0.pk)=(rd46_0 ⟨v0,v1,v2,v3,v4,v5,v6,v7,v8,v9,v10,v11⟩).out Lp46_0.enc:=by kernel_rfl
def L46_0 (x:X46_0):Option D46_0:=loopR rd46_0 x
section
variable (x:X46_0)
def L46_0_k0:Bool:=match L46_0 x with | some (.k0 ..)=>true | _=>false
def Qf0:Int:=match L46_0 x with | some (.k0 d _ _ _ _ _ _ _ _ _ _)=>d | _=>0
def Qf1:ByteArray:=match L46_0 x with | some (.k0 _ d _ _ _ _ _ _ _ _ _)=>d | _=>ByteArray.empty
def Qf2:Int:=match L46_0 x with | some (.k0 _ _ d _ _ _ _ _ _ _ _)=>d | _=>0
def Qf3:Int:=match L46_0 x with | some (.k0 _ _ _ d _ _ _ _ _ _ _)=>d | _=>0
def Qf4:Array Value:=match L46_0 x with | some (.k0 _ _ _ _ d _ _ _ _ _ _)=>d | _=>#[]
def Qf5:Nat:=match L46_0 x with | some (.k0 _ _ _ _ _ d _ _ _ _ _)=>d | _=>0
def Qf6:Nat:=match L46_0 x with | some (.k0 _ _ _ _ _ _ d _ _ _ _)=>d | _=>0
def Qf7:ByteArray:=match L46_0 x with | some (.k0 _ _ _ _ _ _ _ d _ _ _)=>d | _=>ByteArray.empty
def Qf8:Int:=match L46_0 x with | some (.k0 _ _ _ _ _ _ _ _ d _ _)=>d | _=>0
def Qf9:Int:=match L46_0 x with | some (.k0 _ _ _ _ _ _ _ _ _ d _)=>d | _=>0
def Qf10:Int:=match L46_0 x with | some (.k0 _ _ _ _ _ _ _ _ _ _ d)=>d | _=>0
def L46_0_k1:Bool:=match L46_0 x with | some (.k1 ..)=>true | _=>false
def Qg0:Int:=match L46_0 x with | some (.k1 d _ _ _ _ _ _ _ _ _ _)=>d | _=>0
def Qg1:ByteArray:=match L46_0 x with | some (.k1 _ d _ _ _ _ _ _ _ _ _)=>d | _=>ByteArray.empty
def Qg2:Int:=match L46_0 x with | some (.k1 _ _ d _ _ _ _ _ _ _ _)=>d | _=>0
def Qg3:Int:=match L46_0 x with | some (.k1 _ _ _ d _ _ _ _ _ _ _)=>d | _=>0
def Qg4:Array Value:=match L46_0 x with | some (.k1 _ _ _ _ d _ _ _ _ _ _)=>d | _=>#[]
def Qg5:Nat:=match L46_0 x with | some (.k1 _ _ _ _ _ d _ _ _ _ _)=>d | _=>0
def Qg6:Nat:=match L46_0 x with | some (.k1 _ _ _ _ _ _ d _ _ _ _)=>d | _=>0
def Qg7:ByteArray:=match L46_0 x with | some (.k1 _ _ _ _ _ _ _ d _ _ _)=>d | _=>ByteArray.empty
def Qg8:Int:=match L46_0 x with | some (.k1 _ _ _ _ _ _ _ _ d _ _)=>d | _=>0
def Qg9:Int:=match L46_0 x with | some (.k1 _ _ _ _ _ _ _ _ _ d _)=>d | _=>0
def Qg10:Int:=match L46_0 x with | some (.k1 _ _ _ _ _ _ _ _ _ _ d)=>d | _=>0
end
def dec46_0:Task→Option (Code×X46_0)
  | .code none (.loop code) ⟨t,[],⟨[.cells ⟨[(.string v2),(.int .i64 v3),(.int .i64 v4),(.func (.via 0 ⟨[]⟩ 0 true) v5 ⟨[.slice (some ⟨0,v6,none⟩) v7 4]⟩)]⟩ false,.cells ⟨[(.string v8),(.int .i64 v9),(.int .i64 v10),(.int .i64 v11)]⟩ false],0,[]⟩⟩ =>
    (match Nat.beq (firstReg code) 5,lenIs t 99,lget t 1,lget t 2,lget t 5,lget t 6 with
    | true,true,(.int .i64 v0),(Value.pointer (Option.some (Addr.mk 0 0 Option.none))),(Value.pointer (Option.some (Addr.mk 1 0 Option.none))),(.int .i64 v1)=>some (code,⟨v0,v1,v2,v3,v4,v5,v6,v7,v8,v9,v10,v11⟩)
    | _,_,_,_,_,_=>none)
  | _=>none
def alt46_0 (x:X46_0)(j:List Value):AT:=.br (L46_0_k0 x) (loopEnd 99 (.ret) [(4,(.int .i64 (Qf0 x)))] ⟨[.cells ⟨[(.string (Qf1 x)),(.int .i64 (Qf2 x)),(.int .i64 (Qf3 x)),(lstV (Qf4 x) (Qf5 x) (Qf6 x) 4)]⟩ false,.cells ⟨[(.string (Qf7 x)),(.int .i64 (Qf8 x)),(.int .i64 (Qf9 x)),(.int .i64 (Qf10 x))]⟩ false],0,[]⟩ j) (.br (L46_0_k1 x) (loopEnd 99 (.exit 0) [(1,(.int .i64 (Qg0 x))),(2,(Value.pointer (Option.some (Addr.mk 0 0 Option.none)))),(5,(Value.pointer (Option.some (Addr.mk 1 0 Option.none))))] ⟨[.cells ⟨[(.string (Qg1 x)),(.int .i64 (Qg2 x)),(.int .i64 (Qg3 x)),(lstV (Qg4 x) (Qg5 x) (Qg6 x) 4)]⟩ false,.cells ⟨[(.string (Qg7 x)),(.int .i64 (Qg8 x)),(.int .i64 (Qg9 x)),(.int .i64 (Qg10 x))]⟩ false],0,[]⟩ j) (.no))
def la46_0 (J:Task→List Value):Ans:=loopAns Lp46_0.c dec46_0 alt46_0 J
theorem ha46_0:∀(x:X46_0) (j:List Value)(o:Out),(alt46_0 x j).out=some o→∃d,loopR rd46_0 x=some d∧o=Lp46_0.tail d j:=by
  intro x j o h
  unfold alt46_0 at h
  cases hL:L46_0 x with
  | none=>simp [L46_0_k0,Qf0,Qf1,Qf2,Qf3,Qf4,Qf5,Qf6,Qf7,Qf8,Qf9,Qf10,L46_0_k1,Qg0,Qg1,Qg2,Qg3,Qg4,Qg5,Qg6,Qg7,Qg8,Qg9,Qg10,hL,AT.out]at h
  | some d =>
    refine ⟨d,hL,?_⟩
    cases d<;>(simp only [L46_0_k0,Qf0,Qf1,Qf2,Qf3,Qf4,Qf5,Qf6,Qf7,Qf8,Qf9,Qf10,L46_0_k1,Qg0,Qg1,Qg2,Qg3,Qg4,Qg5,Qg6,Qg7,Qg8,Qg9,Qg10,hL,AT.out,loopEnd,cond_true,cond_false,Option.some.injEq]at h;rw [← h];rfl)
theorem hd46_0:∀(t:Task) (c:Code)(x:X46_0),dec46_0 t=some (c,x)→c=Lp46_0.c→∃T,t=.code none (.loop Lp46_0.c) ⟨T,[],⟨Lp46_0.hp x,0,[]⟩⟩∧T.length=Lp46_0.N∧∀kv∈Lp46_0.S.zip (Lp46_0.sl x),lget T kv.1=kv.2:=by
  intro t c x h hc
  unfold dec46_0 at h
  split at h
  case h_2=>cases h
  split at h
  case h_2=>cases h
  simp only [Option.some.injEq,Prod.mk.injEq]at h
  obtain ⟨rfl,rfl⟩:=h
  subst hc
  refine ⟨_,rfl,lenIs_eq _ _ (by assumption),?_⟩
  intro kv hk
  simp only [Lp46_0,List.zip_cons_cons,List.zip_nil_right,List.mem_cons,List.not_mem_nil,or_false]at hk
  rcases hk with rfl | rfl | rfl | rfl<;>assumption
theorem kl46_0:∃J,Known Try.prog (la46_0 J):=by
  exact LoopOf.known noNG mixed ok46_0 (by decide) (by decide) (Known.or known45 known85) (n:=60) (rd:=rd46_0) (fun x j=>T46_0  j x.v0 x.v1 x.v2 x.v3 x.v4 x.v5 x.v6 x.v7 x.v8 x.v9 x.v10 x.v11) dec46_0 alt46_0 hd46_0 ha46_0
structure X46_2 where
  v0:Int
  v1:Int
  v2:Int
  v3:ByteArray
  v4:Int
  v5:Int
  v6:Array Value
  v7:Nat
  v8:Nat
  v9:ByteArray
  v10:Int
  v11:Int
  v12:Int
  v13:ByteArray
  v14:Int
  v15:Int
  v16:Int
inductive D46_2 where
  | k0 (d0:Int) (d1:ByteArray) (d2:Int) (d3:Int) (d4:Array Value) (d5:Nat) (d6:Nat) (d7:ByteArray) (d8:Int) (d9:Int) (d10:Int) (d11:ByteArray) (d12:Int) (d13:Int) (d14:Int)
  | k1 (d0:Int) (d1:Int) (d2:ByteArray) (d3:Int) (d4:Int) (d5:Array Value) (d6:Nat) (d7:Nat) (d8:ByteArray) (d9:Int) (d10:Int) (d11:Int) (d12:ByteArray) (d13:Int) (d14:Int) (d15:Int)
def Lp46_2:LoopOf X46_2 D46_2 where
  c:=(theLoop Try.prog 46 2)
  N:=99
  M:=3
  S:=[1,2,5,7,8,9]
  sl:=fun x=>[(.int .i64 x.v0),(Value.pointer (Option.some (Addr.mk 0 0 Option.none))),(Value.pointer (Option.some (Addr.mk 1 0 Option.none))),(.int .i64 x.v1),(Value.pointer (Option.some (Addr.mk 2 0 Option.none))),(.int .i64 x.v2)]
  hp:=fun x=>[.cells ⟨[(.string x.v3),(.int .i64 x.v4),(.int .i64 x.v5),(lstV x.v6 x.v7 x.v8 4)]⟩ false,.cells ⟨[(.string x.v9),(.int .i64 x.v10),(.int .i64 x.v11),(.int .i64 x.v12)]⟩ false,.cells ⟨[(.string x.v13),(.int .i64 x.v14),(.int .i64 x.v15),(.int .i64 x.v16)]⟩ false]
  ex:=fun d=>match d with | .k0 ..=>.ret | .k1 ..=>.exit 4
  pick:=fun e=>match e with | .ret=>[4] | .exit 4=>[1,2,5,7] | _=>[]
  dv:=fun d=>match d with | .k0 d0 d1 d2 d3 d4 d5 d6 d7 d8 d9 d10 d11 d12 d13 d14=>[(.int .i64 d0)] | .k1 d0 d1 d2 d3 d4 d5 d6 d7 d8 d9 d10 d11 d12 d13 d14 d15=>[(.int .i64 d0),(Value.pointer (Option.some (Addr.mk 0 0 Option.none))),(Value.pointer (Option.some (Addr.mk 1 0 Option.none))),(.int .i64 d1)]
  dh:=fun d=>match d with | .k0 d0 d1 d2 d3 d4 d5 d6 d7 d8 d9 d10 d11 d12 d13 d14=>[.cells ⟨[(.string d1),(.int .i64 d2),(.int .i64 d3),(lstV d4 d5 d6 4)]⟩ false,.cells ⟨[(.string d7),(.int .i64 d8),(.int .i64 d9),(.int .i64 d10)]⟩ false,.cells ⟨[(.string d11),(.int .i64 d12),(.int .i64 d13),(.int .i64 d14)]⟩ false] | .k1 d0 d1 d2 d3 d4 d5 d6 d7 d8 d9 d10 d11 d12 d13 d14 d15=>[.cells ⟨[(.string d2),(.int .i64 d3),(.int .i64 d4),(lstV d5 d6 d7 4)]⟩ false,.cells ⟨[(.string d8),(.int .i64 d9),(.int .i64 d10),(.int .i64 d11)]⟩ false,.cells ⟨[(.string d12),(.int .i64 d13),(.int .i64 d14),(.int .i64 d15)]⟩ false]
theorem ok46_2:Lp46_2.Ok:=⟨fun x=>rfl,fun x=>rfl,fun x=>rfl,fun x=>rfl,fun d=>by cases d<;>rfl,fun d=>by cases d<;>rfl,fun d=>by cases d<;>rfl,fun d=>by cases d<;>(intro h;cases h),fun d=>by cases d<;>rfl,fun d=>by cases d<;>rfl⟩
def rd46_2 (x:X46_2):RT (Sum X46_2 D46_2):=match x with
  | ⟨v0,v1,v2,v3,v4,v5,v6,v7,v8,v9,v10,v11,v12,v13,v14,v15,v16⟩ =>
     .br (decide (v2<(16:Int))) (.br (decide (v14=v10)) (.br (not (decide (v15=(0:Int)))) (.br (decide ((Int.tmod v2 v15)=v16)) (.br (not (decide (v11=(0:Int)))) (.br (decide ((Int.tmod v2 v11)=v12)) (.leaf (.inr (.k0 ((2:Int)) (v3) (v4) (v5) (v6) (v7) (v8) (v9) (v10) (v11) (v12) (v13) (v14) (v15) (v16)))) (.leaf (.inl ⟨v0,v1,(IntKind.wrap .i64 (v2+(1:Int))),v3,v4,v5,v6,v7,v8,v9,v10,v11,v12,v13,v14,v15,v16⟩))) (.no)) (.leaf (.inl ⟨v0,v1,(IntKind.wrap .i64 (v2+(1:Int))),v3,v4,v5,v6,v7,v8,v9,v10,v11,v12,v13,v14,v15,v16⟩))) (.no)) (.leaf (.inl ⟨v0,v1,(IntKind.wrap .i64 (v2+(1:Int))),v3,v4,v5,v6,v7,v8,v9,v10,v11,v12,v13,v14,v15,v16⟩))) (.leaf (.inr (.k1 (v0) (v1) (v3) (v4) (v5) (v6) (v7) (v8) (v9) (v10) (v11) (v12) (v13) (v14) (v15) (v16))))
theorem T46_2  (y:List Value) (v0:Int) (v1:Int) (v2:Int) (v3:ByteArray) (v4:Int) (v5:Int) (v6:Array Value) (v7:Nat) (v8:Nat) (v9:ByteArray) (v10:Int) (v11:Int) (v12:Int) (v13:ByteArray) (v14:Int) (v15:Int) (v16:Int):evC Try.prog (Ans.c (p45.or p85)) 60 (.code none (theLoop Try.prog 46 2) ⟨sets (junkF 99 y) [(1,(.int .i64 v0)),(2,(Value.pointer (Option.some (Addr.mk 0 0 Option.none)))),(5,(Value.pointer (Option.some (Addr.mk 1 0 Option.none)))),(7,(.int .i64 v1)),(8,(Value.pointer (Option.some (Addr.mk 2 0 Option.none)))),(9,(.int .i64 v2))],[],⟨[.cells ⟨[(.string v3),(.int .i64 v4),(.int .i64 v5),(lstV v6 v7 v8 4)]⟩ false,.cells ⟨[(.string v9),(.int .i64 v10),(.int .i64 v11),(.int .i64 v12)]⟩ false,.cells ⟨[(.string v13),(.int .i64 v14),(.int .i64 v15),(.int .i64 v16)]⟩ false],0,[]⟩⟩) (sumK 3 99 Lp46_2.pk)=(rd46_2 ⟨v0,v1,v2,v3,v4,v5,v6,v7,v8,v9,v10,v11,v12,v13,v14,v15,v16⟩).out Lp46_2.enc:=by kernel_rfl
def L46_2 (x:X46_2):Option D46_2:=loopR rd46_2 x
section
variable (x:X46_2)
def L46_2_k0:Bool:=match L46_2 x with | some (.k0 ..)=>true | _=>false
def Qh0:Int:=match L46_2 x with | some (.k0 d _ _ _ _ _ _ _ _ _ _ _ _ _ _)=>d | _=>0
def Qh1:ByteArray:=match L46_2 x with | some (.k0 _ d _ _ _ _ _ _ _ _ _ _ _ _ _)=>d | _=>ByteArray.empty
def Qh2:Int:=match L46_2 x with | some (.k0 _ _ d _ _ _ _ _ _ _ _ _ _ _ _)=>d | _=>0
def Qh3:Int:=match L46_2 x with | some (.k0 _ _ _ d _ _ _ _ _ _ _ _ _ _ _)=>d | _=>0
def Qh4:Array Value:=match L46_2 x with | some (.k0 _ _ _ _ d _ _ _ _ _ _ _ _ _ _)=>d | _=>#[]
def Qh5:Nat:=match L46_2 x with | some (.k0 _ _ _ _ _ d _ _ _ _ _ _ _ _ _)=>d | _=>0
def Qh6:Nat:=match L46_2 x with | some (.k0 _ _ _ _ _ _ d _ _ _ _ _ _ _ _)=>d | _=>0
def Qh7:ByteArray:=match L46_2 x with | some (.k0 _ _ _ _ _ _ _ d _ _ _ _ _ _ _)=>d | _=>ByteArray.empty
def Qh8:Int:=match L46_2 x with | some (.k0 _ _ _ _ _ _ _ _ d _ _ _ _ _ _)=>d | _=>0
def Qh9:Int:=match L46_2 x with | some (.k0 _ _ _ _ _ _ _ _ _ d _ _ _ _ _)=>d | _=>0
def Qh10:Int:=match L46_2 x with | some (.k0 _ _ _ _ _ _ _ _ _ _ d _ _ _ _)=>d | _=>0
def Qh11:ByteArray:=match L46_2 x with | some (.k0 _ _ _ _ _ _ _ _ _ _ _ d _ _ _)=>d | _=>ByteArray.empty
def Qh12:Int:=match L46_2 x with | some (.k0 _ _ _ _ _ _ _ _ _ _ _ _ d _ _)=>d | _=>0
def Qh13:Int:=match L46_2 x with | some (.k0 _ _ _ _ _ _ _ _ _ _ _ _ _ d _)=>d | _=>0
def Qh14:Int:=match L46_2 x with | some (.k0 _ _ _ _ _ _ _ _ _ _ _ _ _ _ d)=>d | _=>0
def L46_2_k1:Bool:=match L46_2 x with | some (.k1 ..)=>true | _=>false
def Qi0:Int:=match L46_2 x with | some (.k1 d _ _ _ _ _ _ _ _ _ _ _ _ _ _ _)=>d | _=>0
def Qi1:Int:=match L46_2 x with | some (.k1 _ d _ _ _ _ _ _ _ _ _ _ _ _ _ _)=>d | _=>0
def Qi2:ByteArray:=match L46_2 x with | some (.k1 _ _ d _ _ _ _ _ _ _ _ _ _ _ _ _)=>d | _=>ByteArray.empty
def Qi3:Int:=match L46_2 x with | some (.k1 _ _ _ d _ _ _ _ _ _ _ _ _ _ _ _)=>d | _=>0
def Qi4:Int:=match L46_2 x with | some (.k1 _ _ _ _ d _ _ _ _ _ _ _ _ _ _ _)=>d | _=>0
def Qi5:Array Value:=match L46_2 x with | some (.k1 _ _ _ _ _ d _ _ _ _ _ _ _ _ _ _)=>d | _=>#[]
def Qi6:Nat:=match L46_2 x with | some (.k1 _ _ _ _ _ _ d _ _ _ _ _ _ _ _ _)=>d | _=>0
def Qi7:Nat:=match L46_2 x with | some (.k1 _ _ _ _ _ _ _ d _ _ _ _ _ _ _ _)=>d | _=>0
def Qi8:ByteArray:=match L46_2 x with | some (.k1 _ _ _ _ _ _ _ _ d _ _ _ _ _ _ _)=>d | _=>ByteArray.empty
def Qi9:Int:=match L46_2 x with | some (.k1 _ _ _ _ _ _ _ _ _ d _ _ _ _ _ _)=>d | _=>0
def Qi10:Int:=match L46_2 x with | some (.k1 _ _ _ _ _ _ _ _ _ _ d _ _ _ _ _)=>d | _=>0
def Qi11:Int:=match L46_2 x with | some (.k1 _ _ _ _ _ _ _ _ _ _ _ d _ _ _ _)=>d | _=>0
def Qi12:ByteArray:=match L46_2 x with | some (.k1 _ _ _ _ _ _ _ _ _ _ _ _ d _ _ _)=>d | _=>ByteArray.empty
def Qi13:Int:=match L46_2 x with | some (.k1 _ _ _ _ _ _ _ _ _ _ _ _ _ d _ _)=>d | _=>0
def Qi14:Int:=match L46_2 x with | some (.k1 _ _ _ _ _ _ _ _ _ _ _ _ _ _ d _)=>d | _=>0
def Qi15:Int:=match L46_2 x with | some (.k1 _ _ _ _ _ _ _ _ _ _ _ _ _ _ _ d)=>d | _=>0
end
def dec46_2:Task→Option (Code×X46_2)
  | .code none (.loop code) ⟨t,[],⟨[.cells ⟨[(.string v3),(.int .i64 v4),(.int .i64 v5),(.func (.via 0 ⟨[]⟩ 0 true) v6 ⟨[.slice (some ⟨0,v7,none⟩) v8 4]⟩)]⟩ false,.cells ⟨[(.string v9),(.int .i64 v10),(.int .i64 v11),(.int .i64 v12)]⟩ false,.cells ⟨[(.string v13),(.int .i64 v14),(.int .i64 v15),(.int .i64 v16)]⟩ false],0,[]⟩⟩ =>
    (match Nat.beq (firstReg code) 16,lenIs t 99,lget t 1,lget t 2,lget t 5,lget t 7,lget t 8,lget t 9 with
    | true,true,(.int .i64 v0),(Value.pointer (Option.some (Addr.mk 0 0 Option.none))),(Value.pointer (Option.some (Addr.mk 1 0 Option.none))),(.int .i64 v1),(Value.pointer (Option.some (Addr.mk 2 0 Option.none))),(.int .i64 v2)=>some (code,⟨v0,v1,v2,v3,v4,v5,v6,v7,v8,v9,v10,v11,v12,v13,v14,v15,v16⟩)
    | _,_,_,_,_,_,_,_=>none)
  | _=>none
def alt46_2 (x:X46_2)(j:List Value):AT:=.br (L46_2_k0 x) (loopEnd 99 (.ret) [(4,(.int .i64 (Qh0 x)))] ⟨[.cells ⟨[(.string (Qh1 x)),(.int .i64 (Qh2 x)),(.int .i64 (Qh3 x)),(lstV (Qh4 x) (Qh5 x) (Qh6 x) 4)]⟩ false,.cells ⟨[(.string (Qh7 x)),(.int .i64 (Qh8 x)),(.int .i64 (Qh9 x)),(.int .i64 (Qh10 x))]⟩ false,.cells ⟨[(.string (Qh11 x)),(.int .i64 (Qh12 x)),(.int .i64 (Qh13 x)),(.int .i64 (Qh14 x))]⟩ false],0,[]⟩ j) (.br (L46_2_k1 x) (loopEnd 99 (.exit 4) [(1,(.int .i64 (Qi0 x))),(2,(Value.pointer (Option.some (Addr.mk 0 0 Option.none)))),(5,(Value.pointer (Option.some (Addr.mk 1 0 Option.none)))),(7,(.int .i64 (Qi1 x)))] ⟨[.cells ⟨[(.string (Qi2 x)),(.int .i64 (Qi3 x)),(.int .i64 (Qi4 x)),(lstV (Qi5 x) (Qi6 x) (Qi7 x) 4)]⟩ false,.cells ⟨[(.string (Qi8 x)),(.int .i64 (Qi9 x)),(.int .i64 (Qi10 x)),(.int .i64 (Qi11 x))]⟩ false,.cells ⟨[(.string (Qi12 x)),(.int .i64 (Qi13 x)),(.int .i64 (Qi14 x)),(.int .i64 (Qi15 x))]⟩ false],0,[]⟩ j) (.no))
def la46_2 (J:Task→List Value):Ans:=loopAns Lp46_2.c dec46_2 alt46_2 J
theorem ha46_2:∀(x:X46_2) (j:List Value)(o:Out),(alt46_2 x j).out=some o→∃d,loopR rd46_2 x=some d∧o=Lp46_2.tail d j:=by
  intro x j o h
  unfold alt46_2 at h
  cases hL:L46_2 x with
  | none=>simp [L46_2_k0,Qh0,Qh1,Qh2,Qh3,Qh4,Qh5,Qh6,Qh7,Qh8,Qh9,Qh10,Qh11,Qh12,Qh13,Qh14,L46_2_k1,Qi0,Qi1,Qi2,Qi3,Qi4,Qi5,Qi6,Qi7,Qi8,Qi9,Qi10,Qi11,Qi12,Qi13,Qi14,Qi15,hL,AT.out]at h
  | some d =>
    refine ⟨d,hL,?_⟩
    cases d<;>(simp only [L46_2_k0,Qh0,Qh1,Qh2,Qh3,Qh4,Qh5,Qh6,Qh7,Qh8,Qh9,Qh10,Qh11,Qh12,Qh13,Qh14,L46_2_k1,Qi0,Qi1,Qi2,Qi3,Qi4,Qi5,Qi6,Qi7,Qi8,Qi9,Qi10,Qi11,Qi12,Qi13,Qi14,Qi15,hL,AT.out,loopEnd,cond_true,cond_false,Option.some.injEq]at h;rw [← h];rfl)
theorem hd46_2:∀(t:Task) (c:Code)(x:X46_2),dec46_2 t=some (c,x)→c=Lp46_2.c→∃T,t=.code none (.loop Lp46_2.c) ⟨T,[],⟨Lp46_2.hp x,0,[]⟩⟩∧T.length=Lp46_2.N∧∀kv∈Lp46_2.S.zip (Lp46_2.sl x),lget T kv.1=kv.2:=by
  intro t c x h hc
  unfold dec46_2 at h
  split at h
  case h_2=>cases h
  split at h
  case h_2=>cases h
  simp only [Option.some.injEq,Prod.mk.injEq]at h
  obtain ⟨rfl,rfl⟩:=h
  subst hc
  refine ⟨_,rfl,lenIs_eq _ _ (by assumption),?_⟩
  intro kv hk
  simp only [Lp46_2,List.zip_cons_cons,List.zip_nil_right,List.mem_cons,List.not_mem_nil,or_false]at hk
  rcases hk with rfl | rfl | rfl | rfl | rfl | rfl<;>assumption
theorem kl46_2:∃J,Known Try.prog (la46_2 J):=by
  exact LoopOf.known noNG mixed ok46_2 (by decide) (by decide) (Known.or known45 known85) (n:=60) (rd:=rd46_2) (fun x j=>T46_2  j x.v0 x.v1 x.v2 x.v3 x.v4 x.v5 x.v6 x.v7 x.v8 x.v9 x.v10 x.v11 x.v12 x.v13 x.v14 x.v15 x.v16) dec46_2 alt46_2 hd46_2 ha46_2
structure X46_1 where
  v0:Int
  v1:Int
  v2:ByteArray
  v3:Int
  v4:Int
  v5:Array Value
  v6:Nat
  v7:Nat
  v8:ByteArray
  v9:Int
  v10:Int
  v11:Int
inductive D46_1 where
  | k0 (d0:Int) (d1:ByteArray) (d2:Int) (d3:Int) (d4:Array Value) (d5:Nat) (d6:Nat) (d7:ByteArray) (d8:Int) (d9:Int) (d10:Int)
  | k1 (d0:ByteArray) (d1:Int) (d2:Int) (d3:Array Value) (d4:Nat) (d5:Nat) (d6:ByteArray) (d7:Int) (d8:Int) (d9:Int)
def Lp46_1:LoopOf X46_1 D46_1 where
  c:=(theLoop Try.prog 46 1)
  N:=99
  M:=2
  S:=[1,2,5,7]
  sl:=fun x=>[(.int .i64 x.v0),(Value.pointer (Option.some (Addr.mk 0 0 Option.none))),(Value.pointer (Option.some (Addr.mk 1 0 Option.none))),(.int .i64 x.v1)]
  hp:=fun x=>[.cells ⟨[(.string x.v2),(.int .i64 x.v3),(.int .i64 x.v4),(lstV x.v5 x.v6 x.v7 4)]⟩ false,.cells ⟨[(.string x.v8),(.int .i64 x.v9),(.int .i64 x.v10),(.int .i64 x.v11)]⟩ false]
  ex:=fun d=>match d with | .k0 ..=>.ret | .k1 ..=>.exit 2
  pick:=fun e=>match e with | .ret=>[4] | .exit 2=>[] | _=>[]
  dv:=fun d=>match d with | .k0 d0 d1 d2 d3 d4 d5 d6 d7 d8 d9 d10=>[(.int .i64 d0)] | .k1 d0 d1 d2 d3 d4 d5 d6 d7 d8 d9=>[]
  dh:=fun d=>match d with | .k0 d0 d1 d2 d3 d4 d5 d6 d7 d8 d9 d10=>[.cells ⟨[(.string d1),(.int .i64 d2),(.int .i64 d3),(lstV d4 d5 d6 4)]⟩ false,.cells ⟨[(.string d7),(.int .i64 d8),(.int .i64 d9),(.int .i64 d10)]⟩ false] | .k1 d0 d1 d2 d3 d4 d5 d6 d7 d8 d9=>[.cells ⟨[(.string d0),(.int .i64 d1),(.int .i64 d2),(lstV d3 d4 d5 4)]⟩ false,.cells ⟨[(.string d6),(.int .i64 d7),(.int .i64 d8),(.int .i64 d9)]⟩ false]
theorem ok46_1:Lp46_1.Ok:=⟨fun x=>rfl,fun x=>rfl,fun x=>rfl,fun x=>rfl,fun d=>by cases d<;>rfl,fun d=>by cases d<;>rfl,fun d=>by cases d<;>rfl,fun d=>by cases d<;>(intro h;cases h),fun d=>by cases d<;>rfl,fun d=>by cases d<;>rfl⟩
def rd46_1 (x:X46_1):RT (Sum X46_1 D46_1):=match x with
  | ⟨v0,v1,v2,v3,v4,v5,v6,v7,v8,v9,v10,v11⟩ =>
     .br (decide (v1<v0)) (.br (and (decide ((0:Int)≤v1)) (decide (v1<(Int.ofNat v7)))) (.br (rdOk v5 [Leaf.str,(Leaf.int .i64),(Leaf.int .i64),(Leaf.int .i64)] (v6+((Int.toNat v1)*4)))
       (.sw (eqCode (Lp46_2.c) (Lp46_2.c)) true (by simp only [eqCode_self,arrEq_self])
     (.br (L46_2_k0 (X46_2.mk v0 v1 (0:Int) v2 v3 v4 v5 v6 v7 v8 v9 v10 v11 (getStr v5 (v6+((Int.toNat v1)*4))) (getInt v5 ((v6+((Int.toNat v1)*4))+1)) (getInt v5 (((v6+((Int.toNat v1)*4))+1)+1)) (getInt v5 ((((v6+((Int.toNat v1)*4))+1)+1)+1)))) (.leaf (.inr (.k0 ((Qh0 (X46_2.mk v0 v1 (0:Int) v2 v3 v4 v5 v6 v7 v8 v9 v10 v11 (getStr v5 (v6+((Int.toNat v1)*4))) (getInt v5 ((v6+((Int.toNat v1)*4))+1)) (getInt v5 (((v6+((Int.toNat v1)*4))+1)+1)) (getInt v5 ((((v6+((Int.toNat v1)*4))+1)+1)+1))))) ((Qh1 (X46_2.mk v0 v1 (0:Int) v2 v3 v4 v5 v6 v7 v8 v9 v10 v11 (getStr v5 (v6+((Int.toNat v1)*4))) (getInt v5 ((v6+((Int.toNat v1)*4))+1)) (getInt v5 (((v6+((Int.toNat v1)*4))+1)+1)) (getInt v5 ((((v6+((Int.toNat v1)*4))+1)+1)+1))))) ((Qh2 (X46_2.mk v0 v1 (0:Int) v2 v3 v4 v5 v6 v7 v8 v9 v10 v11 (getStr v5 (v6+((Int.toNat v1)*4))) (getInt v5 ((v6+((Int.toNat v1)*4))+1)) (getInt v5 (((v6+((Int.toNat v1)*4))+1)+1)) (getInt v5 ((((v6+((Int.toNat v1)*4))+1)+1)+1))))) ((Qh3 (X46_2.mk v0 v1 (0:Int) v2 v3 v4 v5 v6 v7 v8 v9 v10 v11 (getStr v5 (v6+((Int.toNat v1)*4))) (getInt v5 ((v6+((Int.toNat v1)*4))+1)) (getInt v5 (((v6+((Int.toNat v1)*4))+1)+1)) (getInt v5 ((((v6+((Int.toNat v1)*4))+1)+1)+1))))) ((Qh4 (X46_2.mk v0 v1 (0:Int) v2 v3 v4 v5 v6 v7 v8 v9 v10 v11 (getStr v5 (v6+((Int.toNat v1)*4))) (getInt v5 ((v6+((Int.toNat v1)*4))+1)) (getInt v5 (((v6+((Int.toNat v1)*4))+1)+1)) (getInt v5 ((((v6+((Int.toNat v1)*4))+1)+1)+1))))) ((Qh5 (X46_2.mk v0 v1 (0:Int) v2 v3 v4 v5 v6 v7 v8 v9 v10 v11 (getStr v5 (v6+((Int.toNat v1)*4))) (getInt v5 ((v6+((Int.toNat v1)*4))+1)) (getInt v5 (((v6+((Int.toNat v1)*4))+1)+1)) (getInt v5 ((((v6+((Int.toNat v1)*4))+1)+1)+1))))) ((Qh6 (X46_2.mk v0 v1 (0:Int) v2 v3 v4 v5 v6 v7 v8 v9 v10 v11 (getStr v5 (v6+((Int.toNat v1)*4))) (getInt v5 ((v6+((Int.toNat v1)*4))+1)) (getInt v5 (((v6+((Int.toNat v1)*4))+1)+1)) (getInt v5 ((((v6+((Int.toNat v1)*4))+1)+1)+1))))) ((Qh7 (X46_2.mk v0 v1 (0:Int) v2 v3 v4 v5 v6 v7 v8 v9 v10 v11 (getStr v5 (v6+((Int.toNat v1)*4))) (getInt v5 ((v6+((Int.toNat v1)*4))+1)) (getInt v5 (((v6+((Int.toNat v1)*4))+1)+1)) (getInt v5 ((((v6+((Int.toNat v1)*4))+1)+1)+1))))) ((Qh8 (X46_2.mk v0 v1 (0:Int) v2 v3 v4 v5 v6 v7 v8 v9 v10 v11 (getStr v5 (v6+((Int.toNat v1)*4))) (getInt v5 ((v6+((Int.toNat v1)*4))+1)) (getInt v5 (((v6+((Int.toNat v1)*4))+1)+1)) (getInt v5 ((((v6+((Int.toNat v1)*4))+1)+1)+1))))) ((Qh9 (X46_2.mk v0 v1 (0:Int) v2 v3 v4 v5 v6 v7 v8 v9 v10 v11 (getStr v5 (v6+((Int.toNat v1)*4))) (getInt v5 ((v6+((Int.toNat v1)*4))+1)) (getInt v5 (((v6+((Int.toNat v1)*4))+1)+1)) (getInt v5 ((((v6+((Int.toNat v1)*4))+1)+1)+1))))) ((Qh10 (X46_2.mk v0 v1 (0:Int) v2 v3 v4 v5 v6 v7 v8 v9 v10 v11 (getStr v5 (v6+((Int.toNat v1)*4))) (getInt v5 ((v6+((Int.toNat v1)*4))+1)) (getInt v5 (((v6+((Int.toNat v1)*4))+1)+1)) (getInt v5 ((((v6+((Int.toNat v1)*4))+1)+1)+1))))))))
     (.br (L46_2_k1 (X46_2.mk v0 v1 (0:Int) v2 v3 v4 v5 v6 v7 v8 v9 v10 v11 (getStr v5 (v6+((Int.toNat v1)*4))) (getInt v5 ((v6+((Int.toNat v1)*4))+1)) (getInt v5 (((v6+((Int.toNat v1)*4))+1)+1)) (getInt v5 ((((v6+((Int.toNat v1)*4))+1)+1)+1)))) (.leaf (.inl ⟨(Qi0 (X46_2.mk v0 v1 (0:Int) v2 v3 v4 v5 v6 v7 v8 v9 v10 v11 (getStr v5 (v6+((Int.toNat v1)*4))) (getInt v5 ((v6+((Int.toNat v1)*4))+1)) (getInt v5 (((v6+((Int.toNat v1)*4))+1)+1)) (getInt v5 ((((v6+((Int.toNat v1)*4))+1)+1)+1)))),(IntKind.wrap .i64 ((Qi1 (X46_2.mk v0 v1 (0:Int) v2 v3 v4 v5 v6 v7 v8 v9 v10 v11 (getStr v5 (v6+((Int.toNat v1)*4))) (getInt v5 ((v6+((Int.toNat v1)*4))+1)) (getInt v5 (((v6+((Int.toNat v1)*4))+1)+1)) (getInt v5 ((((v6+((Int.toNat v1)*4))+1)+1)+1))))+(1:Int))),(Qi2 (X46_2.mk v0 v1 (0:Int) v2 v3 v4 v5 v6 v7 v8 v9 v10 v11 (getStr v5 (v6+((Int.toNat v1)*4))) (getInt v5 ((v6+((Int.toNat v1)*4))+1)) (getInt v5 (((v6+((Int.toNat v1)*4))+1)+1)) (getInt v5 ((((v6+((Int.toNat v1)*4))+1)+1)+1)))),(Qi3 (X46_2.mk v0 v1 (0:Int) v2 v3 v4 v5 v6 v7 v8 v9 v10 v11 (getStr v5 (v6+((Int.toNat v1)*4))) (getInt v5 ((v6+((Int.toNat v1)*4))+1)) (getInt v5 (((v6+((Int.toNat v1)*4))+1)+1)) (getInt v5 ((((v6+((Int.toNat v1)*4))+1)+1)+1)))),(Qi4 (X46_2.mk v0 v1 (0:Int) v2 v3 v4 v5 v6 v7 v8 v9 v10 v11 (getStr v5 (v6+((Int.toNat v1)*4))) (getInt v5 ((v6+((Int.toNat v1)*4))+1)) (getInt v5 (((v6+((Int.toNat v1)*4))+1)+1)) (getInt v5 ((((v6+((Int.toNat v1)*4))+1)+1)+1)))),(Qi5 (X46_2.mk v0 v1 (0:Int) v2 v3 v4 v5 v6 v7 v8 v9 v10 v11 (getStr v5 (v6+((Int.toNat v1)*4))) (getInt v5 ((v6+((Int.toNat v1)*4))+1)) (getInt v5 (((v6+((Int.toNat v1)*4))+1)+1)) (getInt v5 ((((v6+((Int.toNat v1)*4))+1)+1)+1)))),(Qi6 (X46_2.mk v0 v1 (0:Int) v2 v3 v4 v5 v6 v7 v8 v9 v10 v11 (getStr v5 (v6+((Int.toNat v1)*4))) (getInt v5 ((v6+((Int.toNat v1)*4))+1)) (getInt v5 (((v6+((Int.toNat v1)*4))+1)+1)) (getInt v5 ((((v6+((Int.toNat v1)*4))+1)+1)+1)))),(Qi7 (X46_2.mk v0 v1 (0:Int) v2 v3 v4 v5 v6 v7 v8 v9 v10 v11 (getStr v5 (v6+((Int.toNat v1)*4))) (getInt v5 ((v6+((Int.toNat v1)*4))+1)) (getInt v5 (((v6+((Int.toNat v1)*4))+1)+1)) (getInt v5 ((((v6+((Int.toNat v1)*4))+1)+1)+1)))),(Qi8 (X46_2.mk v0 v1 (0:Int) v2 v3 v4 v5 v6 v7 v8 v9 v10 v11 (getStr v5 (v6+((Int.toNat v1)*4))) (getInt v5 ((v6+((Int.toNat v1)*4))+1)) (getInt v5 (((v6+((Int.toNat v1)*4))+1)+1)) (getInt v5 ((((v6+((Int.toNat v1)*4))+1)+1)+1)))),(Qi9 (X46_2.mk v0 v1 (0:Int) v2 v3 v4 v5 v6 v7 v8 v9 v10 v11 (getStr v5 (v6+((Int.toNat v1)*4))) (getInt v5 ((v6+((Int.toNat v1)*4))+1)) (getInt v5 (((v6+((Int.toNat v1)*4))+1)+1)) (getInt v5 ((((v6+((Int.toNat v1)*4))+1)+1)+1)))),(Qi10 (X46_2.mk v0 v1 (0:Int) v2 v3 v4 v5 v6 v7 v8 v9 v10 v11 (getStr v5 (v6+((Int.toNat v1)*4))) (getInt v5 ((v6+((Int.toNat v1)*4))+1)) (getInt v5 (((v6+((Int.toNat v1)*4))+1)+1)) (getInt v5 ((((v6+((Int.toNat v1)*4))+1)+1)+1)))),(Qi11 (X46_2.mk v0 v1 (0:Int) v2 v3 v4 v5 v6 v7 v8 v9 v10 v11 (getStr v5 (v6+((Int.toNat v1)*4))) (getInt v5 ((v6+((Int.toNat v1)*4))+1)) (getInt v5 (((v6+((Int.toNat v1)*4))+1)+1)) (getInt v5 ((((v6+((Int.toNat v1)*4))+1)+1)+1))))⟩)) (.no))) (.no)) (.no)) (.no)) (.leaf (.inr (.k1 (v2) (v3) (v4) (v5) (v6) (v7) (v8) (v9) (v10) (v11))))
theorem T46_1 (J2:Task→List Value)(y:List Value)(v0:Int)(v1:Int)(v2:ByteArray)(v3:Int)(v4:Int)(v5:Array Value)(v6:Nat)(v7:Nat)(v8:ByteArray)(v9:Int)(v10:Int)(v11:Int):evC Try.prog (Ans.c (p45.or (p85.or (la46_2 J2)))) 60 (.code none (theLoop Try.prog 46 1) ⟨sets (junkF 99 y) [(1,(.int .i64 v0)),(2,(Value.pointer (Option.some (Addr.mk 0 0 Option.none)))),(5,(Value.pointer (Option.some (Addr.mk 1 0 Option.none)))),(7,(.int .i64 v1))],[],⟨[.cells ⟨[(.string v2),(.int .i64 v3),(.int .i64 v4),(lstV v5 v6 v7 4)]⟩ false,.cells ⟨[(.string v8),(.int .i64 v9),(.int .i64 v10),(.int .i64 v11)]⟩ false],0,[]⟩⟩) (sumK 2 99 Lp46_1.pk)=(rd46_1 ⟨v0,v1,v2,v3,v4,v5,v6,v7,v8,v9,v10,v11⟩).out Lp46_1.enc:=by kernel_rfl
def L46_1 (x:X46_1):Option D46_1:=loopR rd46_1 x
section
variable (x:X46_1)
def L46_1_k0:Bool:=match L46_1 x with | some (.k0 ..)=>true | _=>false
def Qj0:Int:=match L46_1 x with | some (.k0 d _ _ _ _ _ _ _ _ _ _)=>d | _=>0
def Qj1:ByteArray:=match L46_1 x with | some (.k0 _ d _ _ _ _ _ _ _ _ _)=>d | _=>ByteArray.empty
def Qj2:Int:=match L46_1 x with | some (.k0 _ _ d _ _ _ _ _ _ _ _)=>d | _=>0
def Qj3:Int:=match L46_1 x with | some (.k0 _ _ _ d _ _ _ _ _ _ _)=>d | _=>0
def Qj4:Array Value:=match L46_1 x with | some (.k0 _ _ _ _ d _ _ _ _ _ _)=>d | _=>#[]
def Qj5:Nat:=match L46_1 x with | some (.k0 _ _ _ _ _ d _ _ _ _ _)=>d | _=>0
def Qj6:Nat:=match L46_1 x with | some (.k0 _ _ _ _ _ _ d _ _ _ _)=>d | _=>0
def Qj7:ByteArray:=match L46_1 x with | some (.k0 _ _ _ _ _ _ _ d _ _ _)=>d | _=>ByteArray.empty
def Qj8:Int:=match L46_1 x with | some (.k0 _ _ _ _ _ _ _ _ d _ _)=>d | _=>0
def Qj9:Int:=match L46_1 x with | some (.k0 _ _ _ _ _ _ _ _ _ d _)=>d | _=>0
def Qj10:Int:=match L46_1 x with | some (.k0 _ _ _ _ _ _ _ _ _ _ d)=>d | _=>0
def L46_1_k1:Bool:=match L46_1 x with | some (.k1 ..)=>true | _=>false
def Qk0:ByteArray:=match L46_1 x with | some (.k1 d _ _ _ _ _ _ _ _ _)=>d | _=>ByteArray.empty
def Qk1:Int:=match L46_1 x with | some (.k1 _ d _ _ _ _ _ _ _ _)=>d | _=>0
def Qk2:Int:=match L46_1 x with | some (.k1 _ _ d _ _ _ _ _ _ _)=>d | _=>0
def Qk3:Array Value:=match L46_1 x with | some (.k1 _ _ _ d _ _ _ _ _ _)=>d | _=>#[]
def Qk4:Nat:=match L46_1 x with | some (.k1 _ _ _ _ d _ _ _ _ _)=>d | _=>0
def Qk5:Nat:=match L46_1 x with | some (.k1 _ _ _ _ _ d _ _ _ _)=>d | _=>0
def Qk6:ByteArray:=match L46_1 x with | some (.k1 _ _ _ _ _ _ d _ _ _)=>d | _=>ByteArray.empty
def Qk7:Int:=match L46_1 x with | some (.k1 _ _ _ _ _ _ _ d _ _)=>d | _=>0
def Qk8:Int:=match L46_1 x with | some (.k1 _ _ _ _ _ _ _ _ d _)=>d | _=>0
def Qk9:Int:=match L46_1 x with | some (.k1 _ _ _ _ _ _ _ _ _ d)=>d | _=>0
end
def dec46_1:Task→Option (Code×X46_1)
  | .code none (.loop code) ⟨t,[],⟨[.cells ⟨[(.string v2),(.int .i64 v3),(.int .i64 v4),(.func (.via 0 ⟨[]⟩ 0 true) v5 ⟨[.slice (some ⟨0,v6,none⟩) v7 4]⟩)]⟩ false,.cells ⟨[(.string v8),(.int .i64 v9),(.int .i64 v10),(.int .i64 v11)]⟩ false],0,[]⟩⟩ =>
    (match Nat.beq (firstReg code) 12,lenIs t 99,lget t 1,lget t 2,lget t 5,lget t 7 with
    | true,true,(.int .i64 v0),(Value.pointer (Option.some (Addr.mk 0 0 Option.none))),(Value.pointer (Option.some (Addr.mk 1 0 Option.none))),(.int .i64 v1)=>some (code,⟨v0,v1,v2,v3,v4,v5,v6,v7,v8,v9,v10,v11⟩)
    | _,_,_,_,_,_=>none)
  | _=>none
def alt46_1 (x:X46_1)(j:List Value):AT:=.br (L46_1_k0 x) (loopEnd 99 (.ret) [(4,(.int .i64 (Qj0 x)))] ⟨[.cells ⟨[(.string (Qj1 x)),(.int .i64 (Qj2 x)),(.int .i64 (Qj3 x)),(lstV (Qj4 x) (Qj5 x) (Qj6 x) 4)]⟩ false,.cells ⟨[(.string (Qj7 x)),(.int .i64 (Qj8 x)),(.int .i64 (Qj9 x)),(.int .i64 (Qj10 x))]⟩ false],0,[]⟩ j) (.br (L46_1_k1 x) (loopEnd 99 (.exit 2) [] ⟨[.cells ⟨[(.string (Qk0 x)),(.int .i64 (Qk1 x)),(.int .i64 (Qk2 x)),(lstV (Qk3 x) (Qk4 x) (Qk5 x) 4)]⟩ false,.cells ⟨[(.string (Qk6 x)),(.int .i64 (Qk7 x)),(.int .i64 (Qk8 x)),(.int .i64 (Qk9 x))]⟩ false],0,[]⟩ j) (.no))
def la46_1 (J:Task→List Value):Ans:=loopAns Lp46_1.c dec46_1 alt46_1 J
theorem ha46_1:∀(x:X46_1) (j:List Value)(o:Out),(alt46_1 x j).out=some o→∃d,loopR rd46_1 x=some d∧o=Lp46_1.tail d j:=by
  intro x j o h
  unfold alt46_1 at h
  cases hL:L46_1 x with
  | none=>simp [L46_1_k0,Qj0,Qj1,Qj2,Qj3,Qj4,Qj5,Qj6,Qj7,Qj8,Qj9,Qj10,L46_1_k1,Qk0,Qk1,Qk2,Qk3,Qk4,Qk5,Qk6,Qk7,Qk8,Qk9,hL,AT.out]at h
  | some d =>
    refine ⟨d,hL,?_⟩
    cases d<;>(simp only [L46_1_k0,Qj0,Qj1,Qj2,Qj3,Qj4,Qj5,Qj6,Qj7,Qj8,Qj9,Qj10,L46_1_k1,Qk0,Qk1,Qk2,Qk3,Qk4,Qk5,Qk6,Qk7,Qk8,Qk9,hL,AT.out,loopEnd,cond_true,cond_false,Option.some.injEq]at h;rw [← h];rfl)
theorem hd46_1:∀(t:Task) (c:Code)(x:X46_1),dec46_1 t=some (c,x)→c=Lp46_1.c→∃T,t=.code none (.loop Lp46_1.c) ⟨T,[],⟨Lp46_1.hp x,0,[]⟩⟩∧T.length=Lp46_1.N∧∀kv∈Lp46_1.S.zip (Lp46_1.sl x),lget T kv.1=kv.2:=by
  intro t c x h hc
  unfold dec46_1 at h
  split at h
  case h_2=>cases h
  split at h
  case h_2=>cases h
  simp only [Option.some.injEq,Prod.mk.injEq]at h
  obtain ⟨rfl,rfl⟩:=h
  subst hc
  refine ⟨_,rfl,lenIs_eq _ _ (by assumption),?_⟩
  intro kv hk
  simp only [Lp46_1,List.zip_cons_cons,List.zip_nil_right,List.mem_cons,List.not_mem_nil,or_false]at hk
  rcases hk with rfl | rfl | rfl | rfl<;>assumption
theorem kl46_1:∃J,Known Try.prog (la46_1 J):=by
  obtain ⟨J2,hJ2⟩:=kl46_2
  exact LoopOf.known noNG mixed ok46_1 (by decide) (by decide) (Known.or known45 (Known.or known85 hJ2)) (n:=60) (rd:=rd46_1) (fun x j=>T46_1 J2 j x.v0 x.v1 x.v2 x.v3 x.v4 x.v5 x.v6 x.v7 x.v8 x.v9 x.v10 x.v11) dec46_1 alt46_1 hd46_1 ha46_1
structure R46 where
  r0:Int
structure A46 where
  a0:ByteArray
  a1:Int
  a2:Int
  a3:Array Value
  a4:Nat
  a5:Nat
  a6:Int
def rt46 (a0:ByteArray)(a1:Int)(a2:Int)(a3:Array Value)(a4:Nat)(a5:Nat)(a6:Int):RT R46 :=
  .br (and (decide ((0:Int)≤a6)) (decide (a6<(Int.ofNat a5)))) (.br (rdOk a3 [Leaf.str,(Leaf.int .i64),(Leaf.int .i64),(Leaf.int .i64)] (a4+((Int.toNat a6)*4))) (.br (F85_ok (getStr a3 (a4+((Int.toNat a6)*4)))) (.br (not (F85_0 (getStr a3 (a4+((Int.toNat a6)*4))))) (.leaf ⟨(6:Int)⟩)
     (.sw (eqCode (Lp46_0.c) (Lp46_0.c)) true (by simp only [eqCode_self,arrEq_self]) (.br (L46_0_k0 (X46_0.mk a6 (0:Int) a0 a1 a2 a3 a4 a5 (getStr a3 (a4+((Int.toNat a6)*4))) (getInt a3 ((a4+((Int.toNat a6)*4))+1)) (getInt a3 (((a4+((Int.toNat a6)*4))+1)+1)) (getInt a3 ((((a4+((Int.toNat a6)*4))+1)+1)+1)))) (.leaf ⟨(Qf0 (X46_0.mk a6 (0:Int) a0 a1 a2 a3 a4 a5 (getStr a3 (a4+((Int.toNat a6)*4))) (getInt a3 ((a4+((Int.toNat a6)*4))+1)) (getInt a3 (((a4+((Int.toNat a6)*4))+1)+1)) (getInt a3 ((((a4+((Int.toNat a6)*4))+1)+1)+1))))⟩) (.br (L46_0_k1 (X46_0.mk a6 (0:Int) a0 a1 a2 a3 a4 a5 (getStr a3 (a4+((Int.toNat a6)*4))) (getInt a3 ((a4+((Int.toNat a6)*4))+1)) (getInt a3 (((a4+((Int.toNat a6)*4))+1)+1)) (getInt a3 ((((a4+((Int.toNat a6)*4))+1)+1)+1))))
     (.br (F45_ok (Qg8 (X46_0.mk a6 (0:Int) a0 a1 a2 a3 a4 a5 (getStr a3 (a4+((Int.toNat a6)*4))) (getInt a3 ((a4+((Int.toNat a6)*4))+1)) (getInt a3 (((a4+((Int.toNat a6)*4))+1)+1)) (getInt a3 ((((a4+((Int.toNat a6)*4))+1)+1)+1)))) (0:Int) (IntKind.wrap .i64 ((Qg2 (X46_0.mk a6 (0:Int) a0 a1 a2 a3 a4 a5 (getStr a3 (a4+((Int.toNat a6)*4))) (getInt a3 ((a4+((Int.toNat a6)*4))+1)) (getInt a3 (((a4+((Int.toNat a6)*4))+1)+1)) (getInt a3 ((((a4+((Int.toNat a6)*4))+1)+1)+1))))-(1:Int)))) (.br (not (F45_0 (Qg8 (X46_0.mk a6 (0:Int) a0 a1 a2 a3 a4 a5 (getStr a3 (a4+((Int.toNat a6)*4))) (getInt a3 ((a4+((Int.toNat a6)*4))+1)) (getInt a3 (((a4+((Int.toNat a6)*4))+1)+1)) (getInt a3 ((((a4+((Int.toNat a6)*4))+1)+1)+1)))) (0:Int) (IntKind.wrap .i64 ((Qg2 (X46_0.mk a6 (0:Int) a0 a1 a2 a3 a4 a5 (getStr a3 (a4+((Int.toNat a6)*4))) (getInt a3 ((a4+((Int.toNat a6)*4))+1)) (getInt a3 (((a4+((Int.toNat a6)*4))+1)+1)) (getInt a3 ((((a4+((Int.toNat a6)*4))+1)+1)+1))))-(1:Int))))) (.leaf ⟨(7:Int)⟩)
     (.br (decide ((Qg9 (X46_0.mk a6 (0:Int) a0 a1 a2 a3 a4 a5 (getStr a3 (a4+((Int.toNat a6)*4))) (getInt a3 ((a4+((Int.toNat a6)*4))+1)) (getInt a3 (((a4+((Int.toNat a6)*4))+1)+1)) (getInt a3 ((((a4+((Int.toNat a6)*4))+1)+1)+1))))<(1:Int))) (.leaf ⟨(7:Int)⟩) (.br (not (decide ((Qg9 (X46_0.mk a6 (0:Int) a0 a1 a2 a3 a4 a5 (getStr a3 (a4+((Int.toNat a6)*4))) (getInt a3 ((a4+((Int.toNat a6)*4))+1)) (getInt a3 (((a4+((Int.toNat a6)*4))+1)+1)) (getInt a3 ((((a4+((Int.toNat a6)*4))+1)+1)+1))))=(0:Int)))) (.br (not (decide ((Int.tmod (Qg3 (X46_0.mk a6 (0:Int) a0 a1 a2 a3 a4 a5 (getStr a3 (a4+((Int.toNat a6)*4))) (getInt a3 ((a4+((Int.toNat a6)*4))+1)) (getInt a3 (((a4+((Int.toNat a6)*4))+1)+1)) (getInt a3 ((((a4+((Int.toNat a6)*4))+1)+1)+1)))) (Qg9 (X46_0.mk a6 (0:Int) a0 a1 a2 a3 a4 a5 (getStr a3 (a4+((Int.toNat a6)*4))) (getInt a3 ((a4+((Int.toNat a6)*4))+1)) (getInt a3 (((a4+((Int.toNat a6)*4))+1)+1)) (getInt a3 ((((a4+((Int.toNat a6)*4))+1)+1)+1)))))=(0:Int)))) (.leaf ⟨(7:Int)⟩)
     (.br (F45_ok (Qg10 (X46_0.mk a6 (0:Int) a0 a1 a2 a3 a4 a5 (getStr a3 (a4+((Int.toNat a6)*4))) (getInt a3 ((a4+((Int.toNat a6)*4))+1)) (getInt a3 (((a4+((Int.toNat a6)*4))+1)+1)) (getInt a3 ((((a4+((Int.toNat a6)*4))+1)+1)+1)))) (0:Int) (IntKind.wrap .i64 ((Qg9 (X46_0.mk a6 (0:Int) a0 a1 a2 a3 a4 a5 (getStr a3 (a4+((Int.toNat a6)*4))) (getInt a3 ((a4+((Int.toNat a6)*4))+1)) (getInt a3 (((a4+((Int.toNat a6)*4))+1)+1)) (getInt a3 ((((a4+((Int.toNat a6)*4))+1)+1)+1))))-(1:Int)))) (.br (not (F45_0 (Qg10 (X46_0.mk a6 (0:Int) a0 a1 a2 a3 a4 a5 (getStr a3 (a4+((Int.toNat a6)*4))) (getInt a3 ((a4+((Int.toNat a6)*4))+1)) (getInt a3 (((a4+((Int.toNat a6)*4))+1)+1)) (getInt a3 ((((a4+((Int.toNat a6)*4))+1)+1)+1)))) (0:Int) (IntKind.wrap .i64 ((Qg9 (X46_0.mk a6 (0:Int) a0 a1 a2 a3 a4 a5 (getStr a3 (a4+((Int.toNat a6)*4))) (getInt a3 ((a4+((Int.toNat a6)*4))+1)) (getInt a3 (((a4+((Int.toNat a6)*4))+1)+1)) (getInt a3 ((((a4+((Int.toNat a6)*4))+1)+1)+1))))-(1:Int))))) (.leaf ⟨(7:Int)⟩)
               (.sw (eqCode (Lp46_1.c) (Lp46_1.c)) true (by simp only [eqCode_self,arrEq_self])
     (.br (L46_1_k0 (X46_1.mk (Qg0 (X46_0.mk a6 (0:Int) a0 a1 a2 a3 a4 a5 (getStr a3 (a4+((Int.toNat a6)*4))) (getInt a3 ((a4+((Int.toNat a6)*4))+1)) (getInt a3 (((a4+((Int.toNat a6)*4))+1)+1)) (getInt a3 ((((a4+((Int.toNat a6)*4))+1)+1)+1)))) (0:Int) (Qg1 (X46_0.mk a6 (0:Int) a0 a1 a2 a3 a4 a5 (getStr a3 (a4+((Int.toNat a6)*4))) (getInt a3 ((a4+((Int.toNat a6)*4))+1)) (getInt a3 (((a4+((Int.toNat a6)*4))+1)+1)) (getInt a3 ((((a4+((Int.toNat a6)*4))+1)+1)+1)))) (Qg2 (X46_0.mk a6 (0:Int) a0 a1 a2 a3 a4 a5 (getStr a3 (a4+((Int.toNat a6)*4))) (getInt a3 ((a4+((Int.toNat a6)*4))+1)) (getInt a3 (((a4+((Int.toNat a6)*4))+1)+1)) (getInt a3 ((((a4+((Int.toNat a6)*4))+1)+1)+1)))) (Qg3 (X46_0.mk a6 (0:Int) a0 a1 a2 a3 a4 a5 (getStr a3 (a4+((Int.toNat a6)*4))) (getInt a3 ((a4+((Int.toNat a6)*4))+1)) (getInt a3 (((a4+((Int.toNat a6)*4))+1)+1)) (getInt a3 ((((a4+((Int.toNat a6)*4))+1)+1)+1)))) (Qg4 (X46_0.mk a6 (0:Int) a0 a1 a2 a3 a4 a5 (getStr a3 (a4+((Int.toNat a6)*4))) (getInt a3 ((a4+((Int.toNat a6)*4))+1)) (getInt a3 (((a4+((Int.toNat a6)*4))+1)+1)) (getInt a3 ((((a4+((Int.toNat a6)*4))+1)+1)+1)))) (Qg5 (X46_0.mk a6 (0:Int) a0 a1 a2 a3 a4 a5 (getStr a3 (a4+((Int.toNat a6)*4))) (getInt a3 ((a4+((Int.toNat a6)*4))+1)) (getInt a3 (((a4+((Int.toNat a6)*4))+1)+1)) (getInt a3 ((((a4+((Int.toNat a6)*4))+1)+1)+1)))) (Qg6 (X46_0.mk a6 (0:Int) a0 a1 a2 a3 a4 a5 (getStr a3 (a4+((Int.toNat a6)*4))) (getInt a3 ((a4+((Int.toNat a6)*4))+1)) (getInt a3 (((a4+((Int.toNat a6)*4))+1)+1)) (getInt a3 ((((a4+((Int.toNat a6)*4))+1)+1)+1)))) (Qg7 (X46_0.mk a6 (0:Int) a0 a1 a2 a3 a4 a5 (getStr a3 (a4+((Int.toNat a6)*4))) (getInt a3 ((a4+((Int.toNat a6)*4))+1)) (getInt a3 (((a4+((Int.toNat a6)*4))+1)+1)) (getInt a3 ((((a4+((Int.toNat a6)*4))+1)+1)+1)))) (Qg8 (X46_0.mk a6 (0:Int) a0 a1 a2 a3 a4 a5 (getStr a3 (a4+((Int.toNat a6)*4))) (getInt a3 ((a4+((Int.toNat a6)*4))+1)) (getInt a3 (((a4+((Int.toNat a6)*4))+1)+1)) (getInt a3 ((((a4+((Int.toNat a6)*4))+1)+1)+1)))) (Qg9 (X46_0.mk a6 (0:Int) a0 a1 a2 a3 a4 a5 (getStr a3 (a4+((Int.toNat a6)*4))) (getInt a3 ((a4+((Int.toNat a6)*4))+1)) (getInt a3 (((a4+((Int.toNat a6)*4))+1)+1)) (getInt a3 ((((a4+((Int.toNat a6)*4))+1)+1)+1)))) (Qg10 (X46_0.mk a6 (0:Int) a0 a1 a2 a3 a4 a5 (getStr a3 (a4+((Int.toNat a6)*4))) (getInt a3 ((a4+((Int.toNat a6)*4))+1)) (getInt a3 (((a4+((Int.toNat a6)*4))+1)+1)) (getInt a3 ((((a4+((Int.toNat a6)*4))+1)+1)+1)))))) (.leaf ⟨(Qj0 (X46_1.mk (Qg0 (X46_0.mk a6 (0:Int) a0 a1 a2 a3 a4 a5 (getStr a3 (a4+((Int.toNat a6)*4))) (getInt a3 ((a4+((Int.toNat a6)*4))+1)) (getInt a3 (((a4+((Int.toNat a6)*4))+1)+1)) (getInt a3 ((((a4+((Int.toNat a6)*4))+1)+1)+1)))) (0:Int) (Qg1 (X46_0.mk a6 (0:Int) a0 a1 a2 a3 a4 a5 (getStr a3 (a4+((Int.toNat a6)*4))) (getInt a3 ((a4+((Int.toNat a6)*4))+1)) (getInt a3 (((a4+((Int.toNat a6)*4))+1)+1)) (getInt a3 ((((a4+((Int.toNat a6)*4))+1)+1)+1)))) (Qg2 (X46_0.mk a6 (0:Int) a0 a1 a2 a3 a4 a5 (getStr a3 (a4+((Int.toNat a6)*4))) (getInt a3 ((a4+((Int.toNat a6)*4))+1)) (getInt a3 (((a4+((Int.toNat a6)*4))+1)+1)) (getInt a3 ((((a4+((Int.toNat a6)*4))+1)+1)+1)))) (Qg3 (X46_0.mk a6 (0:Int) a0 a1 a2 a3 a4 a5 (getStr a3 (a4+((Int.toNat a6)*4))) (getInt a3 ((a4+((Int.toNat a6)*4))+1)) (getInt a3 (((a4+((Int.toNat a6)*4))+1)+1)) (getInt a3 ((((a4+((Int.toNat a6)*4))+1)+1)+1)))) (Qg4 (X46_0.mk a6 (0:Int) a0 a1 a2 a3 a4 a5 (getStr a3 (a4+((Int.toNat a6)*4))) (getInt a3 ((a4+((Int.toNat a6)*4))+1)) (getInt a3 (((a4+((Int.toNat a6)*4))+1)+1)) (getInt a3 ((((a4+((Int.toNat a6)*4))+1)+1)+1)))) (Qg5 (X46_0.mk a6 (0:Int) a0 a1 a2 a3 a4 a5 (getStr a3 (a4+((Int.toNat a6)*4))) (getInt a3 ((a4+((Int.toNat a6)*4))+1)) (getInt a3 (((a4+((Int.toNat a6)*4))+1)+1)) (getInt a3 ((((a4+((Int.toNat a6)*4))+1)+1)+1)))) (Qg6 (X46_0.mk a6 (0:Int) a0 a1 a2 a3 a4 a5 (getStr a3 (a4+((Int.toNat a6)*4))) (getInt a3 ((a4+((Int.toNat a6)*4))+1)) (getInt a3 (((a4+((Int.toNat a6)*4))+1)+1)) (getInt a3 ((((a4+((Int.toNat a6)*4))+1)+1)+1)))) (Qg7 (X46_0.mk a6 (0:Int) a0 a1 a2 a3 a4 a5 (getStr a3 (a4+((Int.toNat a6)*4))) (getInt a3 ((a4+((Int.toNat a6)*4))+1)) (getInt a3 (((a4+((Int.toNat a6)*4))+1)+1)) (getInt a3 ((((a4+((Int.toNat a6)*4))+1)+1)+1)))) (Qg8 (X46_0.mk a6 (0:Int) a0 a1 a2 a3 a4 a5 (getStr a3 (a4+((Int.toNat a6)*4))) (getInt a3 ((a4+((Int.toNat a6)*4))+1)) (getInt a3 (((a4+((Int.toNat a6)*4))+1)+1)) (getInt a3 ((((a4+((Int.toNat a6)*4))+1)+1)+1)))) (Qg9 (X46_0.mk a6 (0:Int) a0 a1 a2 a3 a4 a5 (getStr a3 (a4+((Int.toNat a6)*4))) (getInt a3 ((a4+((Int.toNat a6)*4))+1)) (getInt a3 (((a4+((Int.toNat a6)*4))+1)+1)) (getInt a3 ((((a4+((Int.toNat a6)*4))+1)+1)+1)))) (Qg10 (X46_0.mk a6 (0:Int) a0 a1 a2 a3 a4 a5 (getStr a3 (a4+((Int.toNat a6)*4))) (getInt a3 ((a4+((Int.toNat a6)*4))+1)) (getInt a3 (((a4+((Int.toNat a6)*4))+1)+1)) (getInt a3 ((((a4+((Int.toNat a6)*4))+1)+1)+1))))))⟩)
     (.br (L46_1_k1 (X46_1.mk (Qg0 (X46_0.mk a6 (0:Int) a0 a1 a2 a3 a4 a5 (getStr a3 (a4+((Int.toNat a6)*4))) (getInt a3 ((a4+((Int.toNat a6)*4))+1)) (getInt a3 (((a4+((Int.toNat a6)*4))+1)+1)) (getInt a3 ((((a4+((Int.toNat a6)*4))+1)+1)+1)))) (0:Int) (Qg1 (X46_0.mk a6 (0:Int) a0 a1 a2 a3 a4 a5 (getStr a3 (a4+((Int.toNat a6)*4))) (getInt a3 ((a4+((Int.toNat a6)*4))+1)) (getInt a3 (((a4+((Int.toNat a6)*4))+1)+1)) (getInt a3 ((((a4+((Int.toNat a6)*4))+1)+1)+1)))) (Qg2 (X46_0.mk a6 (0:Int) a0 a1 a2 a3 a4 a5 (getStr a3 (a4+((Int.toNat a6)*4))) (getInt a3 ((a4+((Int.toNat a6)*4))+1)) (getInt a3 (((a4+((Int.toNat a6)*4))+1)+1)) (getInt a3 ((((a4+((Int.toNat a6)*4))+1)+1)+1)))) (Qg3 (X46_0.mk a6 (0:Int) a0 a1 a2 a3 a4 a5 (getStr a3 (a4+((Int.toNat a6)*4))) (getInt a3 ((a4+((Int.toNat a6)*4))+1)) (getInt a3 (((a4+((Int.toNat a6)*4))+1)+1)) (getInt a3 ((((a4+((Int.toNat a6)*4))+1)+1)+1)))) (Qg4 (X46_0.mk a6 (0:Int) a0 a1 a2 a3 a4 a5 (getStr a3 (a4+((Int.toNat a6)*4))) (getInt a3 ((a4+((Int.toNat a6)*4))+1)) (getInt a3 (((a4+((Int.toNat a6)*4))+1)+1)) (getInt a3 ((((a4+((Int.toNat a6)*4))+1)+1)+1)))) (Qg5 (X46_0.mk a6 (0:Int) a0 a1 a2 a3 a4 a5 (getStr a3 (a4+((Int.toNat a6)*4))) (getInt a3 ((a4+((Int.toNat a6)*4))+1)) (getInt a3 (((a4+((Int.toNat a6)*4))+1)+1)) (getInt a3 ((((a4+((Int.toNat a6)*4))+1)+1)+1)))) (Qg6 (X46_0.mk a6 (0:Int) a0 a1 a2 a3 a4 a5 (getStr a3 (a4+((Int.toNat a6)*4))) (getInt a3 ((a4+((Int.toNat a6)*4))+1)) (getInt a3 (((a4+((Int.toNat a6)*4))+1)+1)) (getInt a3 ((((a4+((Int.toNat a6)*4))+1)+1)+1)))) (Qg7 (X46_0.mk a6 (0:Int) a0 a1 a2 a3 a4 a5 (getStr a3 (a4+((Int.toNat a6)*4))) (getInt a3 ((a4+((Int.toNat a6)*4))+1)) (getInt a3 (((a4+((Int.toNat a6)*4))+1)+1)) (getInt a3 ((((a4+((Int.toNat a6)*4))+1)+1)+1)))) (Qg8 (X46_0.mk a6 (0:Int) a0 a1 a2 a3 a4 a5 (getStr a3 (a4+((Int.toNat a6)*4))) (getInt a3 ((a4+((Int.toNat a6)*4))+1)) (getInt a3 (((a4+((Int.toNat a6)*4))+1)+1)) (getInt a3 ((((a4+((Int.toNat a6)*4))+1)+1)+1)))) (Qg9 (X46_0.mk a6 (0:Int) a0 a1 a2 a3 a4 a5 (getStr a3 (a4+((Int.toNat a6)*4))) (getInt a3 ((a4+((Int.toNat a6)*4))+1)) (getInt a3 (((a4+((Int.toNat a6)*4))+1)+1)) (getInt a3 ((((a4+((Int.toNat a6)*4))+1)+1)+1)))) (Qg10 (X46_0.mk a6 (0:Int) a0 a1 a2 a3 a4 a5 (getStr a3 (a4+((Int.toNat a6)*4))) (getInt a3 ((a4+((Int.toNat a6)*4))+1)) (getInt a3 (((a4+((Int.toNat a6)*4))+1)+1)) (getInt a3 ((((a4+((Int.toNat a6)*4))+1)+1)+1)))))) (.leaf ⟨(0:Int)⟩) (.no))) (.no))) (.no))) (.no)))) (.no)) (.no))) (.no))) (.no)) (.no)) (.no)
def en46 (r:R46):Value:=(.int .i64 r.r0)
theorem T46 (J0:Task→List Value)(J1:Task→List Value)(a0:ByteArray)(a1:Int)(a2:Int)(a3:Array Value)(a4:Nat)(a5:Nat)(a6:Int):evC Try.prog (Ans.c (p45.or (p85.or ((la46_0 J0).or (la46_1 J1))))) 60 (.call 46 ⟨[(.agg ⟨[(.string a0),(.int .i64 a1),(.int .i64 a2),(lstV a3 a4 a5 4)]⟩),(.int .i64 a6)]⟩ ⟨[],0,[]⟩) (frzK [0])=(rt46 a0 a1 a2 a3 a4 a5 a6).out (fun r=>.ret (en46 r) ⟨[],0,[]⟩):=by kernel_rfl
def F46 (a0:ByteArray)(a1:Int)(a2:Int)(a3:Array Value)(a4:Nat)(a5:Nat)(a6:Int):Option R46:=(rt46 a0 a1 a2 a3 a4 a5 a6).val
section
variable (a0:ByteArray) (a1:Int) (a2:Int) (a3:Array Value) (a4:Nat) (a5:Nat) (a6:Int)
def F46_ok:Bool:=(F46 a0 a1 a2 a3 a4 a5 a6).isSome
def F46_0:Int:=match F46 a0 a1 a2 a3 a4 a5 a6 with | some r=>r.r0 | none=>0
end
def dec46:Task→Option (A46×Hp)
  | .call g ⟨[(.agg ⟨[(.string a0),(.int .i64 a1),(.int .i64 a2),(.func (.via 0 ⟨[]⟩ 0 true) a3 ⟨[.slice (some ⟨0,a4,none⟩) a5 4]⟩)]⟩),(.int .i64 a6)]⟩ h=>(match Nat.beq g 46 with | true=>some (⟨a0,a1,a2,a3,a4,a5,a6⟩,h) | false=>none)
  | _=>none
def alt46 (x:A46)(h:Hp):AT:=.br (F46_ok x.a0 x.a1 x.a2 x.a3 x.a4 x.a5 x.a6) (.leaf (.ret (.int .i64 (F46_0 x.a0 x.a1 x.a2 x.a3 x.a4 x.a5 x.a6)) h)) .no
def p46:Ans:=fnAns dec46 alt46
theorem ha46:∀(x:A46) (h:Hp)(o:Out),(alt46 x h).out=some o→∃r,(rt46 x.a0 x.a1 x.a2 x.a3 x.a4 x.a5 x.a6).val=some r∧o=.ret (en46 r) h:=by
  intro x h o e
  unfold alt46 at e
  simp only [AT.out]at e
  obtain ⟨g,e⟩:=cond_some e
  unfold F46_ok at g
  obtain ⟨r,hF⟩:=Option.isSome_iff_exists.1 g
  have hv:F46 x.a0 x.a1 x.a2 x.a3 x.a4 x.a5 x.a6=(rt46 x.a0 x.a1 x.a2 x.a3 x.a4 x.a5 x.a6).val:=by delta F46;exact rfl
  refine ⟨r,hv.symm.trans hF,?_⟩
  simp only [Option.some.injEq]at e
  rw [← e]
  have k0:F46_0 x.a0 x.a1 x.a2 x.a3 x.a4 x.a5 x.a6=r.r0:=by
    show (match F46 x.a0 x.a1 x.a2 x.a3 x.a4 x.a5 x.a6 with | some r=>r.r0 | none=>0)=r.r0
    rw [hF]
  rw [k0]<;>rfl
theorem hd46:∀(t:Task) (x:A46)(h:Hp),dec46 t=some (x,h)→t=.call 46 ⟨[(.agg ⟨[(.string x.a0),(.int .i64 x.a1),(.int .i64 x.a2),(lstV x.a3 x.a4 x.a5 4)]⟩),(.int .i64 x.a6)]⟩ h:=by
  intro t x h e
  unfold dec46 at e
  split at e
  case h_2=>cases e
  split at e
  case h_2=>cases e
  rename_i hg
  simp only [Option.some.injEq,Prod.mk.injEq]at e
  obtain ⟨rfl,rfl⟩:=e
  rw [Nat.eq_of_beq_eq_true hg]
theorem known46:Known Try.prog p46:=by
  obtain ⟨J0,hJ0⟩:=kl46_0
  obtain ⟨J1,hJ1⟩:=kl46_1
  exact Known.fn noNG mixed (Known.or known45 (Known.or known85 (Known.or hJ0 hJ1))) (n:=60) (zs:=[0]) 46 (fun x:A46=>[(.agg ⟨[(.string x.a0),(.int .i64 x.a1),(.int .i64 x.a2),(lstV x.a3 x.a4 x.a5 4)]⟩),(.int .i64 x.a6)]) (fun x=>rt46 x.a0 x.a1 x.a2 x.a3 x.a4 x.a5 x.a6) en46 (fun x=>T46 J0 J1 x.a0 x.a1 x.a2 x.a3 x.a4 x.a5 x.a6) (fun x=>rfl) dec46 alt46 hd46 ha46
structure X16_0 where
  v0:Int
  v1:ByteArray
  v2:Int
  v3:Int
  v4:Array Value
  v5:Nat
  v6:Nat
inductive D16_0 where
  | k0 (d0:Int) (d1:Int) (d2:Int) (d3:ByteArray) (d4:Int) (d5:Int) (d6:Array Value) (d7:Nat) (d8:Nat)
  | k1 (d0:ByteArray) (d1:Int) (d2:Int) (d3:Array Value) (d4:Nat) (d5:Nat)
def Lp16_0:LoopOf X16_0 D16_0 where
  c:=(theLoop Try.prog 16 0)
  N:=64
  M:=1
  S:=[1,6]
  sl:=fun x=>[(Value.pointer (Option.some (Addr.mk 0 0 Option.none))),(.int .i64 x.v0)]
  hp:=fun x=>[.cells ⟨[(.string x.v1),(.int .i64 x.v2),(.int .i64 x.v3),(lstV x.v4 x.v5 x.v6 4)]⟩ false]
  ex:=fun d=>match d with | .k0 ..=>.ret | .k1 ..=>.exit 0
  pick:=fun e=>match e with | .ret=>[2,3,4] | .exit 0=>[] | _=>[]
  dv:=fun d=>match d with | .k0 d0 d1 d2 d3 d4 d5 d6 d7 d8=>[(.int .i64 d0),(.int .i64 d1),(.int .i64 d2)] | .k1 d0 d1 d2 d3 d4 d5=>[]
  dh:=fun d=>match d with | .k0 d0 d1 d2 d3 d4 d5 d6 d7 d8=>[.cells ⟨[(.string d3),(.int .i64 d4),(.int .i64 d5),(lstV d6 d7 d8 4)]⟩ false] | .k1 d0 d1 d2 d3 d4 d5=>[.cells ⟨[(.string d0),(.int .i64 d1),(.int .i64 d2),(lstV d3 d4 d5 4)]⟩ false]
theorem ok16_0:Lp16_0.Ok:=⟨fun x=>rfl,fun x=>rfl,fun x=>rfl,fun x=>rfl,fun d=>by cases d<;>rfl,fun d=>by cases d<;>rfl,fun d=>by cases d<;>rfl,fun d=>by cases d<;>(intro h;cases h),fun d=>by cases d<;>rfl,fun d=>by cases d<;>rfl⟩
def rd16_0 (x:X16_0):RT (Sum X16_0 D16_0):=match x with
  | ⟨v0,v1,v2,v3,v4,v5,v6⟩ =>
     .br (decide (v0<(Int.ofNat v6))) (.br (F46_ok v1 v2 v3 (v4) v5 v6 v0) (.br (not (decide ((F46_0 v1 v2 v3 (v4) v5 v6 v0)=(0:Int)))) (.leaf (.inr (.k0 ((2:Int)) (v0) ((F46_0 v1 v2 v3 (v4) v5 v6 v0)) (v1) (v2) (v3) (v4) (v5) (v6)))) (.leaf (.inl ⟨(IntKind.wrap .i64 (v0+(1:Int))),v1,v2,v3,v4,v5,v6⟩))) (.no)) (.leaf (.inr (.k1 (v1) (v2) (v3) (v4) (v5) (v6))))
theorem T16_0  (y:List Value) (v0:Int) (v1:ByteArray) (v2:Int) (v3:Int) (v4:Array Value) (v5:Nat) (v6:Nat):evC Try.prog (Ans.c (p45.or p46)) 60 (.code none (theLoop Try.prog 16 0) ⟨sets (junkF 64 y) [(1,(Value.pointer (Option.some (Addr.mk 0 0 Option.none)))),(6,(.int .i64 v0))],[],⟨[.cells ⟨[(.string v1),(.int .i64 v2),(.int .i64 v3),(lstV v4 v5 v6 4)]⟩ false],0,[]⟩⟩) (sumK 1 64 Lp16_0.pk)=(rd16_0 ⟨v0,v1,v2,v3,v4,v5,v6⟩).out Lp16_0.enc:=by kernel_rfl
def L16_0 (x:X16_0):Option D16_0:=loopR rd16_0 x
section
variable (x:X16_0)
def L16_0_k0:Bool:=match L16_0 x with | some (.k0 ..)=>true | _=>false
def Ql0:Int:=match L16_0 x with | some (.k0 d _ _ _ _ _ _ _ _)=>d | _=>0
def Ql1:Int:=match L16_0 x with | some (.k0 _ d _ _ _ _ _ _ _)=>d | _=>0
def Ql2:Int:=match L16_0 x with | some (.k0 _ _ d _ _ _ _ _ _)=>d | _=>0
def Ql3:ByteArray:=match L16_0 x with | some (.k0 _ _ _ d _ _ _ _ _)=>d | _=>ByteArray.empty
def Ql4:Int:=match L16_0 x with | some (.k0 _ _ _ _ d _ _ _ _)=>d | _=>0
def Ql5:Int:=match L16_0 x with | some (.k0 _ _ _ _ _ d _ _ _)=>d | _=>0
def Ql6:Array Value:=match L16_0 x with | some (.k0 _ _ _ _ _ _ d _ _)=>d | _=>#[]
def Ql7:Nat:=match L16_0 x with | some (.k0 _ _ _ _ _ _ _ d _)=>d | _=>0
def Ql8:Nat:=match L16_0 x with | some (.k0 _ _ _ _ _ _ _ _ d)=>d | _=>0
def L16_0_k1:Bool:=match L16_0 x with | some (.k1 ..)=>true | _=>false
def Qm0:ByteArray:=match L16_0 x with | some (.k1 d _ _ _ _ _)=>d | _=>ByteArray.empty
def Qm1:Int:=match L16_0 x with | some (.k1 _ d _ _ _ _)=>d | _=>0
def Qm2:Int:=match L16_0 x with | some (.k1 _ _ d _ _ _)=>d | _=>0
def Qm3:Array Value:=match L16_0 x with | some (.k1 _ _ _ d _ _)=>d | _=>#[]
def Qm4:Nat:=match L16_0 x with | some (.k1 _ _ _ _ d _)=>d | _=>0
def Qm5:Nat:=match L16_0 x with | some (.k1 _ _ _ _ _ d)=>d | _=>0
end
def dec16_0:Task→Option (Code×X16_0)
  | .code none (.loop code) ⟨t,[],⟨[.cells ⟨[(.string v1),(.int .i64 v2),(.int .i64 v3),(.func (.via 0 ⟨[]⟩ 0 true) v4 ⟨[.slice (some ⟨0,v5,none⟩) v6 4]⟩)]⟩ false],0,[]⟩⟩ =>
    (match Nat.beq (firstReg code) 7,lenIs t 64,lget t 1,lget t 6 with
    | true,true,(Value.pointer (Option.some (Addr.mk 0 0 Option.none))),(.int .i64 v0)=>some (code,⟨v0,v1,v2,v3,v4,v5,v6⟩)
    | _,_,_,_=>none)
  | _=>none
def alt16_0 (x:X16_0)(j:List Value):AT:=.br (L16_0_k0 x) (loopEnd 64 (.ret) [(2,(.int .i64 (Ql0 x))),(3,(.int .i64 (Ql1 x))),(4,(.int .i64 (Ql2 x)))] ⟨[.cells ⟨[(.string (Ql3 x)),(.int .i64 (Ql4 x)),(.int .i64 (Ql5 x)),(lstV (Ql6 x) (Ql7 x) (Ql8 x) 4)]⟩ false],0,[]⟩ j) (.br (L16_0_k1 x) (loopEnd 64 (.exit 0) [] ⟨[.cells ⟨[(.string (Qm0 x)),(.int .i64 (Qm1 x)),(.int .i64 (Qm2 x)),(lstV (Qm3 x) (Qm4 x) (Qm5 x) 4)]⟩ false],0,[]⟩ j) (.no))
def la16_0 (J:Task→List Value):Ans:=loopAns Lp16_0.c dec16_0 alt16_0 J
theorem ha16_0:∀(x:X16_0) (j:List Value)(o:Out),(alt16_0 x j).out=some o→∃d,loopR rd16_0 x=some d∧o=Lp16_0.tail d j:=by
  intro x j o h
  unfold alt16_0 at h
  cases hL:L16_0 x with
  | none=>simp [L16_0_k0,Ql0,Ql1,Ql2,Ql3,Ql4,Ql5,Ql6,Ql7,Ql8,L16_0_k1,Qm0,Qm1,Qm2,Qm3,Qm4,Qm5,hL,AT.out]at h
  | some d =>
    refine ⟨d,hL,?_⟩
    cases d<;>(simp only [L16_0_k0,Ql0,Ql1,Ql2,Ql3,Ql4,Ql5,Ql6,Ql7,Ql8,L16_0_k1,Qm0,Qm1,Qm2,Qm3,Qm4,Qm5,hL,AT.out,loopEnd,cond_true,cond_false,Option.some.injEq]at h;rw [← h];rfl)
theorem hd16_0:∀(t:Task) (c:Code)(x:X16_0),dec16_0 t=some (c,x)→c=Lp16_0.c→∃T,t=.code none (.loop Lp16_0.c) ⟨T,[],⟨Lp16_0.hp x,0,[]⟩⟩∧T.length=Lp16_0.N∧∀kv∈Lp16_0.S.zip (Lp16_0.sl x),lget T kv.1=kv.2:=by
  intro t c x h hc
  unfold dec16_0 at h
  split at h
  case h_2=>cases h
  split at h
  case h_2=>cases h
  simp only [Option.some.injEq,Prod.mk.injEq]at h
  obtain ⟨rfl,rfl⟩:=h
  subst hc
  refine ⟨_,rfl,lenIs_eq _ _ (by assumption),?_⟩
  intro kv hk
  simp only [Lp16_0,List.zip_cons_cons,List.zip_nil_right,List.mem_cons,List.not_mem_nil,or_false]at hk
  rcases hk with rfl | rfl<;>assumption
theorem kl16_0:∃J,Known Try.prog (la16_0 J):=by
  exact LoopOf.known noNG mixed ok16_0 (by decide) (by decide) (Known.or known45 known46) (n:=60) (rd:=rd16_0) (fun x j=>T16_0  j x.v0 x.v1 x.v2 x.v3 x.v4 x.v5 x.v6) dec16_0 alt16_0 hd16_0 ha16_0
structure R16 where
  r0:Int
  r1:Int
  r2:Int
structure A16 where
  a0:ByteArray
  a1:Int
  a2:Int
  a3:Array Value
  a4:Nat
  a5:Nat
def rt16 (a0:ByteArray)(a1:Int)(a2:Int)(a3:Array Value)(a4:Nat)(a5:Nat):RT R16 :=
  .br (F45_ok (Int.ofNat (ByteArray.size a0)) (1:Int) (4:Int)) (.br (not (F45_0 (Int.ofNat (ByteArray.size a0)) (1:Int) (4:Int))) (.leaf ⟨(1:Int),(0:Int),(3:Int)⟩) (.br (decide ((12:Int)<(Int.ofNat a5))) (.leaf ⟨(1:Int),(0:Int),(3:Int)⟩) (.br (decide (a2=(1:Int))) (.br (F45_ok a1 (1:Int) (32:Int)) (.br (not (F45_0 a1 (1:Int) (32:Int))) (.leaf ⟨(1:Int),(0:Int),(7:Int)⟩)
       (.sw (eqCode (Lp16_0.c) (Lp16_0.c)) true (by simp only [eqCode_self,arrEq_self]) (.br (L16_0_k0 (X16_0.mk (0:Int) a0 a1 a2 a3 a4 a5)) (.leaf ⟨(Ql0 (X16_0.mk (0:Int) a0 a1 a2 a3 a4 a5)),(Ql1 (X16_0.mk (0:Int) a0 a1 a2 a3 a4 a5)),(Ql2 (X16_0.mk (0:Int) a0 a1 a2 a3 a4 a5))⟩) (.br (L16_0_k1 (X16_0.mk (0:Int) a0 a1 a2 a3 a4 a5)) (.leaf ⟨(0:Int),(0:Int),(0:Int)⟩) (.no))) (.no))) (.no)) (.br (decide (a2=(2:Int))) (.br (F45_ok a1 (1:Int) (32:Int)) (.br (not (F45_0 a1 (1:Int) (32:Int))) (.leaf ⟨(1:Int),(0:Int),(7:Int)⟩)
        (.sw (eqCode (Lp16_0.c) (Lp16_0.c)) true (by simp only [eqCode_self,arrEq_self]) (.br (L16_0_k0 (X16_0.mk (0:Int) a0 a1 a2 a3 a4 a5)) (.leaf ⟨(Ql0 (X16_0.mk (0:Int) a0 a1 a2 a3 a4 a5)),(Ql1 (X16_0.mk (0:Int) a0 a1 a2 a3 a4 a5)),(Ql2 (X16_0.mk (0:Int) a0 a1 a2 a3 a4 a5))⟩) (.br (L16_0_k1 (X16_0.mk (0:Int) a0 a1 a2 a3 a4 a5)) (.leaf ⟨(0:Int),(0:Int),(0:Int)⟩) (.no))) (.no))) (.no)) (.br (decide (a2=(4:Int))) (.br (F45_ok a1 (1:Int) (32:Int)) (.br (not (F45_0 a1 (1:Int) (32:Int))) (.leaf ⟨(1:Int),(0:Int),(7:Int)⟩)
         (.sw (eqCode (Lp16_0.c) (Lp16_0.c)) true (by simp only [eqCode_self,arrEq_self]) (.br (L16_0_k0 (X16_0.mk (0:Int) a0 a1 a2 a3 a4 a5)) (.leaf ⟨(Ql0 (X16_0.mk (0:Int) a0 a1 a2 a3 a4 a5)),(Ql1 (X16_0.mk (0:Int) a0 a1 a2 a3 a4 a5)),(Ql2 (X16_0.mk (0:Int) a0 a1 a2 a3 a4 a5))⟩) (.br (L16_0_k1 (X16_0.mk (0:Int) a0 a1 a2 a3 a4 a5)) (.leaf ⟨(0:Int),(0:Int),(0:Int)⟩) (.no))) (.no))) (.no)) (.br (decide (a2=(8:Int))) (.br (F45_ok a1 (1:Int) (32:Int)) (.br (not (F45_0 a1 (1:Int) (32:Int))) (.leaf ⟨(1:Int),(0:Int),(7:Int)⟩)
          (.sw (eqCode (Lp16_0.c) (Lp16_0.c)) true (by simp only [eqCode_self,arrEq_self]) (.br (L16_0_k0 (X16_0.mk (0:Int) a0 a1 a2 a3 a4 a5)) (.leaf ⟨(Ql0 (X16_0.mk (0:Int) a0 a1 a2 a3 a4 a5)),(Ql1 (X16_0.mk (0:Int) a0 a1 a2 a3 a4 a5)),(Ql2 (X16_0.mk (0:Int) a0 a1 a2 a3 a4 a5))⟩) (.br (L16_0_k1 (X16_0.mk (0:Int) a0 a1 a2 a3 a4 a5)) (.leaf ⟨(0:Int),(0:Int),(0:Int)⟩) (.no))) (.no))) (.no)) (.br (F45_ok a1 (1:Int) (32:Int)) (.br (not (F45_0 a1 (1:Int) (32:Int))) (.leaf ⟨(1:Int),(0:Int),(7:Int)⟩) (.br (not (decide (a2=(16:Int)))) (.leaf ⟨(1:Int),(0:Int),(7:Int)⟩)
           (.sw (eqCode (Lp16_0.c) (Lp16_0.c)) true (by simp only [eqCode_self,arrEq_self]) (.br (L16_0_k0 (X16_0.mk (0:Int) a0 a1 a2 a3 a4 a5)) (.leaf ⟨(Ql0 (X16_0.mk (0:Int) a0 a1 a2 a3 a4 a5)),(Ql1 (X16_0.mk (0:Int) a0 a1 a2 a3 a4 a5)),(Ql2 (X16_0.mk (0:Int) a0 a1 a2 a3 a4 a5))⟩) (.br (L16_0_k1 (X16_0.mk (0:Int) a0 a1 a2 a3 a4 a5)) (.leaf ⟨(0:Int),(0:Int),(0:Int)⟩) (.no))) (.no)))) (.no)))))))) (.no)
def en16 (r:R16):Value:=(.tuple ⟨[(.int .i64 r.r0),(.int .i64 r.r1),(.int .i64 r.r2)]⟩)
theorem T16 (J0:Task→List Value)(a0:ByteArray)(a1:Int)(a2:Int)(a3:Array Value)(a4:Nat)(a5:Nat):evC Try.prog (Ans.c (p45.or (p46.or (la16_0 J0)))) 60 (.call 16 ⟨[(.agg ⟨[(.string a0),(.int .i64 a1),(.int .i64 a2),(lstV a3 a4 a5 4)]⟩)]⟩ ⟨[],0,[]⟩) (frzK [0,0,0])=(rt16 a0 a1 a2 a3 a4 a5).out (fun r=>.ret (en16 r) ⟨[],0,[]⟩):=by kernel_rfl
def F16 (a0:ByteArray)(a1:Int)(a2:Int)(a3:Array Value)(a4:Nat)(a5:Nat):Option R16:=(rt16 a0 a1 a2 a3 a4 a5).val
section
variable (a0:ByteArray) (a1:Int) (a2:Int) (a3:Array Value) (a4:Nat) (a5:Nat)
def F16_ok:Bool:=(F16 a0 a1 a2 a3 a4 a5).isSome
def F16_0:Int:=match F16 a0 a1 a2 a3 a4 a5 with | some r=>r.r0 | none=>0
def F16_1:Int:=match F16 a0 a1 a2 a3 a4 a5 with | some r=>r.r1 | none=>0
def F16_2:Int:=match F16 a0 a1 a2 a3 a4 a5 with | some r=>r.r2 | none=>0
end
def dec16:Task→Option (A16×Hp)
  | .call g ⟨[(.agg ⟨[(.string a0),(.int .i64 a1),(.int .i64 a2),(.func (.via 0 ⟨[]⟩ 0 true) a3 ⟨[.slice (some ⟨0,a4,none⟩) a5 4]⟩)]⟩)]⟩ h=>(match Nat.beq g 16 with | true=>some (⟨a0,a1,a2,a3,a4,a5⟩,h) | false=>none)
  | _=>none
def alt16 (x:A16)(h:Hp):AT:=.br (F16_ok x.a0 x.a1 x.a2 x.a3 x.a4 x.a5) (.leaf (.ret (.tuple ⟨[(.int .i64 (F16_0 x.a0 x.a1 x.a2 x.a3 x.a4 x.a5)),(.int .i64 (F16_1 x.a0 x.a1 x.a2 x.a3 x.a4 x.a5)),(.int .i64 (F16_2 x.a0 x.a1 x.a2 x.a3 x.a4 x.a5))]⟩) h)) .no
def p16:Ans:=fnAns dec16 alt16
theorem ha16:∀(x:A16) (h:Hp)(o:Out),(alt16 x h).out=some o→∃r,(rt16 x.a0 x.a1 x.a2 x.a3 x.a4 x.a5).val=some r∧o=.ret (en16 r) h:=by
  intro x h o e
  unfold alt16 at e
  simp only [AT.out]at e
  obtain ⟨g,e⟩:=cond_some e
  unfold F16_ok at g
  obtain ⟨r,hF⟩:=Option.isSome_iff_exists.1 g
  have hv:F16 x.a0 x.a1 x.a2 x.a3 x.a4 x.a5=(rt16 x.a0 x.a1 x.a2 x.a3 x.a4 x.a5).val:=by delta F16;exact rfl
  refine ⟨r,hv.symm.trans hF,?_⟩
  simp only [Option.some.injEq]at e
  rw [← e]
  have k0:F16_0 x.a0 x.a1 x.a2 x.a3 x.a4 x.a5=r.r0:=by
    show (match F16 x.a0 x.a1 x.a2 x.a3 x.a4 x.a5 with | some r=>r.r0 | none=>0)=r.r0
    rw [hF]
  have k1:F16_1 x.a0 x.a1 x.a2 x.a3 x.a4 x.a5=r.r1:=by
    show (match F16 x.a0 x.a1 x.a2 x.a3 x.a4 x.a5 with | some r=>r.r1 | none=>0)=r.r1
    rw [hF]
  have k2:F16_2 x.a0 x.a1 x.a2 x.a3 x.a4 x.a5=r.r2:=by
    show (match F16 x.a0 x.a1 x.a2 x.a3 x.a4 x.a5 with | some r=>r.r2 | none=>0)=r.r2
    rw [hF]
  rw [k0,k1,k2]<;>rfl
theorem hd16:∀(t:Task) (x:A16)(h:Hp),dec16 t=some (x,h)→t=.call 16 ⟨[(.agg ⟨[(.string x.a0),(.int .i64 x.a1),(.int .i64 x.a2),(lstV x.a3 x.a4 x.a5 4)]⟩)]⟩ h:=by
  intro t x h e
  unfold dec16 at e
  split at e
  case h_2=>cases e
  split at e
  case h_2=>cases e
  rename_i hg
  simp only [Option.some.injEq,Prod.mk.injEq]at e
  obtain ⟨rfl,rfl⟩:=e
  rw [Nat.eq_of_beq_eq_true hg]
theorem known16:Known Try.prog p16:=by
  obtain ⟨J0,hJ0⟩:=kl16_0
  exact Known.fn noNG mixed (Known.or known45 (Known.or known46 hJ0)) (n:=60) (zs:=[0,0,0]) 16 (fun x:A16=>[(.agg ⟨[(.string x.a0),(.int .i64 x.a1),(.int .i64 x.a2),(lstV x.a3 x.a4 x.a5 4)]⟩)]) (fun x=>rt16 x.a0 x.a1 x.a2 x.a3 x.a4 x.a5) en16 (fun x=>T16 J0 x.a0 x.a1 x.a2 x.a3 x.a4 x.a5) (fun x=>rfl) dec16 alt16 hd16 ha16
end
end Go.Proofs.Ytoojllndfjamgaa
