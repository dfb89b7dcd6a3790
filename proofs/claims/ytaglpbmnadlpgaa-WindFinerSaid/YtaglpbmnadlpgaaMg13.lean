/- Part 13 of the texts below the claim. Conditions: none. -/
import Derived.Test.YtaglpbmnadlpgaaMg6
import Derived.Test.YtaglpbmnadlpgaaMg11
import Derived.Test.YtaglpbmnadlpgaaMg12
import Derived.Test.YtaglpbmnadlpgaaMg5
namespace Go.Proofs.Ytaglpbmnadlpgaa
open Go.Gi Go.RowKit Go.Proofs.Ytaglpbmnadlpgaa.Old
noncomputable section
set_option maxRecDepth 100000
set_option maxHeartbeats 4000000
set_option linter.unusedVariables false
set_option linter.unusedSimpArgs false
structure X58_0 where
  (v0 v1:Int)
  (v2:Array Value)
  (v3 v4:Nat)
  (v5:Int)
  (v6:Array Value)
  (v7 v8:Nat)
  (v9:Array Value)
  (v10 v11:Nat)
  (v12:Array Value)
  (v13 v14:Nat)
  (v15 v16:Int)
inductive D58_0 where
  | k0 (d0:Bool) (d1 : Array Value) (d2 d3:Nat) (d4 : Array Value) (d5 d6:Nat) (d7 : Array Value) (d8 d9:Nat) (d10 d11:Int)
  | k1 (d0 : Array Value) (d1 d2:Nat) (d3 : Array Value) (d4 d5:Nat) (d6 : Array Value) (d7 d8:Nat) (d9 : Array Value) (d10 d11:Nat) (d12 d13:Int)
noncomputable def Lp58_0 : LoopOf X58_0 D58_0 where
  c:=(theLoop Try.prog 58 0)
  N:=54
  M:=1
  S:=[1,2,3,8,10]
  sl:=fun x=>[(.int .i64 x.v0),(.int .i64 x.v1),(Value.pointer (Option.some (Addr.mk 0 0 Option.none))),(lstV x.v2 x.v3 x.v4 6),(.int .i64 x.v5)]
  hp:=fun x=>[.cells ⟨[(lstV x.v6 x.v7 x.v8 7),(lstV x.v9 x.v10 x.v11 5),(lstV x.v12 x.v13 x.v14 1),(.int .i64 x.v15),(.int .i64 x.v16)]⟩ false]
  ex:=fun d=>match d with | .k0 ..=>.ret | .k1 ..=>.exit 0
  pick:=fun e=>match e with | .ret=>[6,7] | .exit 0=>[8] | _=>[]
  dv:=fun d=>match d with | .k0 d0 d1 d2 d3 d4 d5 d6 d7 d8 d9 d10 d11=>[(.slice none 0 0),(.bool d0)] | .k1 d0 d1 d2 d3 d4 d5 d6 d7 d8 d9 d10 d11 d12 d13=>[(lstV d0 d1 d2 6)]
  dh:=fun d=>match d with | .k0 d0 d1 d2 d3 d4 d5 d6 d7 d8 d9 d10 d11=>[.cells ⟨[(lstV d1 d2 d3 7),(lstV d4 d5 d6 5),(lstV d7 d8 d9 1),(.int .i64 d10),(.int .i64 d11)]⟩ false] | .k1 d0 d1 d2 d3 d4 d5 d6 d7 d8 d9 d10 d11 d12 d13=>[.cells ⟨[(lstV d3 d4 d5 7),(lstV d6 d7 d8 5),(lstV d9 d10 d11 1),(.int .i64 d12),(.int .i64 d13)]⟩ false]
theorem ok58_0 : Lp58_0.Ok:=⟨fun x=>rfl,fun x=>rfl,fun x=>rfl,fun x=>rfl,fun d=>by cases d <;> rfl,fun d=>by cases d <;> rfl,fun d=>by cases d <;> rfl,fun d=>by cases d <;> (intro h; cases h),fun d=>by cases d <;> rfl,fun d=>by cases d <;> rfl⟩
noncomputable def rd58_0 (x:X58_0) : RT (Sum X58_0 D58_0):=match x with
  | ⟨v0,v1,v2,v3,v4,v5,v6,v7,v8,v9,v10,v11,v12,v13,v14,v15,v16⟩ =>
     .br (decide (v5 < (Int.ofNat v14)))
     (.br (F38_ok v6 v7 v8 v9 v10 v11 v12 v13 v14 v15 v16 v5 v0 v1)
     (.br (not (decide ((F38_4 v6 v7 v8 v9 v10 v11 v12 v13 v14 v15 v16 v5 v0 v1) = (0 : Int))))
     (.leaf (.inr (.k0 false v6 v7 v8 v9 v10 v11 v12 v13 v14 v15 v16)))
     (.br (not (F38_3 v6 v7 v8 v9 v10 v11 v12 v13 v14 v15 v16 v5 v0 v1))
     (.leaf (.inr (.k0 false v6 v7 v8 v9 v10 v11 v12 v13 v14 v15 v16)))
     (.leaf (.inl ⟨v0,v1,v2,v3,v4,(IntKind.wrap .i64 (v5+(1 : Int))),v6,v7,v8,v9,v10,v11,v12,v13,v14,v15,v16⟩))))
     (.no))
     (.leaf (.inr (.k1 v2 v3 v4 v6 v7 v8 v9 v10 v11 v12 v13 v14 v15 v16)))
theorem T58_0  (y : List Value) (v0 v1:Int) (v2 : Array Value) (v3 v4:Nat) (v5 : Int) (v6 : Array Value) (v7 v8:Nat) (v9 : Array Value) (v10 v11:Nat) (v12 : Array Value) (v13 v14:Nat) (v15 v16:Int) : evC Try.prog (Ans.c (p38.or p42)) 60 (.code none (theLoop Try.prog 58 0) ⟨sets (junkF 54 y) [(1,(.int .i64 v0)),(2,(.int .i64 v1)),(3,(Value.pointer (some (Addr.mk 0 0 none)))),(8,(lstV v2 v3 v4 6)),(10,(.int .i64 v5))],[],⟨[.cells ⟨[(lstV v6 v7 v8 7),(lstV v9 v10 v11 5),(lstV v12 v13 v14 1),(.int .i64 v15),(.int .i64 v16)]⟩ false],0,[]⟩⟩) (sumK 1 54 Lp58_0.pk) = (rd58_0 ⟨v0,v1,v2,v3,v4,v5,v6,v7,v8,v9,v10,v11,v12,v13,v14,v15,v16⟩).out Lp58_0.enc:=by kernel_rfl
noncomputable def L58_0 (x:X58_0) : Option D58_0:=loopR rd58_0 x
section
variable (x:X58_0)
noncomputable def L58_0_k0 : Bool:=match L58_0 x with | some (.k0 ..)=>true | _=>false
noncomputable def L58_0_k0_0 : Bool:=match L58_0 x with | some (.k0 d _ _ _ _ _ _ _ _ _ _ _)=>d | _=>false
noncomputable def L58_0_k0_1 : Array Value:=match L58_0 x with | some (.k0 _ d _ _ _ _ _ _ _ _ _ _)=>d | _=>#[]
noncomputable def L58_0_k0_2 : Nat:=match L58_0 x with | some (.k0 _ _ d _ _ _ _ _ _ _ _ _)=>d | _=>0
noncomputable def L58_0_k0_3 : Nat:=match L58_0 x with | some (.k0 _ _ _ d _ _ _ _ _ _ _ _)=>d | _=>0
noncomputable def L58_0_k0_4 : Array Value:=match L58_0 x with | some (.k0 _ _ _ _ d _ _ _ _ _ _ _)=>d | _=>#[]
noncomputable def L58_0_k0_5 : Nat:=match L58_0 x with | some (.k0 _ _ _ _ _ d _ _ _ _ _ _)=>d | _=>0
noncomputable def L58_0_k0_6 : Nat:=match L58_0 x with | some (.k0 _ _ _ _ _ _ d _ _ _ _ _)=>d | _=>0
noncomputable def L58_0_k0_7 : Array Value:=match L58_0 x with | some (.k0 _ _ _ _ _ _ _ d _ _ _ _)=>d | _=>#[]
noncomputable def L58_0_k0_8 : Nat:=match L58_0 x with | some (.k0 _ _ _ _ _ _ _ _ d _ _ _)=>d | _=>0
noncomputable def L58_0_k0_9 : Nat:=match L58_0 x with | some (.k0 _ _ _ _ _ _ _ _ _ d _ _)=>d | _=>0
noncomputable def L58_0_k0_10 : Int:=match L58_0 x with | some (.k0 _ _ _ _ _ _ _ _ _ _ d _)=>d | _=>0
noncomputable def L58_0_k0_11 : Int:=match L58_0 x with | some (.k0 _ _ _ _ _ _ _ _ _ _ _ d)=>d | _=>0
noncomputable def L58_0_k1 : Bool:=match L58_0 x with | some (.k1 ..)=>true | _=>false
noncomputable def L58_0_k1_0 : Array Value:=match L58_0 x with | some (.k1 d _ _ _ _ _ _ _ _ _ _ _ _ _)=>d | _=>#[]
noncomputable def L58_0_k1_1 : Nat:=match L58_0 x with | some (.k1 _ d _ _ _ _ _ _ _ _ _ _ _ _)=>d | _=>0
noncomputable def L58_0_k1_2 : Nat:=match L58_0 x with | some (.k1 _ _ d _ _ _ _ _ _ _ _ _ _ _)=>d | _=>0
noncomputable def L58_0_k1_3 : Array Value:=match L58_0 x with | some (.k1 _ _ _ d _ _ _ _ _ _ _ _ _ _)=>d | _=>#[]
noncomputable def L58_0_k1_4 : Nat:=match L58_0 x with | some (.k1 _ _ _ _ d _ _ _ _ _ _ _ _ _)=>d | _=>0
noncomputable def L58_0_k1_5 : Nat:=match L58_0 x with | some (.k1 _ _ _ _ _ d _ _ _ _ _ _ _ _)=>d | _=>0
noncomputable def L58_0_k1_6 : Array Value:=match L58_0 x with | some (.k1 _ _ _ _ _ _ d _ _ _ _ _ _ _)=>d | _=>#[]
noncomputable def L58_0_k1_7 : Nat:=match L58_0 x with | some (.k1 _ _ _ _ _ _ _ d _ _ _ _ _ _)=>d | _=>0
noncomputable def L58_0_k1_8 : Nat:=match L58_0 x with | some (.k1 _ _ _ _ _ _ _ _ d _ _ _ _ _)=>d | _=>0
noncomputable def L58_0_k1_9 : Array Value:=match L58_0 x with | some (.k1 _ _ _ _ _ _ _ _ _ d _ _ _ _)=>d | _=>#[]
noncomputable def L58_0_k1_10 : Nat:=match L58_0 x with | some (.k1 _ _ _ _ _ _ _ _ _ _ d _ _ _)=>d | _=>0
noncomputable def L58_0_k1_11 : Nat:=match L58_0 x with | some (.k1 _ _ _ _ _ _ _ _ _ _ _ d _ _)=>d | _=>0
noncomputable def L58_0_k1_12 : Int:=match L58_0 x with | some (.k1 _ _ _ _ _ _ _ _ _ _ _ _ d _)=>d | _=>0
noncomputable def L58_0_k1_13 : Int:=match L58_0 x with | some (.k1 _ _ _ _ _ _ _ _ _ _ _ _ _ d)=>d | _=>0
end
noncomputable def dec58_0 : Task → Option (Code × X58_0)
  | .code none (.loop code) ⟨t,[],⟨[.cells ⟨[(.func (.via 0 ⟨[]⟩ 0 true) v6 ⟨[.slice (some ⟨0,v7,none⟩) v8 7]⟩),(.func (.via 0 ⟨[]⟩ 0 true) v9 ⟨[.slice (some ⟨0,v10,none⟩) v11 5]⟩),(.func (.via 0 ⟨[]⟩ 0 true) v12 ⟨[.slice (some ⟨0,v13,none⟩) v14 1]⟩),(.int .i64 v15),(.int .i64 v16)]⟩ false],0,[]⟩⟩ =>
    (match Nat.beq (firstReg code) 5,lenIs t 54,lget t 1,lget t 2,lget t 3,lget t 8,lget t 10 with
    | true,true,(.int .i64 v0),(.int .i64 v1),(Value.pointer (Option.some (Addr.mk 0 0 Option.none))),(.func (.via 0 ⟨[]⟩ 0 true) v2 ⟨[.slice (some ⟨0,v3,none⟩) v4 6]⟩),(.int .i64 v5)=>some (code,⟨v0,v1,v2,v3,v4,v5,v6,v7,v8,v9,v10,v11,v12,v13,v14,v15,v16⟩)
    | _,_,_,_,_,_,_=>none)
  | _=>none
noncomputable def alt58_0 (x:X58_0) (j : List Value) : AT:=.br (L58_0_k0 x) (loopEnd 54 (.ret) [(6,(.slice none 0 0)),(7,(.bool (L58_0_k0_0 x)))] ⟨[.cells ⟨[(lstV (L58_0_k0_1 x) (L58_0_k0_2 x) (L58_0_k0_3 x) 7),(lstV (L58_0_k0_4 x) (L58_0_k0_5 x) (L58_0_k0_6 x) 5),(lstV (L58_0_k0_7 x) (L58_0_k0_8 x) (L58_0_k0_9 x) 1),(.int .i64 (L58_0_k0_10 x)),(.int .i64 (L58_0_k0_11 x))]⟩ false],0,[]⟩ j) (.br (L58_0_k1 x) (loopEnd 54 (.exit 0) [(8,(lstV (L58_0_k1_0 x) (L58_0_k1_1 x) (L58_0_k1_2 x) 6))] ⟨[.cells ⟨[(lstV (L58_0_k1_3 x) (L58_0_k1_4 x) (L58_0_k1_5 x) 7),(lstV (L58_0_k1_6 x) (L58_0_k1_7 x) (L58_0_k1_8 x) 5),(lstV (L58_0_k1_9 x) (L58_0_k1_10 x) (L58_0_k1_11 x) 1),(.int .i64 (L58_0_k1_12 x)),(.int .i64 (L58_0_k1_13 x))]⟩ false],0,[]⟩ j) (.no))
noncomputable def la58_0 (J : Task → List Value) : Ans:=loopAns Lp58_0.c dec58_0 alt58_0 J
theorem ha58_0 : ∀ (x:X58_0) (j : List Value) (o:Out),(alt58_0 x j).out = some o → ∃ d,loopR rd58_0 x = some d ∧ o = Lp58_0.tail d j:=by
  intro x j o h
  unfold alt58_0 at h
  cases hL : L58_0 x with
  | none=>simp [L58_0_k0,L58_0_k0_0,L58_0_k0_1,L58_0_k0_2,L58_0_k0_3,L58_0_k0_4,L58_0_k0_5,L58_0_k0_6,L58_0_k0_7,L58_0_k0_8,L58_0_k0_9,L58_0_k0_10,L58_0_k0_11,L58_0_k1,L58_0_k1_0,L58_0_k1_1,L58_0_k1_2,L58_0_k1_3,L58_0_k1_4,L58_0_k1_5,L58_0_k1_6,L58_0_k1_7,L58_0_k1_8,L58_0_k1_9,L58_0_k1_10,L58_0_k1_11,L58_0_k1_12,L58_0_k1_13,hL,AT.out] at h
  | some d =>
    refine ⟨d,hL,?_⟩
    cases d <;> (simp only [L58_0_k0,L58_0_k0_0,L58_0_k0_1,L58_0_k0_2,L58_0_k0_3,L58_0_k0_4,L58_0_k0_5,L58_0_k0_6,L58_0_k0_7,L58_0_k0_8,L58_0_k0_9,L58_0_k0_10,L58_0_k0_11,L58_0_k1,L58_0_k1_0,L58_0_k1_1,L58_0_k1_2,L58_0_k1_3,L58_0_k1_4,L58_0_k1_5,L58_0_k1_6,L58_0_k1_7,L58_0_k1_8,L58_0_k1_9,L58_0_k1_10,L58_0_k1_11,L58_0_k1_12,L58_0_k1_13,hL,AT.out,loopEnd,cond_true,cond_false,Option.some.injEq] at h; rw [← h]; rfl)
theorem hd58_0 : ∀ (t:Task) (c:Code) (x:X58_0),dec58_0 t = some (c,x) → c = Lp58_0.c → ∃ T,t = .code none (.loop Lp58_0.c) ⟨T,[],⟨Lp58_0.hp x,0,[]⟩⟩ ∧ T.length = Lp58_0.N ∧ ∀ kv ∈ Lp58_0.S.zip (Lp58_0.sl x),lget T kv.1 = kv.2:=by
  intro t c x h hc
  unfold dec58_0 at h
  split at h
  case h_2=>cases h
  split at h
  case h_2=>cases h
  simp only [Option.some.injEq,Prod.mk.injEq] at h
  obtain ⟨rfl,rfl⟩:=h
  subst hc
  refine ⟨_,rfl,lenIs_eq _ _ (by assumption),?_⟩
  intro kv hk
  simp only [Lp58_0,List.zip_cons_cons,List.zip_nil_right,List.mem_cons,List.not_mem_nil,or_false] at hk
  rcases hk with rfl | rfl | rfl | rfl | rfl <;> assumption
theorem kl58_0 : ∃ J,Known Try.prog (la58_0 J):=by
  exact LoopOf.known noNG mixed ok58_0 (by decide) (by decide) (Known.or known38 known42) (n:=60) (rd:=rd58_0) (fun x j=>T58_0  j x.v0 x.v1 x.v2 x.v3 x.v4 x.v5 x.v6 x.v7 x.v8 x.v9 x.v10 x.v11 x.v12 x.v13 x.v14 x.v15 x.v16) dec58_0 alt58_0 hd58_0 ha58_0
structure R58 where
  (r0:Array Value)
  (r1 r2:Nat)
  (r3:Bool)
structure A58 where
  (a0:Array Value)
  (a1 a2:Nat)
  (a3:Array Value)
  (a4 a5:Nat)
  (a6:Array Value)
  (a7 a8:Nat)
  (a9 a10:Int)
  (a11 a12:Int)
noncomputable def rt58 (a0 : Array Value) (a1 a2:Nat) (a3 : Array Value) (a4 a5:Nat) (a6 : Array Value) (a7 a8:Nat) (a9 a10:Int) (a11 a12:Int) : RT R58 :=
  .br (F42_ok a0 a1 a2 a3 a4 a5 a6 a7 a8 a9 a10 a11 a12)
  (.br (not (decide ((F42_3 a0 a1 a2 a3 a4 a5 a6 a7 a8 a9 a10 a11 a12) = (0 : Int))))
   (.leaf ⟨⟨[]⟩,0,0,false⟩)
   (.br (not (decide ((Int.ofNat (F42_2 a0 a1 a2 a3 a4 a5 a6 a7 a8 a9 a10 a11 a12)) = (Int.ofNat a8))))
    (.leaf ⟨⟨[]⟩,0,0,false⟩)
    (.br (eqCode (Lp58_0.c) (Lp58_0.c))
     (.br (L58_0_k0 (X58_0.mk a11 a12 (F42_0 a0 a1 a2 a3 a4 a5 a6 a7 a8 a9 a10 a11 a12) (F42_1 a0 a1 a2 a3 a4 a5 a6 a7 a8 a9 a10 a11 a12) (F42_2 a0 a1 a2 a3 a4 a5 a6 a7 a8 a9 a10 a11 a12) (0 : Int) a0 a1 a2 a3 a4 a5 a6 a7 a8 a9 a10))
     (.leaf ⟨⟨[]⟩,0,0,(L58_0_k0_0 (X58_0.mk a11 a12 (F42_0 a0 a1 a2 a3 a4 a5 a6 a7 a8 a9 a10 a11 a12) (F42_1 a0 a1 a2 a3 a4 a5 a6 a7 a8 a9 a10 a11 a12) (F42_2 a0 a1 a2 a3 a4 a5 a6 a7 a8 a9 a10 a11 a12) (0 : Int) a0 a1 a2 a3 a4 a5 a6 a7 a8 a9 a10))⟩)
     (.br (L58_0_k1 (X58_0.mk a11 a12 (F42_0 a0 a1 a2 a3 a4 a5 a6 a7 a8 a9 a10 a11 a12) (F42_1 a0 a1 a2 a3 a4 a5 a6 a7 a8 a9 a10 a11 a12) (F42_2 a0 a1 a2 a3 a4 a5 a6 a7 a8 a9 a10 a11 a12) (0 : Int) a0 a1 a2 a3 a4 a5 a6 a7 a8 a9 a10))
     (.leaf ⟨(L58_0_k1_0 (X58_0.mk a11 a12 (F42_0 a0 a1 a2 a3 a4 a5 a6 a7 a8 a9 a10 a11 a12) (F42_1 a0 a1 a2 a3 a4 a5 a6 a7 a8 a9 a10 a11 a12) (F42_2 a0 a1 a2 a3 a4 a5 a6 a7 a8 a9 a10 a11 a12) (0 : Int) a0 a1 a2 a3 a4 a5 a6 a7 a8 a9 a10)),(L58_0_k1_1 (X58_0.mk a11 a12 (F42_0 a0 a1 a2 a3 a4 a5 a6 a7 a8 a9 a10 a11 a12) (F42_1 a0 a1 a2 a3 a4 a5 a6 a7 a8 a9 a10 a11 a12) (F42_2 a0 a1 a2 a3 a4 a5 a6 a7 a8 a9 a10 a11 a12) (0 : Int) a0 a1 a2 a3 a4 a5 a6 a7 a8 a9 a10)),(L58_0_k1_2 (X58_0.mk a11 a12 (F42_0 a0 a1 a2 a3 a4 a5 a6 a7 a8 a9 a10 a11 a12) (F42_1 a0 a1 a2 a3 a4 a5 a6 a7 a8 a9 a10 a11 a12) (F42_2 a0 a1 a2 a3 a4 a5 a6 a7 a8 a9 a10 a11 a12) (0 : Int) a0 a1 a2 a3 a4 a5 a6 a7 a8 a9 a10)),true⟩)
     (.no)))
     (.no))))
  (.no)
noncomputable def en58 (r:R58) : Value:=(.tuple ⟨[(lstV r.r0 r.r1 r.r2 6),(.bool r.r3)]⟩)
theorem T58 (J0 : Task → List Value) (a0 : Array Value) (a1 a2:Nat) (a3 : Array Value) (a4 a5:Nat) (a6 : Array Value) (a7 a8:Nat) (a9 a10:Int) (a11 a12:Int) : evC Try.prog (Ans.c (p38.or (p42.or (la58_0 J0)))) 60 (.call 58 ⟨[(.agg ⟨[(lstV a0 a1 a2 7),(lstV a3 a4 a5 5),(lstV a6 a7 a8 1),(.int .i64 a9),(.int .i64 a10)]⟩),(.int .i64 a11),(.int .i64 a12)]⟩ ⟨[],0,[]⟩) (frzK [6,0]) = (rt58 a0 a1 a2 a3 a4 a5 a6 a7 a8 a9 a10 a11 a12).out (fun r=>.ret (en58 r) ⟨[],0,[]⟩):=by kernel_rfl
noncomputable def F58 (a0 : Array Value) (a1 a2:Nat) (a3 : Array Value) (a4 a5:Nat) (a6 : Array Value) (a7 a8:Nat) (a9 a10:Int) (a11 a12:Int) : Option R58:=(rt58 a0 a1 a2 a3 a4 a5 a6 a7 a8 a9 a10 a11 a12).val
section
variable (a0 : Array Value) (a1 a2:Nat) (a3 : Array Value) (a4 a5:Nat) (a6 : Array Value) (a7 a8:Nat) (a9 a10:Int) (a11 a12:Int)
noncomputable def F58_ok : Bool:=(F58 a0 a1 a2 a3 a4 a5 a6 a7 a8 a9 a10 a11 a12).isSome
noncomputable def F58_0 : Array Value:=match F58 a0 a1 a2 a3 a4 a5 a6 a7 a8 a9 a10 a11 a12 with | some r=>r.r0 | none=>#[]
noncomputable def F58_1 : Nat:=match F58 a0 a1 a2 a3 a4 a5 a6 a7 a8 a9 a10 a11 a12 with | some r=>r.r1 | none=>0
noncomputable def F58_2 : Nat:=match F58 a0 a1 a2 a3 a4 a5 a6 a7 a8 a9 a10 a11 a12 with | some r=>r.r2 | none=>0
noncomputable def F58_3 : Bool:=match F58 a0 a1 a2 a3 a4 a5 a6 a7 a8 a9 a10 a11 a12 with | some r=>r.r3 | none=>false
end
noncomputable def dec58 : Task → Option (A58 × Hp)
  | .call g ⟨[(.agg ⟨[(.func (.via 0 ⟨[]⟩ 0 true) a0 ⟨[.slice (some ⟨0,a1,none⟩) a2 7]⟩),(.func (.via 0 ⟨[]⟩ 0 true) a3 ⟨[.slice (some ⟨0,a4,none⟩) a5 5]⟩),(.func (.via 0 ⟨[]⟩ 0 true) a6 ⟨[.slice (some ⟨0,a7,none⟩) a8 1]⟩),(.int .i64 a9),(.int .i64 a10)]⟩),(.int .i64 a11),(.int .i64 a12)]⟩ h=>(match Nat.beq g 58 with | true=>some (⟨a0,a1,a2,a3,a4,a5,a6,a7,a8,a9,a10,a11,a12⟩,h) | false=>none)
  | _=>none
noncomputable def alt58 (x:A58) (h:Hp) : AT:=.br (F58_ok x.a0 x.a1 x.a2 x.a3 x.a4 x.a5 x.a6 x.a7 x.a8 x.a9 x.a10 x.a11 x.a12) (.leaf (.ret (.tuple ⟨[(lstV (F58_0 x.a0 x.a1 x.a2 x.a3 x.a4 x.a5 x.a6 x.a7 x.a8 x.a9 x.a10 x.a11 x.a12) (F58_1 x.a0 x.a1 x.a2 x.a3 x.a4 x.a5 x.a6 x.a7 x.a8 x.a9 x.a10 x.a11 x.a12) (F58_2 x.a0 x.a1 x.a2 x.a3 x.a4 x.a5 x.a6 x.a7 x.a8 x.a9 x.a10 x.a11 x.a12) 6),(.bool (F58_3 x.a0 x.a1 x.a2 x.a3 x.a4 x.a5 x.a6 x.a7 x.a8 x.a9 x.a10 x.a11 x.a12))]⟩) h)) .no
noncomputable def p58 : Ans:=fnAns dec58 alt58
theorem ha58 : ∀ (x:A58) (h:Hp) (o:Out),(alt58 x h).out = some o → ∃ r,(rt58 x.a0 x.a1 x.a2 x.a3 x.a4 x.a5 x.a6 x.a7 x.a8 x.a9 x.a10 x.a11 x.a12).val = some r ∧ o = .ret (en58 r) h:=by
  intro x h o e
  unfold alt58 at e
  cases hF : F58 x.a0 x.a1 x.a2 x.a3 x.a4 x.a5 x.a6 x.a7 x.a8 x.a9 x.a10 x.a11 x.a12 with
  | none=>simp [F58_ok,hF,AT.out] at e
  | some r =>
    refine ⟨r,hF,?_⟩
    simp only [F58_ok,F58_0,F58_1,F58_2,F58_3,hF,AT.out,Option.isSome_some,cond_true,Option.some.injEq] at e
    rw [← e]; rfl
theorem hd58 : ∀ (t:Task) (x:A58) (h:Hp),dec58 t = some (x,h) → t = .call 58 ⟨[(.agg ⟨[(lstV x.a0 x.a1 x.a2 7),(lstV x.a3 x.a4 x.a5 5),(lstV x.a6 x.a7 x.a8 1),(.int .i64 x.a9),(.int .i64 x.a10)]⟩),(.int .i64 x.a11),(.int .i64 x.a12)]⟩ h:=by
  intro t x h e
  unfold dec58 at e
  split at e
  case h_2=>cases e
  split at e
  case h_2=>cases e
  rename_i hg
  simp only [Option.some.injEq,Prod.mk.injEq] at e
  obtain ⟨rfl,rfl⟩:=e
  rw [Nat.eq_of_beq_eq_true hg]
theorem known58 : Known Try.prog p58:=by
  obtain ⟨J0,hJ0⟩:=kl58_0
  exact Known.fn noNG mixed (Known.or known38 (Known.or known42 hJ0)) (n:=60) (zs:=[6,0]) 58 (fun x : A58=>[(.agg ⟨[(lstV x.a0 x.a1 x.a2 7),(lstV x.a3 x.a4 x.a5 5),(lstV x.a6 x.a7 x.a8 1),(.int .i64 x.a9),(.int .i64 x.a10)]⟩),(.int .i64 x.a11),(.int .i64 x.a12)]) (fun x=>rt58 x.a0 x.a1 x.a2 x.a3 x.a4 x.a5 x.a6 x.a7 x.a8 x.a9 x.a10 x.a11 x.a12) en58 (fun x=>T58 J0 x.a0 x.a1 x.a2 x.a3 x.a4 x.a5 x.a6 x.a7 x.a8 x.a9 x.a10 x.a11 x.a12) (fun x=>rfl) dec58 alt58 hd58 ha58
end
end Go.Proofs.Ytaglpbmnadlpgaa

namespace Go.Proofs.Ytaglpbmnadlpgaa
open Go.Gi Go.RowKit Go.Proofs.Ytaglpbmnadlpgaa.Old
noncomputable section
set_option maxRecDepth 100000
set_option linter.unusedVariables false
set_option linter.unusedSimpArgs false
section
variable {c0 c c3 : Array Value} {n n2 n3 : Nat} {age shear tick now x y : Int}
def winA (c0 c c3 : Array Value) (n2 : Nat) (age shear tick now : Int) (k : Nat) : Hd:=all c0 c n2 age shear (wLo c3 (k : Int)) (wHi c3 (k : Int)) tick now (chB 128 (-1))
def agB (c0 c c3 : Array Value) (n2 : Nat) (age shear tick now : Int) : Nat → Nat → Bool
  | 0,_=>true
  | m + 1,k=>!emp (winA c0 c c3 n2 age shear tick now k) && agB c0 c c3 n2 age shear tick now m (k + 1)
theorem agB_iff : ∀ m k,agB c0 c c3 n2 age shear tick now m k = true ↔ ∀ i,i < m → emp (winA c0 c c3 n2 age shear tick now (k + i)) = false
  | 0,k=>⟨fun _ i hi=>by omega,fun _=>rfl⟩
  | m + 1,k=>by
    unfold agB
    rw [Bool.and_eq_true,agB_iff m (k + 1),Bool.not_eq_true']
    constructor
    · rintro ⟨h1,h2⟩ i hi
      cases i with
      | zero=>exact h1
      | succ i=>rw [show k + (i + 1) = k + 1 + i by omega]; exact h2 i (by omega)
    · intro h
      exact ⟨h 0 (by omega),fun i hi=>by rw [show k + 1 + i = k + (i + 1) by omega]; exact h (i + 1) (by omega)⟩
theorem F38_at {k : Nat} (g1 : GL L7 7 c0 n) (g2 : GL L5 5 c n2) (g3 : GL L1 1 c3 n3) (hz : F20_2 c0 0 n c 0 n2 c3 0 n3 age shear = 0) (hxy : (tkB tick && tkB now) = true) (hk : k < n3) :
    F38_ok c0 0 n c 0 n2 c3 0 n3 age shear (k : Int) tick now = true ∧ F38_4 c0 0 n c 0 n2 c3 0 n3 age shear (k : Int) tick now = 0 ∧ F38_3 c0 0 n c 0 n2 c3 0 n3 age shear (k : Int) tick now = !emp (winA c0 c c3 n2 age shear tick now k):=by
  have e:=F38_eq (age:=age) (shear:=shear) (k:=(k : Int)) (x:=tick) (y:=now) g1 g2 g3
  have hq : qErr n3 (k : Int) tick now = 0:=by
    unfold qErr
    rw [if_neg (by omega)]
    exact if_pos hxy
  unfold blm at e
  rw [if_pos hz,if_pos hq] at e
  by_cases he : emp (winA c0 c c3 n2 age shear tick now k) = true
  · have he':=he
    unfold winA at he
    rw [if_pos he] at e
    refine ⟨by simp only [F38_ok,e]; rfl,by simp only [F38_4,e],by simp only [F38_3,e,he']; rfl⟩
  · have he':=he
    unfold winA at he
    rw [if_neg he] at e
    rw [Bool.not_eq_true] at he'
    refine ⟨by simp only [F38_ok,e]; rfl,by simp only [F38_4,e],by simp only [F38_3,e,he']; rfl⟩
theorem loop58 (g1 : GL L7 7 c0 n) (g2 : GL L5 5 c n2) (g3 : GL L1 1 c3 n3) (few : n3 ≤ 1000) (hz : F20_2 c0 0 n c 0 n2 c3 0 n3 age shear = 0) (hxy : (tkB tick && tkB now) = true) (A : Array Value) (o l : Nat) : ∀ m k,k + m = n3 →
    loopR rd58_0 ⟨tick,now,A,o,l,(k : Int),c0,0,n,c,0,n2,c3,0,n3,age,shear⟩ =
    some (if agB c0 c c3 n2 age shear tick now m k = true then .k1 A o l c0 0 n c 0 n2 c3 0 n3 age shear else .k0 false c0 0 n c 0 n2 c3 0 n3 age shear)
  | 0,k,e=>loopR_done (by
      obtain rfl : k = n3:=by omega
      have h1 : ¬ ((k : Int) < (k : Int)):=by omega
      simp only [rd58_0,RT.val,h1,Int.ofNat_eq_natCast,decide_false,cond_false,agB]
      rfl)
  | m + 1,k,e=>by
    have hki : (k : Int) < (n3 : Int):=by omega
    have h3 : IntKind.wrap .i64 ((k : Int) + 1) = ((k + 1 : Nat) : Int):=by rw [wrap64_id (by omega) (by omega)]; omega
    obtain ⟨f1,f2,f3⟩:=F38_at (k:=k) g1 g2 g3 hz hxy (by omega)
    by_cases he : emp (winA c0 c c3 n2 age shear tick now k) = true
    · rw [he] at f3
      refine loopR_done ?_
      simp only [rd58_0,RT.val,hki,Int.ofNat_eq_natCast,f1,f2,f3,decide_true,Bool.not_true,Bool.not_false,cond_true,cond_false,agB,he,Bool.false_and]
      rfl
    · rw [Bool.not_eq_true] at he
      rw [he] at f3
      refine (loopR_next ?_).trans ((loop58 g1 g2 g3 few hz hxy A o l m (k + 1) (by omega)).trans ?_)
      · simp only [rd58_0,RT.val,hki,Int.ofNat_eq_natCast,f1,f2,f3,decide_true,Bool.not_true,Bool.not_false,cond_true,cond_false,h3]
      · simp only [agB,he,Bool.not_false,Bool.true_and]
theorem bnS_ok (h : (bnS c0 c c3 n n2 n3 age shear x y).2 = 0) : F20_2 c0 0 n c 0 n2 c3 0 n3 age shear = 0 ∧ (tkB x && tkB y) = true ∧ ∃ R,bnds c0 c c3 n n2 age shear x y n3 0 = some R ∧ bnS c0 c c3 n n2 n3 age shear x y = (R,0):=by
  unfold bnS at h ⊢
  by_cases hz : F20_2 c0 0 n c 0 n2 c3 0 n3 age shear = 0
  · rw [if_pos hz] at h ⊢
    by_cases hxy : (tkB x && tkB y) = true
    · rw [if_pos hxy] at h ⊢
      cases hb : bnds c0 c c3 n n2 age shear x y n3 0 with
      | none=>rw [hb] at h; simp at h
      | some R=>exact ⟨hz,hxy,R,rfl,rfl⟩
    · rw [if_neg hxy] at h; simp at h
  · rw [if_neg hz] at h; exact absurd h hz
theorem F58_yes (g1 : GL L7 7 c0 n) (g2 : GL L5 5 c n2) (g3 : GL L1 1 c3 n3) (hz : F20_2 c0 0 n c 0 n2 c3 0 n3 age shear = 0) (hxy : (tkB x && tkB y) = true) (ha : agB c0 c c3 n2 age shear x y n3 0 = true) :
    ∃ R,bnds c0 c c3 n n2 age shear x y n3 0 = some R ∧ F58_ok c0 0 n c 0 n2 c3 0 n3 age shear x y = true ∧ F58_0 c0 0 n c 0 n2 c3 0 n3 age shear x y = arrB R ∧ F58_1 c0 0 n c 0 n2 c3 0 n3 age shear x y = 0 ∧ F58_2 c0 0 n c 0 n2 c3 0 n3 age shear x y = R.length ∧ F58_3 c0 0 n c 0 n2 c3 0 n3 age shear x y = true:=by
  obtain ⟨hv,hn,hc⟩:=vld g1 g2 g3 hz
  obtain ⟨R,hR⟩:=bnds_some (c0:=c0) (c:=c) (c3:=c3) (n:=n) (n2:=n2) (age:=age) (shear:=shear) (tick:=x) (now:=y) n3 0 fun i hi=>by
    have:=(agB_iff n3 0).1 ha i hi
    unfold winA at this
    rw [Nat.zero_add] at this ⊢
    exact ⟨_,by unfold ansO; rw [if_neg (by rw [this]; decide)]⟩
  have e42:=F42_eq (age:=age) (shear:=shear) (x:=x) (y:=y) g1 g2 g3
  have hs : bnS c0 c c3 n n2 n3 age shear x y = (R,0):=by unfold bnS; rw [if_pos hz,if_pos hxy,hR]
  rw [hs] at e42
  have hlen:=bnds_len n3 0 R hR
  have hL:=loop58 (tick:=x) (now:=y) g1 g2 g3 (by omega) hz hxy (arrB R) 0 R.length n3 0 (by omega)
  rw [if_pos ha] at hL
  have hL' : L58_0 ⟨x,y,arrB R,0,R.length,0,c0,0,n,c,0,n2,c3,0,n3,age,shear⟩ = _:=hL
  have e : F58 c0 0 n c 0 n2 c3 0 n3 age shear x y = some ⟨arrB R,0,R.length,true⟩:=by
    unfold F58 rt58
    simp only [RT.val,F42_ok,F42_0,F42_1,F42_2,F42_3,e42,Option.isSome_some,hlen,eqCode_self,L58_0_k0,L58_0_k1,L58_0_k1_0,L58_0_k1_1,L58_0_k1_2,hL',decide_true,Bool.not_true,cond_true,cond_false]
    rw [hlen] at hL'
    simp only [hL',hlen,cond_true,cond_false]
  exact ⟨R,hR,by simp only [F58_ok,e]; rfl,by simp only [F58_0,e],by simp only [F58_1,e],by simp only [F58_2,e],by simp only [F58_3,e]⟩
theorem F58_no (g1 : GL L7 7 c0 n) (g2 : GL L5 5 c n2) (g3 : GL L1 1 c3 n3) (h : F20_2 c0 0 n c 0 n2 c3 0 n3 age shear = 0 → (tkB x && tkB y) = true → ¬ agB c0 c c3 n2 age shear x y n3 0 = true) :
    F58_ok c0 0 n c 0 n2 c3 0 n3 age shear x y = true ∧ F58_3 c0 0 n c 0 n2 c3 0 n3 age shear x y = false:=by
  have e42:=F42_eq (age:=age) (shear:=shear) (x:=x) (y:=y) g1 g2 g3
  have e : F58 c0 0 n c 0 n2 c3 0 n3 age shear x y = some ⟨⟨[]⟩,0,0,false⟩:=by
    by_cases hb : (bnS c0 c c3 n n2 n3 age shear x y).2 = 0
    · obtain ⟨hz,hxy,R,hR,hs⟩:=bnS_ok hb
      obtain ⟨hv,hn,hc⟩:=vld g1 g2 g3 hz
      have ha:=h hz hxy
      rw [hs] at e42
      have hlen:=bnds_len n3 0 R hR
      have hL:=loop58 (tick:=x) (now:=y) g1 g2 g3 (by omega) hz hxy (arrB R) 0 R.length n3 0 (by omega)
      rw [if_neg ha] at hL
      have hL' : L58_0 ⟨x,y,arrB R,0,R.length,0,c0,0,n,c,0,n2,c3,0,n3,age,shear⟩ = _:=hL
      unfold F58 rt58
      simp only [RT.val,F42_ok,F42_0,F42_1,F42_2,F42_3,e42,Option.isSome_some,hlen,eqCode_self,L58_0_k0,L58_0_k0_0,hL',decide_true,Bool.not_true,cond_true,cond_false]
      rw [hlen] at hL'
      simp only [hL',hlen,cond_true,cond_false]
    · unfold F58 rt58
      simp only [RT.val,F42_ok,F42_0,F42_1,F42_2,F42_3,e42,Option.isSome_some,hb,decide_false,Bool.not_false,cond_true,cond_false]
  exact ⟨by simp only [F58_ok,e]; rfl,by simp only [F58_3,e]⟩
end
end
end Go.Proofs.Ytaglpbmnadlpgaa

namespace Go.Proofs.Ytaglpbmnadlpgaa
open Go.Gi Go.RowKit Go.Proofs.Ytaglpbmnadlpgaa.Old
noncomputable section
set_option maxRecDepth 100000
set_option linter.unusedVariables false
set_option linter.unusedSimpArgs false
section
variable {c0 c c3 : Array Value} {n n2 n3 : Nat} {age shear a b now x y : Int}
theorem cuts_le (up : ∀ k,0 < k → k < n3 → getInt c3 (k - 1) < getInt c3 k) : ∀ j i,i ≤ j → j < n3 → getInt c3 i ≤ getInt c3 j
  | 0,i,h,hj=>by
    obtain rfl : i = 0:=by omega
    exact Int.le_refl _
  | j + 1,i,h,hj=>by
    rcases Nat.eq_or_lt_of_le h with rfl | h
    · exact Int.le_refl _
    · have h1:=cuts_le up j i (by omega) (by omega)
      have h2:=up (j + 1) (by omega) hj
      simp only [Nat.add_sub_cancel] at h2
      omega
theorem wLo_pos {i : Nat} (h : 0 < i) : wLo c3 (i : Int) = getInt c3 (i - 1):=by
  obtain ⟨k,rfl⟩ : ∃ k,i = k + 1:=⟨i - 1,by omega⟩
  rw [wLo_next,Nat.add_sub_cancel]
theorem bnds_win {R : List Bd} (hR : bnds c0 c c3 n n2 age shear x y n3 0 = some R) (ha : agB c0 c c3 n2 age shear x y n3 0 = true) {i : Nat} (hi : i < n3) :
    R[i]'(by rw [bnds_len n3 0 R hR]; exact hi) = ⟨wLo c3 (i : Int),getInt c3 i,(winA c0 c c3 n2 age shear x y i).xl,(winA c0 c c3 n2 age shear x y i).xh,(winA c0 c c3 n2 age shear x y i).yl,(winA c0 c c3 n2 age shear x y i).yh⟩:=by
  have hl:=bnds_len n3 0 R hR
  obtain ⟨H,h1,h2⟩:=bnds_get n3 0 R hR i (by omega)
  have he:=(agB_iff n3 0).1 ha i hi
  rw [Nat.zero_add] at he h1 h2
  unfold winA at he
  unfold ansO at h1
  rw [if_neg (by rw [he]; decide),Option.some.injEq] at h1
  rw [h2,← h1]
  rfl
end
end
end Go.Proofs.Ytaglpbmnadlpgaa

namespace Go.Proofs.Ytaglpbmnadlpgaa
open Go.Gi Go.RowKit Go.Proofs.Ytaglpbmnadlpgaa.Old
noncomputable section
set_option maxRecDepth 100000
set_option linter.unusedVariables false
set_option linter.unusedSimpArgs false
structure SdOk (c0 : Array Value) (n : Nat) (c : Array Value) (k : Nat) : Prop where
  src : 0 ≤ getInt c (0 + k * 5) ∧ getInt c (0 + k * 5) < n
  tick : 0 ≤ getInt c (0 + k * 5 + 1) ∧ getInt c (0 + k * 5 + 1) ≤ 100000
  height : getInt c0 (0 + (getInt c (0 + k * 5)).toNat * 7 + 5) ≤ getInt c (0 + k * 5 + 2) ∧ getInt c (0 + k * 5 + 2) ≤ getInt c0 (0 + (getInt c (0 + k * 5)).toNat * 7 + 6)
  x : -20000 ≤ getInt c (0 + k * 5 + 3) ∧ getInt c (0 + k * 5 + 3) ≤ 20000
  y : -20000 ≤ getInt c (0 + k * 5 + 4) ∧ getInt c (0 + k * 5 + 4) ≤ 20000
  uniq : ∀ j,j < k → ¬ (getInt c (0 + j * 5) = getInt c (0 + k * 5) ∧ getInt c (0 + j * 5 + 1) = getInt c (0 + k * 5 + 1) ∧ getInt c (0 + j * 5 + 2) = getInt c (0 + k * 5 + 2))
  up : getInt c0 (0 + (getInt c (0 + k * 5)).toNat * 7 + 1) = 2 → ∀ j,j < k → getInt c (0 + j * 5) = getInt c (0 + k * 5) → getInt c (0 + j * 5 + 1) ≤ getInt c (0 + k * 5 + 1) ∧ getInt c (0 + j * 5 + 2) ≤ getInt c (0 + k * 5 + 2)
section
variable {c0 c c3 c' : Array Value} {n n2 n3 n2' : Nat} {age shear tick now lo hi : Int}
structure Sub (c' : Array Value) (n2' : Nat) (c : Array Value) (n2 : Nat) (f : Nat → Nat) : Prop where
  lt : ∀ j,j < n2' → f j < n2
  up : ∀ i j,i < j → j < n2' → f i < f j
  le : n2' ≤ n2
  row : ∀ j,j < n2' → getInt c' (0 + j * 5) = getInt c (0 + f j * 5) ∧ getInt c' (0 + j * 5 + 1) = getInt c (0 + f j * 5 + 1) ∧ getInt c' (0 + j * 5 + 2) = getInt c (0 + f j * 5 + 2) ∧ getInt c' (0 + j * 5 + 3) = getInt c (0 + f j * 5 + 3) ∧ getInt c' (0 + j * 5 + 4) = getInt c (0 + f j * 5 + 4)
theorem Sub.ok {f : Nat → Nat} (hs : Sub c' n2' c n2 f) (h : ∀ k,k < n2 → SdOk c0 n c k) : ∀ k,k < n2' → SdOk c0 n c' k:=by
  intro k hk
  obtain ⟨h1,h2,h3,h4,h5,h6,h7⟩:=h (f k) (hs.lt k hk)
  obtain ⟨r1,r2,r3,r4,r5⟩:=hs.row k hk
  refine ⟨by rw [r1]; exact h1,by rw [r2]; exact h2,by rw [r1,r3]; exact h3,by rw [r4]; exact h4,by rw [r5]; exact h5,fun j hj=>?_,fun hkind j hj=>?_⟩
  · obtain ⟨q1,q2,q3,_,_⟩:=hs.row j (by omega)
    rw [q1,q2,q3,r1,r2,r3]
    exact h6 (f j) (hs.up j k hj hk)
  · obtain ⟨q1,q2,q3,_,_⟩:=hs.row j (by omega)
    rw [r1] at hkind
    rw [q1,q2,q3,r1,r2,r3]
    exact h7 hkind (f j) (hs.up j k hj hk)
end
end
end Go.Proofs.Ytaglpbmnadlpgaa

namespace Go.Proofs.Ytaglpbmnadlpgaa
open Go.Gi Go.RowKit Go.Proofs.Ytaglpbmnadlpgaa.Old
noncomputable section
set_option maxRecDepth 100000
set_option linter.unusedVariables false
set_option linter.unusedSimpArgs false
section
variable {c0 c c3 : Array Value} {n n2 n3 : Nat} {age shear h lo hi tick now x y : Int}
theorem all_between {lo' hi' : Int} {p : Int → Bool} (hv : Vld c0 0 n c 0 n2 age shear) (h1 : lo ≤ lo') (h2 : lo' ≤ hi') (h3 : hi' ≤ hi) (he : emp (all c0 c n2 age shear lo' hi' tick now p) = false) :
    emp (all c0 c n2 age shear lo hi tick now p) = false ∧ wid (all c0 c n2 age shear lo hi tick now p) (all c0 c n2 age shear lo' hi' tick now p):=by
  have key : ∀ i,dbI c0 0 c 0 age shear lo' hi' tick i ≤ dbI c0 0 c 0 age shear lo hi tick i:=by
    intro i
    refine dbI_mono hv.age.1 hv.shear.1 (Int.le_refl _) ?_
    unfold absI; omega
  refine wid_of he (fun v hx=>?_) (fun v hy=>?_)
  · rw [all_inX] at hx ⊢
    refine ⟨hx.1,fun i hi2 hk hp=>?_⟩
    have q:=hx.2 i hi2 hk hp
    have:=key i
    unfold nearX at q ⊢
    omega
  · rw [all_inY] at hy ⊢
    refine ⟨hy.1,fun i hi2 hk hp=>?_⟩
    have q:=hy.2 i hi2 hk hp
    have:=key i
    unfold nearY at q ⊢
    omega
theorem GL1_arrI {L : List Int} (h : L.length ≤ maxLen) : GL L1 1 (arrI L) L.length:=by
  refine ⟨⟨?_,fun k hk=>?_⟩,by rw [size_arrI]; omega,h⟩
  · simp only [arrI,List.all_map]
    exact List.all_eq_true.2 fun x _=>rfl
  · simp only [show L1.length = 1 from rfl,show L1 = [Leaf.int .i64] from rfl,rdOk,rdLeaf,Nat.mul_one,Bool.and_true]
    exact isInt_arrI L hk
end
end
end Go.Proofs.Ytaglpbmnadlpgaa

namespace Go.Proofs.Ytaglpbmnadlpgaa
open Go.Gi Go.RowKit Go.Proofs.Ytaglpbmnadlpgaa.Old
noncomputable section
set_option maxRecDepth 100000
set_option linter.unusedVariables false
set_option linter.unusedSimpArgs false
theorem wHi_of {c3 : Array Value} {k : Nat} (h1 : 1 ≤ getInt c3 k ∧ getInt c3 k ≤ 100000000) : wHi c3 (k : Int) = getInt c3 k - 1:=by
  unfold wHi
  rw [Int.toNat_natCast,wrap64_id (by omega) (by omega)]
theorem wLo_first {c3 : Array Value} : wLo c3 ((0 : Nat) : Int) = 0:=by
  unfold wLo
  rw [if_neg (by omega)]
def mc (c3 : Array Value) (p : Nat) (x : Int) (j : Nat) : Int:=if j < p then getInt c3 j else if j = p then x else getInt c3 (j - 1)
def mcL (c3 : Array Value) (p : Nat) (x : Int) (m : Nat) : List Int:=(List.range m).map (mc c3 p x)
theorem mcL_len (c3 : Array Value) (p : Nat) (x : Int) (m : Nat) : (mcL c3 p x m).length = m:=by simp [mcL]
theorem mcL_get {c3 : Array Value} {p : Nat} {x : Int} {m j : Nat} (h : j < m) : getInt (arrI (mcL c3 p x m)) j = mc c3 p x j:=by
  rw [getInt_arrI _ (by rw [mcL_len]; exact h)]
  simp [mcL]
theorem mcL_next (c3 : Array Value) (p : Nat) (x : Int) (m : Nat) : mcL c3 p x (m + 1) = mcL c3 p x m ++ [mc c3 p x m]:=by
  simp [mcL,List.range_succ]
section
variable {c0 c c3 : Array Value} {n n2 n3 p : Nat} {age shear x y cut : Int}
structure AtCut (c3 : Array Value) (n3 p : Nat) (cut : Int) : Prop where
  pos : 1 ≤ cut
  lt : p < n3
  low : ∀ i,i < p → getInt c3 i < cut
  high : cut < getInt c3 p
theorem AtCut.lo (h : AtCut c3 n3 p cut) {j : Nat} (hj : j < n3 + 1) : wLo (arrI (mcL c3 p cut (n3 + 1))) (j : Int) = if j ≤ p then wLo c3 (j : Int) else if j = p + 1 then cut else getInt c3 (j - 2):=by
  rcases Nat.eq_zero_or_pos j with h0 | h0
  · subst h0
    rw [wLo_first,wLo_first,if_pos (Nat.zero_le _)]
  · rw [wLo_pos h0,mcL_get (by omega)]
    unfold mc
    by_cases h1 : j ≤ p
    · rw [if_pos (by omega),if_pos h1,wLo_pos h0]
    · rw [if_neg (by omega),if_neg h1]
      by_cases h2 : j = p + 1
      · rw [if_pos (by omega),if_pos h2]
      · rw [if_neg (by omega),if_neg h2]; rfl
theorem AtCut.under (h : AtCut c3 n3 p cut) (up : ∀ k,0 < k → k < n3 → getInt c3 (k - 1) < getInt c3 k) (hc : ∀ k,k < n3 → 1 ≤ getInt c3 k ∧ getInt c3 k ≤ 100000000) {i j : Nat} (hi : i < n3) (hj : j < n3 + 1)
    (m1 : wLo c3 (i : Int) < mc c3 p cut j) (m2 : wLo (arrI (mcL c3 p cut (n3 + 1))) (j : Int) < getInt c3 i) :
    wLo c3 (i : Int) ≤ wLo (arrI (mcL c3 p cut (n3 + 1))) (j : Int) ∧ mc c3 p cut j ≤ getInt c3 i:=by
  have hp:=h.lt
  have hlo : ∀ {a b : Nat},a < n3 → b < n3 → wLo c3 (a : Int) < getInt c3 b → a ≤ b:=by
    intro a b ha hb hh
    apply Classical.byContradiction
    intro hn
    rw [wLo_pos (show 0 < a by omega)] at hh
    have:=cuts_le up (a - 1) b (by omega) (by omega)
    omega
  rw [h.lo hj] at m2 ⊢
  unfold mc at m1 ⊢
  by_cases h1 : j < p
  · rw [if_pos (by omega)] at m2 ⊢
    rw [if_pos h1] at m1 ⊢
    have:=hlo hi (by omega) m1
    have:=hlo (by omega) hi m2
    obtain rfl : i = j:=by omega
    exact ⟨Int.le_refl _,Int.le_refl _⟩
  · by_cases h2 : j = p
    · subst h2
      rw [if_pos (Nat.le_refl _)] at m2 ⊢
      rw [if_neg (by omega),if_pos rfl] at m1 ⊢
      have q1:=hlo hp hi m2
      have q2:=hlo hi hp (by have:=h.high; omega)
      obtain rfl : i = j:=by omega
      exact ⟨Int.le_refl _,Int.le_of_lt h.high⟩
    · rw [if_neg (by omega)] at m2 ⊢
      rw [if_neg h1,if_neg h2] at m1 ⊢
      by_cases h3 : j = p + 1
      · subst h3
        rw [if_pos rfl] at m2 ⊢
        simp only [Nat.add_sub_cancel] at m1 ⊢
        have q1:=hlo hi hp m1
        have q2 : ¬ i < p:=fun hlt=>by have:=h.low i hlt; omega
        obtain rfl : i = p:=by omega
        refine ⟨?_,Int.le_refl _⟩
        rcases Nat.eq_zero_or_pos i with h0 | h0
        · subst h0; rw [wLo_first]; have:=h.pos; omega
        · rw [wLo_pos h0]; have:=h.low (i - 1) (by omega); omega
      · rw [if_neg h3] at m2 ⊢
        have q1:=hlo hi (by omega) m1
        have q2 : wLo c3 ((j - 1 : Nat) : Int) < getInt c3 i:=by rw [wLo_pos (by omega)]; exact m2
        have q3:=hlo (by omega) hi q2
        obtain rfl : i = j - 1:=by omega
        refine ⟨?_,Int.le_refl _⟩
        rw [wLo_pos (by omega)]
        exact Int.le_refl _
theorem AtCut.some_in (h : AtCut c3 n3 p cut) {i : Nat} (hi : i < n3) : ∃ j,j < n3 + 1 ∧ wLo c3 (i : Int) ≤ wLo (arrI (mcL c3 p cut (n3 + 1))) (j : Int) ∧ mc c3 p cut j = getInt c3 i:=by
  have hp:=h.lt
  by_cases h1 : i < p
  · refine ⟨i,by omega,?_,by unfold mc; rw [if_pos h1]⟩
    rw [h.lo (by omega),if_pos (by omega)]
    exact Int.le_refl _
  · refine ⟨i + 1,by omega,?_,by unfold mc; rw [if_neg (by omega),if_neg (by omega)]; rfl⟩
    rw [h.lo (by omega),if_neg (by omega)]
    by_cases h2 : i = p
    · subst h2
      rw [if_pos rfl]
      rcases Nat.eq_zero_or_pos i with h0 | h0
      · subst h0; rw [wLo_first]; have:=h.pos; omega
      · rw [wLo_pos h0]; have:=h.low (i - 1) (by omega); omega
    · rw [if_neg (by omega),wLo_pos (by omega)]
      exact Int.le_refl _
theorem finer (h : AtCut c3 n3 p cut) (g1 : GL L7 7 c0 n) (g2 : GL L5 5 c n2) (g3 : GL L1 1 c3 n3) (hz : F20_2 c0 0 n c 0 n2 c3 0 n3 age shear = 0) (hz2 : F20_2 c0 0 n c 0 n2 (arrI (mcL c3 p cut (n3 + 1))) 0 (n3 + 1) age shear = 0)
    (hxy : (tkB x && tkB y) = true) (ha : agB c0 c (arrI (mcL c3 p cut (n3 + 1))) n2 age shear x y (n3 + 1) 0 = true) :
    ∃ R S : List Bd,(F58_ok c0 0 n c 0 n2 c3 0 n3 age shear x y = true ∧ F58_0 c0 0 n c 0 n2 c3 0 n3 age shear x y = arrB R ∧ F58_1 c0 0 n c 0 n2 c3 0 n3 age shear x y = 0 ∧ F58_2 c0 0 n c 0 n2 c3 0 n3 age shear x y = R.length ∧ F58_3 c0 0 n c 0 n2 c3 0 n3 age shear x y = true) ∧
      (F58_ok c0 0 n c 0 n2 (arrI (mcL c3 p cut (n3 + 1))) 0 (n3 + 1) age shear x y = true ∧ F58_0 c0 0 n c 0 n2 (arrI (mcL c3 p cut (n3 + 1))) 0 (n3 + 1) age shear x y = arrB S ∧ F58_1 c0 0 n c 0 n2 (arrI (mcL c3 p cut (n3 + 1))) 0 (n3 + 1) age shear x y = 0 ∧
        F58_2 c0 0 n c 0 n2 (arrI (mcL c3 p cut (n3 + 1))) 0 (n3 + 1) age shear x y = S.length ∧ F58_3 c0 0 n c 0 n2 (arrI (mcL c3 p cut (n3 + 1))) 0 (n3 + 1) age shear x y = true) ∧
      F29_ok (arrB R) 0 R.length (arrB S) 0 S.length = true ∧ F29_0 (arrB R) 0 R.length (arrB S) 0 S.length = true ∧ F29_1 (arrB R) 0 R.length (arrB S) 0 S.length = 0:=by
  obtain ⟨hv,hn,hc⟩:=vld g1 g2 g3 hz
  have up:=cuts_up g1 g2 g3 hz
  have g4 : GL L1 1 (arrI (mcL c3 p cut (n3 + 1))) (n3 + 1):=by
    have hm : maxLen = 9223372036854775807:=rfl
    have:=GL1_arrI (L:=mcL c3 p cut (n3 + 1)) (by rw [mcL_len]; omega)
    rwa [mcL_len] at this
  obtain ⟨_,hn2,hc2⟩:=vld g1 g2 g4 hz2
  have up2:=cuts_up g1 g2 g4 hz2
  obtain ⟨S,hS,s1,s2,s3,s4,s5⟩:=F58_yes g1 g2 g4 hz2 hxy ha
  have win : ∀ {i j : Nat},i < n3 → j < n3 + 1 → wLo c3 (i : Int) ≤ wLo (arrI (mcL c3 p cut (n3 + 1))) (j : Int) → mc c3 p cut j ≤ getInt c3 i →
      emp (winA c0 c c3 n2 age shear x y i) = false ∧ wid (winA c0 c c3 n2 age shear x y i) (winA c0 c (arrI (mcL c3 p cut (n3 + 1))) n2 age shear x y j):=by
    intro i j hi hj l1 l2
    have he:=(agB_iff (n3 + 1) 0).1 ha j hj
    rw [Nat.zero_add] at he
    have e:=mcL_get (c3:=c3) (p:=p) (x:=cut) hj
    have k2:=hc2 j hj
    unfold winA at he ⊢
    refine all_between hv l1 ?_ ?_ he
    · rw [wHi_of k2]
      rcases Nat.eq_zero_or_pos j with h0 | h0
      · subst h0; rw [wLo_first]; omega
      · rw [wLo_pos h0]; have:=up2 j h0 hj; omega
    · rw [wHi_of k2,wHi_of (hc i hi),e]; omega
  have ha1 : agB c0 c c3 n2 age shear x y n3 0 = true:=(agB_iff n3 0).2 fun i hi=>by
    rw [Nat.zero_add]
    obtain ⟨j,j1,j2,j3⟩:=h.some_in hi
    exact (win hi j1 j2 (by omega)).1
  obtain ⟨R,hR,r1,r2,r3,r4,r5⟩:=F58_yes g1 g2 g3 hz hxy ha1
  have lR:=bnds_len n3 0 R hR
  have lS:=bnds_len (n3 + 1) 0 S hS
  refine ⟨R,S,⟨r1,r2,r3,r4,r5⟩,⟨s1,s2,s3,s4,s5⟩,?_⟩
  refine F29_of (by omega) (by omega) (bnds_valF up hc n3 0 R (by omega) hR) (by omega) (by omega) (bnds_valF up2 hc2 (n3 + 1) 0 S (by omega) hS) ?_ ?_
  · have q1:=bnds_win hR ha1 (i:=n3 - 1) (by omega)
    have q2:=bnds_win hS ha (i:=n3) (by omega)
    have e:=mcL_get (c3:=c3) (p:=p) (x:=cut) (show n3 < n3 + 1 by omega)
    have hp:=h.lt
    unfold mc at e
    rw [if_neg (by omega),if_neg (by omega)] at e
    simp only [lR,lS,Nat.add_sub_cancel,q1,q2,e,Int.le_refl]
  · intro i hi j hj m1 m2
    have q1:=bnds_win hR ha1 (i:=i) (by omega)
    have q2:=bnds_win hS ha (i:=j) (by omega)
    rw [q1,q2] at m1 m2 ⊢
    simp only at m1 m2 ⊢
    rw [mcL_get (by omega)] at m1
    obtain ⟨u1,u2⟩:=h.under up hc (by omega) (by omega) m1 m2
    exact (win (by omega) (by omega) u1 u2).2
end
end
end Go.Proofs.Ytaglpbmnadlpgaa

namespace Go.Proofs.Ytaglpbmnadlpgaa
open Go.ChangeShapes Go.WideShapes Go.ChangeAt Go.RowKit Go.Gi Go.Proofs.Ytaglpbmnadlpgaa.Old
set_option linter.unusedVariables false
theorem tyA2 {P : Program} {d : Nat} {t e : TypeId} {cs : List Value} (hu : P.underlying t = some (.array 2 e)) (he : P.underlying e = some (.int .i64)) (h : Ty P (d + 1 + 1) t cs) :
    ∃ x0 x1,cs = [.int .i64 x0,.int .i64 x1] ∧ (Lit.int .i64 x0).wf = true ∧ (Lit.int .i64 x1).wf = true:=by
  obtain ⟨ps,rfl,hl,g⟩:=tyA hu h
  match ps,hl with
  | [p0,p1],_ =>
    obtain ⟨x0,rfl,w0⟩:=tyI he (g p0 (by simp))
    obtain ⟨x1,rfl,w1⟩:=tyI he (g p1 (by simp))
    exact ⟨x0,x1,rfl,w0,w1⟩
theorem tyB69 : tyB Try.prog 20 69 = true:=by kernel_rfl
section
variable {H : Type} {enc : TypeId × Value → H} {w : World} {r : Reach} {b0 : Nat} {v : Value} {dd : DataW H} {p : List MemPlace}
set_option maxRecDepth 100000 in
theorem twoArg (hval : Value.okWide Try.prog w r b0 69 v) (h : DataW.Trod enc Try.prog w 0 (fun _=>true) true 69 v dd p) : ∃ x0 x1,VR (zAll w) (.agg ⟨[.int .i64 x0,.int .i64 x1]⟩) v ∧ (Lit.int .i64 x0).wf = true ∧ (Lit.int .i64 x1).wf = true:=by
  obtain ⟨abs,h1,h2⟩:=argA Try.underlying69 tyB69 hval h
  obtain ⟨x0,x1,rfl,w0,w1⟩:=tyA2 Try.underlying69 Try.underlying3 h2
  exact ⟨x0,x1,h1,w0,w1⟩
end
end Go.Proofs.Ytaglpbmnadlpgaa

namespace Go.Gi
open Go.RowKit
noncomputable section
set_option linter.unusedSimpArgs false
set_option linter.unusedVariables false
def boxD (m : Nat) : Ob → Bool
  | .dead=>true
  | ob=>boxB m ob
theorem boxD_live {m : Nat} {ob : Ob} (h : boxD m ob = true) (hl : ob.live = true) : ob.rw = true ∧ obSc m ob = true:=by
  cases ob with
  | dead=>cases hl
  | _ =>
    simp only [boxD,boxB,Bool.and_eq_true] at h
    exact ⟨h.1.2,h.2⟩
section
variable {K : Nat → Prop} {w0 w : World} {φ ψ : Phi} {X H2 : List Ob} {κ : Nat → Nat}
theorem Inv.view (hF : Inv K w0 φ X w)
    (hv : ∀ (i : Nat) (ob : Ob),H2[i]? = some ob → ob.live = true → ∃ ob',X[κ i]? = some ob' ∧ ob'.live = true ∧ (ob.rw = true → ob'.rw = true) ∧ ψ i = φ (κ i) ∧ ∀ B base tot,ObR φ w ob' B base tot → ObR ψ w ob B base tot)
    (hi : ∀ (i i' : Nat) (ob ob' : Ob),H2[i]? = some ob → H2[i']? = some ob' → ob.live = true → ob'.live = true → κ i = κ i' → i = i')
    (ht : ∀ i,H2.length ≤ i → ψ i = none) (hz : ∀ B o,ψ.z B = some o → w.heap[B]? = some o)
    (hs : ∀ (i : Nat) (ob : Ob) (x : Nat × Nat × Nat),H2[i]? = some ob → ob.rw = true → ψ i = some x → ψ.z x.1 = none) (hk : ∀ k,K k → ψ.z k = none) : Inv K w0 ψ H2 w:=by
  refine ⟨?_,?_,?_,hF.keep,hF.klt,hF.size,hF.os,hF.tape,hF.output,ht,hz,hs,hk⟩
  · intro i ob h1 h2
    obtain ⟨ob',k1,k2,_,k4,k5⟩:=hv i ob h1 h2
    obtain ⟨B,base,tot,q1,q2⟩:=hF.obs _ ob' k1 k2
    exact ⟨B,base,tot,k4.trans q1,k5 _ _ _ q2⟩
  · intro i i' ob ob' x y hne h1 h1' hrw hl hx hy
    obtain ⟨o1,k1,k2,k3,k4,_⟩:=hv i ob h1 (Ob.live_of_rw hrw)
    obtain ⟨o2,l1,l2,_,l4,_⟩:=hv i' ob' h1' hl
    exact hF.sep _ _ o1 o2 x y (fun he=>hne (hi i i' ob ob' h1 h1' (Ob.live_of_rw hrw) hl he)) k1 l1 (k3 hrw) l2 (k4 ▸ hx) (l4 ▸ hy)
  · intro i ob x h1 hrw hx
    obtain ⟨o1,k1,_,k3,k4,_⟩:=hv i ob h1 (Ob.live_of_rw hrw)
    exact hF.prot _ o1 x k1 (k3 hrw) (k4 ▸ hx)
theorem zF_frz (hF : Inv K w0 φ X w) (m : Nat) : ∀ B o,zF φ X m w B = some o → w.heap[B]? = some o:=by
  intro B o hB
  unfold zF at hB
  split at hB
  · exact hB
  · exact hF.frz B o hB
theorem zF_sep (hF : Inv K w0 φ X w) {m b : Nat} {ob : Ob} {x : Nat × Nat × Nat} (h1 : b < m) (h2 : X[b]? = some ob) (hrw : ob.rw = true) (hx2 : φ b = some x) : zF φ X m w x.1 = none:=by
  unfold zF
  rw [if_neg]
  · exact hF.zsep b ob x h2 hrw hx2
  · rintro ⟨b',ob',x',k1,k2,k3,k4,k5⟩
    exact hF.sep b b' ob ob' x x' (by omega) h2 k2 hrw (Ob.live_of_rw k3) hx2 k4 k5.symm
theorem VRs.picks {tm : Array Value} : ∀ (pk : List Nat) (vs : List Value) (T : List Value),VRs ψ T.toArray tm → VRl ψ vs (pk.map fun i=>tm.getD i undef) → vs.all (fun v=>notU v) = true → VRs ψ (sets T (pk.zip vs)).toArray tm:=by
  intro pk
  induction pk with
  | nil=>intro vs T h _ _; cases vs <;> exact h
  | cons i r ih =>
    intro vs T h hv hall
    cases hv with
    | cons h1' h2' =>
      rename_i v vs'
      simp only [List.all_cons,Bool.and_eq_true] at hall
      refine ih vs' _ ?_ h2' hall.2
      rcases Nat.lt_or_ge i tm.size with hi | hi
      · have e : tm = tm.setIfInBounds i (tm.getD i undef):=by
          apply Array.ext_getElem?
          intro q
          rw [Array.getElem?_setIfInBounds]
          split
          · rename_i hq
            subst hq
            first
            | (rw [Array.getElem?_eq_getElem hi]; rfl)
            | (rw [if_pos hi,Array.getD_eq_getD_getElem?,Array.getElem?_eq_getElem hi]; rfl)
          · rfl
        rw [lset_eq]
        have:=h.set h1' i
        rw [← e] at this
        exact this
      · have hT : T.length ≤ i:=by have:=h.size; simp at this; omega
        have e : lset T i v = T:=by rw [lset_set,List.set_eq_of_length_le hT]
        rw [e]; exact h
theorem VRs.lo {LL : List Value} {N : Nat} {tm : Array Value} (hl : LL.length = N) (h : VRs φ LL.toArray tm) : VRs ψ (junkF N (LL.map Go.Gi.lo)).toArray tm:=by
  rw [junkF_eq (by simpa using hl)]
  intro i
  have hVi:=h i
  rw [List.getElem?_toArray] at hVi ⊢
  rw [List.getElem?_map]
  generalize LL[i]? = q at hVi
  generalize tm[i]? = q' at hVi ⊢
  cases hVi with
  | none=>exact .none
  | some h=>exact .some (cl_vr h)
end
def gB : List Nat → List Ob → Bool
  | [],_=>true
  | b :: r,H=>(match nthO H b with | some (.cells a false)=>allFz a | _=>false) && gB r H
def gC (H : List Ob) (k : Option Out) : List Nat → Option Out
  | []=>k
  | b :: r=>match nthO H b with
    | some (.cells a false)=>cond (allFz a) (gC H k r) none
    | _=>none
theorem gC_ok {H : List Ob} {k : Option Out} {o : Out} : ∀ {Bs : List Nat},gC H k Bs = some o → gB Bs H = true ∧ k = some o
  | [],h=>⟨rfl,h⟩
  | b :: r,h=>by
    unfold gC at h
    unfold gB
    split at h
    · rename_i a hb
      obtain ⟨h1,h2⟩:=cond_some h
      obtain ⟨h3,h4⟩:=gC_ok h2
      exact ⟨by rw [h1,h3]; rfl,h4⟩
    · cases h
section
variable {X D : Type}
structure LoopS (X D : Type) where
  c : Code
  N : Nat
  M : Nat
  S : List Nat
  Bs : List Nat
  q : Option (Nat × Nat)
  sz : Nat
  z : Nat
  sl : X → List Value
  hp : X → Value → List Ob
  own : X → Option (Array Value × Nat)
  ex : D → Ex
  pick : Ex → List Nat
  dv : D → List Value
  dh : D → List Ob
def LoopS.ownB (L : LoopS X D) (x : X) : List Ob:=match L.own x with
  | none=>[]
  | some (a,_)=>[.cells a false]
def LoopS.ownV (L : LoopS X D) (x : X) : Value:=match L.own x with
  | none=>.slice none 0 0
  | some (_,l)=>.slice (some ⟨L.M,0,none⟩) l L.sz
def LoopS.H (L : LoopS X D) (x : X) : List Ob:=L.hp x (L.ownV x) ++ L.ownB x
def LoopS.good (L : LoopS X D) (x : X) : Prop:=gB L.Bs (L.hp x (L.ownV x)) = true ∧ ∀ a l,L.own x = some (a,l) → allFz a = true
def LoopS.encS (L : LoopS X D) : Sum X D → Out
  | .inl x=>.ex .normal ⟨L.sl x,[],⟨L.H x,L.N,[]⟩⟩
  | .inr d=>.ex (L.ex d) ⟨L.dv d,[],⟨L.dh d,L.N,[]⟩⟩
def LoopS.headS (L : LoopS X D) (x : X) (j : List Value) : Task:=.code none L.c ⟨sets (junkF L.N j) (L.S.zip (L.sl x)),[],⟨L.H x,0,[]⟩⟩
def LoopS.tailS (L : LoopS X D) (x : X) (d : D) (j : List Value) : Out:=.ex (L.ex d) ⟨sets (junkF L.N j) ((L.pick (L.ex d)).zip (L.dv d)),[],⟨L.dh d ++ List.replicate (L.ownB x).length .dead,0,[]⟩⟩
def kS (N M : Nat) (S : List Nat) (pick : Ex → List Nat) (Bs : List Nat) (z : Nat) (q : Option (Nat × Nat)) : Kn
  | .ex e s=>match s.d,lenIs s.t N with
    | [],true=>(match e with
      | .normal=>(match q with
        | none=>gC (s.h.bl.take M) (some (.ex .normal ⟨S.map (lget s.t),[],⟨s.h.bl.take M,N,s.h.wr⟩⟩)) Bs
        | some (q,j)=>(match nthO s.h.bl q with
          | some (.cells cq false)=>(match lget cq.toList j with
            | .slice none 0 0=>gC (s.h.bl.take M) (some (.ex .normal ⟨S.map (lget s.t),[],⟨s.h.bl.take M,N,s.h.wr⟩⟩)) Bs
            | .slice (some ⟨b,0,none⟩) l zz=>(match Nat.ble M b,nthO s.h.bl b with
              | true,some (.cells a false)=>cond (allFz a) (gC ((s.h.bl.take M).set q (.cells ⟨lset cq.toList j (.slice (some ⟨M,0,none⟩) l zz)⟩ false))
 (some (.ex .normal ⟨S.map (lget s.t),[],⟨(s.h.bl.take M).set q (.cells ⟨lset cq.toList j (.slice (some ⟨M,0,none⟩) l zz)⟩ false) ++ [.cells a false],N,s.h.wr⟩⟩)) Bs) none
              | _,_=>none)
            | _=>none)
          | _=>none))
      | e=>(match q with
        | none=>gC (s.h.bl.take M) (some (.ex e ⟨(pick e).map (lget s.t),[],⟨s.h.bl.take M,N,s.h.wr⟩⟩)) Bs
        | some (q,_)=>(match nthO s.h.bl q with
          | some (.cells cq false)=>frzG M z s.h.bl cq.toList fun us=>frzG M z s.h.bl ((pick e).map (lget s.t)) fun vs =>
              gC ((s.h.bl.take M).set q (.cells ⟨us⟩ false)) (some (.ex e ⟨vs,[],⟨(s.h.bl.take M).set q (.cells ⟨us⟩ false),N,s.h.wr⟩⟩)) Bs
          | _=>none)))
    | _,_=>none
  | _=>none
structure LoopS.OkS (L : LoopS X D) : Prop where
  s2 : ∀ x,(L.sl x).all (fun v=>notU v && scT L.M v) = true
  s1 : ∀ x,(L.sl x).length = L.S.length
  h1 : ∀ x v,(L.hp x v).length = L.M
  h2 : ∀ x,gB L.Bs (L.hp x (.slice none 0 0)) = true → (L.hp x (.slice none 0 0)).all (boxD L.M) = true
  h3 : ∀ x v,match L.q with
    | none=>L.hp x v = L.hp x (.slice none 0 0)
    | some (q,j)=>∃ cs : List Value,(L.hp x (.slice none 0 0))[q]? = some (.cells ⟨cs⟩ false) ∧ j < cs.length ∧ L.hp x v = (L.hp x (.slice none 0 0)).set q (.cells ⟨cs.set j v⟩ false)
  h4 : ∀ x v,gB L.Bs (L.hp x v) = gB L.Bs (L.hp x (.slice none 0 0))
  qM : ∀ q j,L.q = some (q,j) → q < L.M
  d1 : ∀ d,(L.dv d).all (fun v=>notU v && scT L.M v) = true
  d2 : ∀ d,(L.dh d).length = L.M
  d3 : ∀ d,gB L.Bs (L.dh d) = true → (L.dh d).all (boxD L.M) = true
  e1 : ∀ d,L.ex d ≠ .normal
  e2 : ∀ d,noPanic (L.ex d) = true
  e3 : ∀ d,(L.pick (L.ex d)).length = (L.dv d).length
  nd : L.S.Nodup
  lt : ∀ k ∈ L.S,k < L.N
theorem LoopS.own_cases {L : LoopS X D} (x : X) : (L.own x = none ∧ L.ownB x = [] ∧ L.ownV x = .slice none 0 0) ∨ ∃ a l,L.own x = some (a,l) ∧ L.ownB x = [.cells a false] ∧ L.ownV x = .slice (some ⟨L.M,0,none⟩) l L.sz:=by
  unfold LoopS.ownB LoopS.ownV
  cases h : L.own x with
  | none=>exact .inl ⟨rfl,rfl,rfl⟩
  | some al=>obtain ⟨a,l⟩:=al; exact .inr ⟨a,l,rfl,rfl,rfl⟩
theorem all_boxD {m : Nat} {H : List Ob} (h : H.all (boxD m) = true) {i : Nat} {ob : Ob} (hi : H[i]? = some ob) : boxD m ob = true:=by
  rw [List.all_eq_true] at h
  exact h ob (List.mem_of_getElem? hi)
def turnP (φ : Phi) (M b : Nat) (o : Bool) : Phi:=⟨fun i=>if i < M then φ i else if i = M ∧ o = true then φ b else none,φ.z⟩
theorem turn_le {φ : Phi} {M b : Nat} {o : Bool} : le (cut φ M) (turnP φ M b o):=by
  refine ⟨fun i y hi=>?_,fun B o hB=>hB⟩
  rcases Nat.lt_or_ge i M with h | h
  · rw [cut_lt h] at hi
    show (if i < M then φ i else _) = some y
    rw [if_pos h]; exact hi
  · rw [cut_ge h] at hi; cases hi
theorem take_get {bl H1 : List Ob} {M : Nat} (h : bl.take M = H1) {b : Nat} {ob : Ob} (hb : H1[b]? = some ob) : b < M ∧ bl[b]? = some ob:=by
  rw [← h,List.getElem?_take] at hb
  split at hb
  · exact ⟨by assumption,hb⟩
  · cases hb
theorem LoopS.same {L : LoopS X D} (ok : L.OkS) {x : X} {bl : List Ob} (ho : L.own x = none) (e : bl.take L.M = L.H x) (hg : gB L.Bs (bl.take L.M) = true) :
    L.good x ∧ ∀ (K : Nat → Prop) (w0 : World) (φ : Phi) (w : World),Inv K w0 φ bl w → Inv K w0 (turnP φ L.M 0 false) (L.H x) w:=by
  have hV : L.ownV x = .slice none 0 0:=by unfold LoopS.ownV; rw [ho]
  have hB : L.ownB x = []:=by unfold LoopS.ownB; rw [ho]
  have hH : L.H x = L.hp x (.slice none 0 0):=by unfold LoopS.H; rw [hV,hB,List.append_nil]
  have hgb : gB L.Bs (L.hp x (.slice none 0 0)) = true:=by rw [← hH,← e]; exact hg
  have hbox:=ok.h2 x hgb
  refine ⟨⟨by rw [hV]; exact hgb,fun a l h=>by rw [ho] at h; cases h⟩,fun K w0 φ w hF=>?_⟩
  rw [hH] at e ⊢
  refine hF.view (κ:=id) (fun i ob hi hl=>?_) (fun i i' _ _ _ _ _ _ h=>h) (fun i hi=>?_) hF.frz (fun i ob y hi hrw hy=>?_) hF.zk
  · obtain ⟨k1,k2⟩:=take_get e hi
    refine ⟨ob,k2,hl,fun h=>h,if_pos k1,fun B base tot hr=>?_⟩
    exact (obSc_cut (boxD_live (all_boxD hbox hi) hl).2 hr).keep turn_le rfl
  · rw [ok.h1] at hi
    show (if i < L.M then _ else if i = L.M ∧ false = true then _ else none) = none
    rw [if_neg (by omega),if_neg (by simp)]
  · obtain ⟨k1,k2⟩:=take_get e hi
    have hy' : (if i < L.M then φ i else if i = L.M ∧ false = true then φ 0 else none) = some y:=hy
    rw [if_pos k1] at hy'
    exact hF.zsep i ob y k2 hrw hy'
theorem LoopS.turn {L : LoopS X D} (ok : L.OkS) {e : Ex} {LL : List Value} {bl : List Ob} {b1 : Nat} {wr : List Nat} {x : X}
    (h : kS L.N L.M L.S L.pick L.Bs L.z L.q (.ex e ⟨LL,[],⟨bl,b1,wr⟩⟩) = some (L.encS (.inl x))) :
    e = .normal ∧ LL.length = L.N ∧ L.good x ∧ L.S.map (lget LL) = L.sl x ∧ ∃ b o,∀ (K : Nat → Prop) (w0 : World) (φ : Phi) (w : World),Inv K w0 φ bl w → Inv K w0 (turnP φ L.M b o) (L.H x) w:=by
  unfold kS at h
  simp only at h
  split at h
  case h_2=>cases h
  rename_i hlen
  have k4:=lenIs_eq _ _ hlen
  have nil : ∀ {k : Option Out},gC (bl.take L.M) (some (.ex .normal ⟨L.S.map (lget LL),[],⟨bl.take L.M,L.N,wr⟩⟩)) L.Bs = some (L.encS (.inl x)) →
      L.good x ∧ L.S.map (lget LL) = L.sl x ∧ ∃ b o,∀ (K : Nat → Prop) (w0 : World) (φ : Phi) (w : World),Inv K w0 φ bl w → Inv K w0 (turnP φ L.M b o) (L.H x) w:=by
    intro _ h
    obtain ⟨g1,g2⟩:=gC_ok h
    simp only [LoopS.encS,Option.some.injEq,Out.ex.injEq,St.mk.injEq,Hp.mk.injEq,true_and] at g2
    obtain ⟨q1,q2,_⟩:=g2
    have ho : L.own x = none:=by
      rcases LoopS.own_cases (L:=L) x with ⟨p1,_,_⟩ | ⟨a,l,p1,p2,_⟩
      · exact p1
      · have:=congrArg List.length q2
        unfold LoopS.H at this
        rw [List.length_append,ok.h1,p2,List.length_take] at this
        simp only [List.length_cons,List.length_nil] at this
        omega
    obtain ⟨s1,s2⟩:=LoopS.same ok ho q2 g1
    exact ⟨s1,q1,0,false,s2⟩
  split at h
  · split at h
    · exact ⟨rfl,k4,nil (k:=none) h⟩
    · rename_i q j hq
      split at h
      case h_2=>cases h
      rename_i cq hcq
      rw [nthO_eq] at hcq
      split at h
      · exact ⟨rfl,k4,nil (k:=none) h⟩
      · rename_i b l zz hsl
        split at h
        case h_2=>cases h
        rename_i a hmb hX
        rw [nthO_eq] at hX
        have hMb:=Nat.le_of_ble_eq_true hmb
        obtain ⟨ha,h⟩:=cond_some h
        obtain ⟨g1,g2⟩:=gC_ok h
        simp only [LoopS.encS,Option.some.injEq,Out.ex.injEq,St.mk.injEq,Hp.mk.injEq,true_and] at g2
        obtain ⟨q1,q2,_⟩:=g2
        have hqM:=ok.qM q j hq
        have hblM : L.M ≤ bl.length:=by have:=lt_of_get hX; omega
        have hlen2 : ((bl.take L.M).set q (.cells ⟨lset cq.toList j (.slice (some ⟨L.M,0,none⟩) l zz)⟩ false)).length = (L.hp x (L.ownV x)).length:=by
          rw [List.length_set,List.length_take,ok.h1]; omega
        obtain ⟨q3,q4⟩:=List.append_inj (show _ ++ _ = L.hp x (L.ownV x) ++ L.ownB x from q2) hlen2
        rcases LoopS.own_cases (L:=L) x with ⟨p1,p2,p3⟩ | ⟨a2,l2,p1,p2,p3⟩
        · rw [p2] at q4; cases q4
        · rw [p2] at q4
          simp only [List.cons.injEq,Ob.cells.injEq,and_true] at q4
          subst q4
          have h3:=ok.h3 x (L.ownV x)
          rw [hq] at h3
          obtain ⟨cs,c1,c2,c3⟩:=h3
          rw [c3] at q3
          have hqlt : q < (bl.take L.M).length:=by rw [List.length_take]; omega
          have hqn : q < (L.hp x (.slice none 0 0)).length:=by rw [ok.h1]; exact hqM
          have e1:=congrArg (fun z=>z[q]?) q3
          simp only [List.getElem?_set_self hqlt,List.getElem?_set_self hqn,Option.some.injEq,Ob.cells.injEq,Array.mk.injEq,and_true] at e1
          have e2 : ∀ i,i ≠ q → i < L.M → bl[i]? = (L.hp x (.slice none 0 0))[i]?:=by
            intro i hi him
            have:=congrArg (fun z=>z[i]?) q3
            simp only [List.getElem?_set_ne (Ne.symm hi)] at this
            rw [← this,List.getElem?_take,if_pos him]
          rw [lset_set] at e1
          have e3 : cq.toList.length = cs.length:=by
            have:=congrArg List.length e1
            simpa using this
          have e4 : L.ownV x = .slice (some ⟨L.M,0,none⟩) l zz:=by
            have:=congrArg (fun z=>z[j]?) e1
            simp only [List.getElem?_set_self (show j < cq.toList.length by omega),List.getElem?_set_self c2,Option.some.injEq] at this
            exact this.symm
          have e5 : ∀ k,k ≠ j → cq.toList[k]? = cs[k]?:=by
            intro k hk
            have:=congrArg (fun z=>z[k]?) e1
            simpa only [List.getElem?_set_ne (Ne.symm hk)] using this
          have hgb : gB L.Bs (L.hp x (L.ownV x)) = true:=by rw [c3,← q3]; exact g1
          have hgb0 : gB L.Bs (L.hp x (.slice none 0 0)) = true:=by rw [← ok.h4 x (L.ownV x)]; exact hgb
          have hbox:=ok.h2 x hgb0
          refine ⟨rfl,k4,⟨hgb,fun a' l' h'=>by rw [p1] at h'; simp only [Option.some.injEq,Prod.mk.injEq] at h'; rw [← h'.1]; exact ha⟩,q1,b,true,fun K w0 φ w hF=>?_⟩
          have hsl' : cq.toList[j]? = some (.slice (some ⟨b,0,none⟩) l zz):=getElem_of_lget hsl rfl
          have hHget : ∀ {i : Nat} {ob : Ob},(L.H x)[i]? = some ob → (i < L.M ∧ (L.hp x (L.ownV x))[i]? = some ob) ∨ (i = L.M ∧ ob = .cells a false):=by
            intro i ob hi
            unfold LoopS.H at hi
            rcases get_app hi with ⟨h1,h2⟩ | ⟨h1,h2⟩
            · exact .inl ⟨by rwa [ok.h1] at h1,h2⟩
            · rw [ok.h1] at h1 h2
              rw [p2,List.getElem?_singleton] at h2
              split at h2
              · simp only [Option.some.injEq] at h2
                exact .inr ⟨by omega,h2.symm⟩
              · cases h2
          have hlt : ∀ {i : Nat},i < L.M → turnP φ L.M b true i = φ i:=fun h=>if_pos h
          have hM : turnP φ L.M b true L.M = φ b:=by
            show (if L.M < L.M then _ else if L.M = L.M ∧ true = true then φ b else none) = φ b
            rw [if_neg (by omega),if_pos ⟨rfl,rfl⟩]
          have hback : ∀ {i : Nat} {ob : Ob},(L.H x)[i]? = some ob → ob.live = true → ∃ ob',bl[if i = L.M then b else i]? = some ob' ∧ ob'.live = true ∧ (ob.rw = true → ob'.rw = true) ∧ turnP φ L.M b true i = φ (if i = L.M then b else i) ∧ ∀ B base tot,ObR φ w ob' B base tot → ObR (turnP φ L.M b true) w ob B base tot:=by
            intro i ob hi hl
            rcases hHget hi with ⟨hiM,h2⟩ | ⟨rfl,rfl⟩
            · rw [if_neg (by omega),hlt hiM]
              rw [c3] at h2
              by_cases hiq : i = q
              · subst hiq
                rw [List.getElem?_set_self hqn,Option.some.injEq] at h2
                subst h2
                refine ⟨_,hcq,rfl,fun _=>rfl,rfl,?_⟩
                rintro B base tot ⟨C,el,fr,r1,r2,r3⟩
                refine ⟨C,el,fr,r1,fun k u hu=>?_,fun hh=>?_⟩
                · simp only [List.getElem?_toArray] at hu
                  by_cases hkj : k = j
                  · subst hkj
                    rw [List.getElem?_set_self c2,Option.some.injEq] at hu
                    subst hu
                    obtain ⟨v',r4,r5⟩:=r2 k _ (by rw [← Array.getElem?_toList]; exact hsl')
                    refine ⟨v',r4,?_⟩
                    rw [e4]
                    cases r5 with
                    | sliceZ hp' a2 c2'=>exact .sliceZ (a:=⟨L.M,0,none⟩) (hM.trans hp') a2 _
                    | slice hp' hl' hc'=>exact .slice (hM.trans hp') hl' hc'
                  · rw [List.getElem?_set_ne (Ne.symm hkj)] at hu
                    obtain ⟨v',r4,r5⟩:=r2 k u (by rw [← Array.getElem?_toList,e5 k hkj]; exact hu)
                    have hsc:=(boxD_live (all_boxD hbox c1) rfl).2
                    simp only [obSc,List.all_eq_true] at hsc
                    exact ⟨v',r4,(sc1_cut (hsc u (List.mem_of_getElem? hu)) r5).mono turn_le⟩
                · have:=r3 hh
                  have hs : cq.size = cs.length:=by rw [← e3]; simp
                  simp only [List.size_toArray,List.length_set]
                  rw [← hs]; exact this
              · rw [List.getElem?_set_ne (Ne.symm hiq)] at h2
                have h2':=h2
                rw [← e2 i hiq hiM] at h2'
                refine ⟨ob,h2',hl,fun h=>h,rfl,fun B base tot hr=>?_⟩
                exact (obSc_cut (boxD_live (all_boxD hbox h2) hl).2 hr).keep turn_le rfl
            · rw [if_pos rfl]
              refine ⟨_,hX,rfl,fun _=>rfl,hM,fun B base tot hr=>?_⟩
              refine (obSc_cut (own_sc ha L.M) hr).keep turn_le rfl
          refine hF.view (κ:=fun i=>if i = L.M then b else i) (fun i ob hi hl=>hback hi hl) (fun i i' ob ob' hi hi' hl hl' he=>?_) (fun i hi=>?_) hF.frz (fun i ob y hi hrw hy=>?_) hF.zk
          · have g1 : i ≤ L.M:=by rcases hHget hi with ⟨h,_⟩ | ⟨h,_⟩ <;> omega
            have g2 : i' ≤ L.M:=by rcases hHget hi' with ⟨h,_⟩ | ⟨h,_⟩ <;> omega
            split at he <;> split at he <;> omega
          · unfold LoopS.H at hi
            rw [List.length_append,ok.h1,p2] at hi
            simp only [List.length_cons,List.length_nil] at hi
            show (if i < L.M then _ else if i = L.M ∧ true = true then _ else none) = none
            rw [if_neg (by omega),if_neg (by omega)]
          · obtain ⟨ob',k1,k2,k3,k5,_⟩:=hback hi (Ob.live_of_rw hrw)
            rw [k5] at hy
            exact hF.zsep _ ob' y k1 (k3 hrw) hy
      · cases h
  · rename_i e' hne
    exfalso
    split at h
    · obtain ⟨_,g2⟩:=gC_ok h
      simp only [LoopS.encS,Option.some.injEq,Out.ex.injEq] at g2
      exact hne g2.1
    · split at h
      case h_2=>cases h
      obtain ⟨us,h1,_⟩:=frzG_all h
      obtain ⟨vs,h2,_⟩:=frzG_all h1
      obtain ⟨_,g2⟩:=gC_ok h2
      simp only [LoopS.encS,Option.some.injEq,Out.ex.injEq] at g2
      exact hne g2.1
def leaveP (φ φ0 : Phi) (bl : List Ob) (M : Nat) (w : World) : Phi:=⟨fun i=>if i < M then φ i else φ0 i,zF φ bl M w⟩
theorem cells_list {φ : Phi} {C : Array Value} : ∀ (l : List Value) (off : Nat),(∀ (i : Nat) (v : Value),l[i]? = some v → ∃ v',C[off + i]? = some v' ∧ VR φ v v') → ∃ ws : List Value,VRl φ l ws ∧ ∀ (i : Nat) (v' : Value),ws[i]? = some v' → C[off + i]? = some v'
  | [],off,_=>⟨[],.nil,fun i v' h=>by simp at h⟩
  | v :: l,off,h=>by
    obtain ⟨v',h1,h2⟩:=h 0 v rfl
    obtain ⟨ws,h3,h4⟩:=cells_list l (off + 1) fun i u hu=>by
      obtain ⟨u',g1,g2⟩:=h (i + 1) u (by simpa using hu)
      exact ⟨u',by rw [← g1]; congr 1; omega,g2⟩
    refine ⟨v' :: ws,.cons h2 h3,fun i u hu=>?_⟩
    cases i with
    | zero=>simp only [List.getElem?_cons_zero,Option.some.injEq] at hu; subst hu; exact h1
    | succ i =>
      simp only [List.getElem?_cons_succ] at hu
      rw [← h4 i u hu]; congr 1; omega
theorem LoopS.leave {L : LoopS X D} (ok : L.OkS) {e : Ex} {LL : List Value} {bl : List Ob} {b1 : Nat} {wr : List Nat} {d : D}
    (h : kS L.N L.M L.S L.pick L.Bs L.z L.q (.ex e ⟨LL,[],⟨bl,b1,wr⟩⟩) = some (L.encS (.inr d))) :
    e = L.ex d ∧ LL.length = L.N ∧ gB L.Bs (L.dh d) = true ∧ ∀ (K : Nat → Prop) (w0 : World) (φ φ0 : Phi) (w : World) (tm : Array Value) (nb : Nat),Inv K w0 φ bl w → VRs φ LL.toArray tm → (∀ i y,i < L.M → φ0 i = some y → φ i = some y) → (∀ B o,φ0.z B = some o → φ.z B = some o) → (∀ i,L.M + nb ≤ i → φ0 i = none) →
      ∃ ψ,le φ0 ψ ∧ VRs ψ (sets (junkF L.N (LL.map lo)) ((L.pick (L.ex d)).zip (L.dv d))).toArray tm ∧ Inv K w0 ψ (L.dh d ++ List.replicate nb .dead) w:=by
  unfold kS at h
  simp only at h
  split at h
  case h_2=>cases h
  rename_i hlen
  have k4:=lenIs_eq _ _ hlen
  have hle0 : ∀ {K : Nat → Prop} {w0 : World} {φ φ0 : Phi} {w : World},Inv K w0 φ bl w → (∀ i y,i < L.M → φ0 i = some y → φ i = some y) → (∀ B o,φ0.z B = some o → φ.z B = some o) → le φ0 (leaveP φ φ0 bl L.M w):=by
    intro K w0 φ φ0 w hF h1 h2
    refine ⟨fun i y hi=>?_,fun B o hB=>(zF_made hF L.M).le B o (h2 B o hB)⟩
    show (if i < L.M then φ i else φ0 i) = some y
    split
    · rename_i h; exact h1 i y h hi
    · exact hi
  have hcut : ∀ {K : Nat → Prop} {w0 : World} {φ φ0 : Phi} {w : World},Inv K w0 φ bl w → le (cut φ L.M) (leaveP φ φ0 bl L.M w):=by
    intro K w0 φ φ0 w hF
    refine ⟨fun i y hi=>?_,fun B o hB=>(zF_made hF L.M).le B o hB⟩
    rcases Nat.lt_or_ge i L.M with h | h
    · rw [cut_lt h] at hi
      show (if i < L.M then φ i else φ0 i) = some y
      rw [if_pos h]; exact hi
    · rw [cut_ge h] at hi; cases hi
  have fin : ∀ {K : Nat → Prop} {w0 : World} {φ φ0 : Phi} {w : World} {nb : Nat},Inv K w0 φ bl w → (∀ i,L.M + nb ≤ i → φ0 i = none) → gB L.Bs (L.dh d) = true →
      (∀ (i : Nat) (ob : Ob),(L.dh d)[i]? = some ob → ob.live = true → i < L.M ∧ ∃ ob',bl[i]? = some ob' ∧ ob'.live = true ∧ (ob.rw = true → ob'.rw = true) ∧ (bl[i]? = some ob ∨ ∀ B base tot,ObR φ w ob' B base tot → ObR (leaveP φ φ0 bl L.M w) w ob B base tot)) →
      Inv K w0 (leaveP φ φ0 bl L.M w) (L.dh d ++ List.replicate nb .dead) w:=by
    intro K w0 φ φ0 w nb hF htop hg hv
    have hbox:=ok.d3 d hg
    have hget : ∀ {i : Nat} {ob : Ob},(L.dh d ++ List.replicate nb Ob.dead)[i]? = some ob → ob.live = true → (L.dh d)[i]? = some ob:=by
      intro i ob hi hl
      rcases get_app hi with ⟨_,h2⟩ | ⟨_,h2⟩
      · exact h2
      · rw [List.getElem?_replicate] at h2
        split at h2
        · simp only [Option.some.injEq] at h2; subst h2; cases hl
        · cases h2
    refine hF.view (κ:=id) (fun i ob hi hl=>?_) (fun i i' _ _ _ _ _ _ h=>h) (fun i hi=>?_) (zF_frz hF L.M) (fun i ob y hi hrw hy=>?_) (fun k hk=>zF_k hF L.M hk)
    · obtain ⟨hiM,ob',g1,g2,g3,g4⟩:=hv i ob (hget hi hl) hl
      refine ⟨ob',g1,g2,g3,if_pos hiM,fun B base tot hr=>?_⟩
      rcases g4 with g4 | g4
      · rw [g1,Option.some.injEq] at g4
        subst g4
        exact (obSc_cut (boxD_live (all_boxD hbox (hget hi hl)) hl).2 hr).keep (hcut hF) rfl
      · exact g4 B base tot hr
    · rw [List.length_append,ok.d2,List.length_replicate] at hi
      show (if i < L.M then φ i else φ0 i) = none
      rw [if_neg (by omega)]
      exact htop i hi
    · have hl:=Ob.live_of_rw hrw
      obtain ⟨hiM,ob',g1,g2,g3,_⟩:=hv i ob (hget hi hl) hl
      have hy' : (if i < L.M then φ i else φ0 i) = some y:=hy
      rw [if_pos hiM] at hy'
      exact zF_sep hF hiM g1 (g3 hrw) hy'
  split at h
  · exfalso
    have no : ∀ {T : List Value} {H : List Ob} {wr : List Nat},¬ (some (Out.ex .normal ⟨T,[],⟨H,L.N,wr⟩⟩) = some (L.encS (.inr d))):=by
      intro T H wr hh
      simp only [LoopS.encS,Option.some.injEq,Out.ex.injEq] at hh
      exact ok.e1 d hh.1.symm
    split at h
    · exact no (gC_ok h).2
    · split at h
      case h_2=>cases h
      split at h
      · exact no (gC_ok h).2
      · split at h
        case h_2=>cases h
        obtain ⟨_,h⟩:=cond_some h
        exact no (gC_ok h).2
      · cases h
  · rename_i e' hne
    split at h
    · obtain ⟨g1,g2⟩:=gC_ok h
      simp only [LoopS.encS,Option.some.injEq,Out.ex.injEq,St.mk.injEq,Hp.mk.injEq,true_and] at g2
      obtain ⟨rfl,q1,q2,_⟩:=g2
      refine ⟨rfl,k4,by rw [← q2]; exact g1,fun K w0 φ φ0 w tm nb hF hV ha hz ht=>⟨leaveP φ φ0 bl L.M w,hle0 hF ha hz,?_,?_⟩⟩
      · have hs : SlotRs L.M LL (sets (junkF L.N (LL.map lo)) ((L.pick (L.ex d)).zip (L.dv d))):=by
          refine slotRs_known k4 fun kv hkv=>?_
          have hm:=ok.d1 d
          rw [List.all_eq_true] at hm
          have hm1:=hm _ (List.of_mem_zip hkv).2
          rw [Bool.and_eq_true] at hm1
          rw [← q1] at hkv
          have h5:=zip_get (show (kv.1,kv.2) ∈ (L.pick (L.ex d)).zip ((L.pick (L.ex d)).map (lget LL)) from hkv)
          exact ⟨getElem_of_lget h5.symm hm1.1,hm1.2⟩
        exact (hs.vrs hV).mono (hcut hF)
      · refine fin hF ht (by rw [← q2]; exact g1) fun i ob hi hl=>?_
        obtain ⟨k1,k2⟩:=take_get q2 hi
        exact ⟨k1,ob,k2,hl,fun h=>h,.inl k2⟩
    · rename_i q j hq
      split at h
      case h_2=>cases h
      rename_i cq hcq
      rw [nthO_eq] at hcq
      obtain ⟨us,h1,u1,u2⟩:=frzG_all h
      obtain ⟨vs,h2,v1,v2⟩:=frzG_all h1
      obtain ⟨g1,g2⟩:=gC_ok h2
      simp only [LoopS.encS,Option.some.injEq,Out.ex.injEq,St.mk.injEq,Hp.mk.injEq,true_and] at g2
      obtain ⟨rfl,q1,q2,_⟩:=g2
      have hqM:=ok.qM q j hq
      have hqb : q < (bl.take L.M).length:=by rw [List.length_take]; have:=lt_of_get hcq; omega
      refine ⟨rfl,k4,by rw [← q2]; exact g1,fun K w0 φ φ0 w tm nb hF hV ha hz ht=>⟨leaveP φ φ0 bl L.M w,hle0 hF ha hz,?_,?_⟩⟩
      · have hpick : VRl φ ((L.pick (L.ex d)).map (lget LL)) ((L.pick (L.ex d)).map (fun i=>tm.getD i undef)):=by
          generalize L.pick (L.ex d) = pk
          induction pk with
          | nil=>exact .nil
          | cons i r ih =>
            refine .cons ?_ ih
            have:=hV.getD i
            rw [← lget_eq] at this
            exact this
        obtain ⟨u,hu,hu2⟩:=frzG_ok (ψ:=leaveP φ φ0 bl L.M w) (zF_made hF L.M) (hcut hF) h1 hpick
        obtain ⟨_,g3⟩:=gC_ok hu2
        simp only [LoopS.encS,Option.some.injEq,Out.ex.injEq,St.mk.injEq,Hp.mk.injEq,true_and] at g3
        obtain ⟨rfl,_,_⟩:=g3
        refine VRs.picks _ _ _ (VRs.lo k4 hV) hu ?_
        have hm:=ok.d1 d
        rw [List.all_eq_true] at hm ⊢
        intro v hv
        have:=hm v hv
        rw [Bool.and_eq_true] at this
        exact this.1
      · refine fin hF ht (by rw [← q2]; exact g1) fun i ob hi hl=>?_
        rw [← q2] at hi
        by_cases hiq : i = q
        · subst hiq
          rw [List.getElem?_set_self hqb,Option.some.injEq] at hi
          subst hi
          refine ⟨hqM,_,hcq,rfl,fun _=>rfl,.inr ?_⟩
          rintro B base tot ⟨C,el,fr,r1,r2,r3⟩
          obtain ⟨ws,w1,w2⟩:=cells_list (φ:=φ) (C:=C) cq.toList base fun k u hu=>r2 k u (by rw [← Array.getElem?_toList]; exact hu)
          obtain ⟨u,hu,hu2⟩:=frzG_ok (ψ:=leaveP φ φ0 bl L.M w) (zF_made hF L.M) (hcut hF) h w1
          obtain ⟨vs',h2',_,_⟩:=frzG_all hu2
          obtain ⟨_,g3⟩:=gC_ok h2'
          simp only [LoopS.encS,Option.some.injEq,Out.ex.injEq,St.mk.injEq,Hp.mk.injEq,true_and] at g3
          obtain ⟨_,g4,_⟩:=g3
          have e1:=congrArg (fun z=>z[i]?) (g4.trans q2.symm)
          simp only [List.getElem?_set_self hqb,Option.some.injEq,Ob.cells.injEq,Array.mk.injEq,and_true] at e1
          subst e1
          refine ⟨C,el,fr,r1,fun k v hv=>?_,fun hh=>?_⟩
          · rw [List.getElem?_toArray] at hv
            have h7:=vrl_get hu k
            rw [hv] at h7
            generalize hy : ws[k]? = y at h7
            cases h7 with
            | some h8=>exact ⟨_,w2 k _ hy,h8⟩
          · have h9:=r3 hh
            have h10:=vrl_len hu
            have h11:=vrl_len w1
            simp only [List.size_toArray]
            rw [h10,← h11,Array.length_toList]
            exact h9
        · rw [List.getElem?_set_ne (Ne.symm hiq)] at hi
          obtain ⟨k1,k2⟩:=take_get rfl hi
          exact ⟨k1,ob,k2,hl,fun h=>h,.inl k2⟩
section
variable {P : Program} (hN : NoNG P) (hm : P.follows .mixedOrders = true)
include hN hm
omit hN hm in
theorem told_slots {M N : Nat} {S : List Nat} {vs t : List Value} (ht : t.length = N) (hv : vs.all (fun v=>notU v && scT M v) = true) (hS : ∀ kv ∈ S.zip vs,lget t kv.1 = kv.2) : SlotRs M t (sets (junkF N (t.map lo)) (S.zip vs)):=by
  refine slotRs_known ht fun kv hkv=>?_
  rw [List.all_eq_true] at hv
  have:=hv _ (List.of_mem_zip hkv).2
  rw [Bool.and_eq_true] at this
  exact ⟨getElem_of_lget (hS kv hkv) this.1,this.2⟩
theorem LoopS.sem {L : LoopS X D} (ok : L.OkS) {a : Ans} (hk : Known P a) {n : Nat} {rd : X → RT (Sum X D)}
    (hr : ∀ x j,L.good x → evC P a.c n (L.headS x j) (kS L.N L.M L.S L.pick L.Bs L.z L.q) = (rd x).out L.encS) : ∀ {m : Nat} {x : X} {d : D},loopV rd m x = some d → L.good x →
    ∀ {t : List Value},t.length = L.N → (∀ kv ∈ L.S.zip (L.sl x),lget t kv.1 = kv.2) → ∃ j,gB L.Bs (L.dh d) = true ∧ ∀ (K : Nat → Prop) (w0 : World) (φ φ0 : Phi) (w : World) (ac : Act) (F : Fence) (n : Nat) (nb : Nat),
      Inv K w0 φ (L.H x) w → VRs φ t.toArray ac.tmps → DRs φ [] ac.defers → FenceOk φ none F → (∀ i y,i < L.M → φ0 i = some y → φ i = some y) → (∀ B o,φ0.z B = some o → φ.z B = some o) → (∀ i,L.M + nb ≤ i → φ0 i = none) →
      wpLoopIn F n P L.c (CodeR K w0 φ0 (L.ex d) ⟨sets (junkF L.N j) ((L.pick (L.ex d)).zip (L.dv d)),[],⟨L.dh d ++ List.replicate nb .dead,0,[]⟩⟩) ac w
  | 0,_,_,h,_,_,_,_=>by cases h
  | m + 1,x,d,h,hx,t,ht,hS=>by
    have hev : ∀ {y : Sum X D},(rd x).val = some y → ∃ e LL bl b1 wr,Fact P (.code none L.c ⟨sets (junkF L.N (t.map lo)) (L.S.zip (L.sl x)),[],⟨L.H x,0,[]⟩⟩) (.ex e ⟨LL,[],⟨bl,b1,wr⟩⟩) ∧ kS L.N L.M L.S L.pick L.Bs L.z L.q (.ex e ⟨LL,[],⟨bl,b1,wr⟩⟩) = some (L.encS y):=by
      intro y hy
      have h1:=hr x (t.map lo) hx
      rw [RT.out_val,hy,Option.map_some] at h1
      obtain ⟨o,h2,hf⟩:=hk.factK hN hm h1
      have h3:=h2
      unfold kS at h3
      split at h3
      case h_2=>cases h3
      rename_i e s
      split at h3
      case h_2=>cases h3
      rename_i hd _
      obtain ⟨LL,d0,⟨bl,b1,wr1⟩⟩:=s
      simp only at hd
      subst hd
      exact ⟨e,LL,bl,b1,wr1,hf,h2⟩
    have hsl:=told_slots ht (ok.s2 x) hS
    have dnil : ∀ {φ ψ : Phi} {l : List Deferred},DRs φ [] l → DRs ψ [] l:=fun h=>by cases h; exact .nil
    unfold loopV at h
    split at h
    · rename_i y hy
      obtain ⟨e,LL,bl,b1,wr,hf,hks⟩:=hev hy
      obtain ⟨rfl,k4,hgy,hsy,b,o,hturn⟩:=LoopS.turn ok hks
      have hTl : (sets (junkF L.N (LL.map lo)) (L.S.zip (L.sl y))).length = L.N:=len_sets _
      have hTs : SlotRs L.M LL (sets (junkF L.N (LL.map lo)) (L.S.zip (L.sl y))):=told_slots k4 (ok.s2 y) fun kv hkv=>by
        rw [← hsy] at hkv
        exact (zip_get (show (kv.1,kv.2) ∈ L.S.zip (L.S.map (lget LL)) from hkv)).symm
      obtain ⟨j,hgd,hj⟩:=LoopS.sem ok hk hr h hgy hTl (lget_setsL ok.nd ok.lt (ok.s1 y) _)
      refine ⟨j,hgd,fun K w0 φ φ0 w ac F n nb hI hV hD hF ha hz htop=>?_⟩
      obtain ⟨_,hh⟩:=hf.1 (Nat.zero_le _)
      refine rounds_of (wpIn_mono (hh K w0 φ w ac F n hI ((hsl.vrs hV).mono (cut_le φ _)) hD hF) ?_)
      rintro x' a' w' ⟨φ',hle,hx',ht',hd',hI'⟩
      cases hx'
      show wpLoopIn F n P L.c _ a' w'
      refine hj K w0 (turnP φ' L.M b o) φ0 w' a' F n nb (hturn K w0 φ' w' hI') ((hTs.vrs ht').mono turn_le) (dnil hd') hF (fun i y hi h0=>?_) (fun B o h0=>hle.zz B o (hz B o h0)) htop
      show (if i < L.M then φ' i else _) = some y
      rw [if_pos hi]
      exact hle _ _ (ha i y hi h0)
    · rename_i d' hd
      simp only [Option.some.injEq] at h
      subst h
      obtain ⟨e,LL,bl,b1,wr,hf,hks⟩:=hev hd
      obtain ⟨rfl,k4,hgd,hleave⟩:=LoopS.leave ok hks
      refine ⟨LL.map lo,hgd,fun K w0 φ φ0 w ac F n nb hI hV hD hF ha hz htop=>?_⟩
      obtain ⟨_,hh⟩:=hf.1 (Nat.zero_le _)
      refine rounds_of (wpIn_mono (hh K w0 φ w ac F n hI ((hsl.vrs hV).mono (cut_le φ _)) hD hF) ?_)
      rintro x' a' w' ⟨φ',hle,hx',ht',hd',hI'⟩
      obtain ⟨ψ,p1,p2,p3⟩:=hleave K w0 φ' φ0 w' a'.tmps nb hI' ht' (fun i y hi h0=>hle _ _ (ha i y hi h0)) (fun B o h0=>hle.zz B o (hz B o h0)) htop
      have hc : CodeR K w0 φ0 (L.ex d') ⟨sets (junkF L.N (LL.map lo)) ((L.pick (L.ex d')).zip (L.dv d')),[],⟨L.dh d' ++ List.replicate nb .dead,0,[]⟩⟩ x' a' w':=⟨ψ,p1,hx'.any (ok.e2 d'),p2,dnil hd',p3⟩
      have hne:=ok.e1 d'
      revert hc
      generalize CodeR K w0 φ0 (L.ex d') ⟨sets (junkF L.N (LL.map lo)) ((L.pick (L.ex d')).zip (L.dv d')),[],⟨L.dh d' ++ List.replicate nb .dead,0,[]⟩⟩ = Q
      intro hc
      generalize L.ex d' = q at hx' hne
      cases hx' with
      | normal=>exact absurd rfl hne
      | _=>exact hc
    · cases h
theorem LoopS.fact {L : LoopS X D} (ok : L.OkS) {a : Ans} (hk : Known P a) {n : Nat} {rd : X → RT (Sum X D)}
    (hr : ∀ x j,L.good x → evC P a.c n (L.headS x j) (kS L.N L.M L.S L.pick L.Bs L.z L.q) = (rd x).out L.encS) {m : Nat} {x : X} {d : D} (h : loopV rd m x = some d) (hx : L.good x)
    {t : List Value} (ht : t.length = L.N) (hS : ∀ kv ∈ L.S.zip (L.sl x),lget t kv.1 = kv.2) : ∃ j,Fact P (.code none (.loop L.c) ⟨t,[],⟨L.H x,0,[]⟩⟩) (L.tailS x d j):=by
  obtain ⟨j,hg,hj⟩:=LoopS.sem hN hm ok hk hr h hx ht hS
  have hlen : (L.H x).length = L.M + (L.ownB x).length:=by unfold LoopS.H; rw [List.length_append,ok.h1]
  have key : ∀ (K : Nat → Prop) (w0 : World) (φ : Phi) (w : World) (ac : Act) (F : Fence) (n : Nat),Inv K w0 φ (L.H x) w → VRs φ t.toArray ac.tmps → DRs φ [] ac.defers → FenceOk φ none F →
      wpLoopIn F n P L.c (CodeR K w0 φ (L.ex d) ⟨sets (junkF L.N j) ((L.pick (L.ex d)).zip (L.dv d)),[],⟨L.dh d ++ List.replicate (L.ownB x).length .dead,0,[]⟩⟩) ac w:=fun K w0 φ w ac F n hI ht hd hF =>
    hj K w0 φ φ w ac F n (L.ownB x).length hI ht hd hF (fun _ _ _ h=>h) (fun _ _ h=>h) fun i hi=>hI.top i (by rw [hlen]; exact hi)
  refine ⟨j,fun _=>⟨⟨rfl,?_,fun b hb _=>absurd hb (Nat.not_lt_zero _),fun b ob hb hl hrw=>?_⟩,fun K w0 φ w ac F n hI ht hd hF=>wpIn_of_rounds (key K w0 φ w ac F n hI ht hd hF)⟩,fun _ K w0 φ w ac F n hI ht hd hF=>key K w0 φ w ac F n hI ht hd hF⟩
  · show (L.H x).length ≤ (L.dh d ++ List.replicate (L.ownB x).length Ob.dead).length
    rw [hlen,List.length_append,ok.d2,List.length_replicate]
    exact Nat.le_refl _
  · exfalso
    rcases get_app hb with ⟨_,h2⟩ | ⟨_,h2⟩
    · rw [(boxD_live (all_boxD (ok.d3 d hg) h2) hl).1] at hrw; cases hrw
    · rw [List.getElem?_replicate] at h2
      split at h2
      · simp only [Option.some.injEq] at h2; subst h2; cases hl
      · cases h2
theorem LoopS.known {L : LoopS X D} (ok : L.OkS) {a : Ans} (hk : Known P a) {n : Nat} {rd : X → RT (Sum X D)}
    (hr : ∀ x j,L.good x → evC P a.c n (L.headS x j) (kS L.N L.M L.S L.pick L.Bs L.z L.q) = (rd x).out L.encS) (dec : Task → Option (Code × X)) (alt : X → List Value → AT)
    (hd : ∀ t c x,dec t = some (c,x) → c = L.c → ∃ T,t = .code none (.loop L.c) ⟨T,[],⟨L.H x,0,[]⟩⟩ ∧ T.length = L.N ∧ ∀ kv ∈ L.S.zip (L.sl x),lget T kv.1 = kv.2)
    (ha : ∀ x j o,(alt x j).out = some o → L.good x ∧ ∃ d,loopR rd x = some d ∧ o = L.tailS x d j) :
    ∃ J : Task → List Value,Known P (loopAns L.c dec alt J):=by
  classical
  let good : Task → List Value → Prop:=fun t j=>∀ c x d,dec t = some (c,x) → c = L.c → L.good x → loopR rd x = some d → Fact P t (L.tailS x d j)
  have hex : ∀ t,∃ j,good t j:=by
    intro t
    cases hdt : dec t with
    | none=>exact ⟨[],fun c x d h=>by rw [hdt] at h; cases h⟩
    | some cx =>
      obtain ⟨c,x⟩:=cx
      by_cases hc : c = L.c
      · by_cases hx : L.good x
        · cases hl : loopR rd x with
          | none=>exact ⟨[],fun c' x' d h _ _ hr=>by rw [hdt] at h; cases h; rw [hl] at hr; cases hr⟩
          | some d =>
            obtain ⟨T,rfl,hT,hS⟩:=hd t c x hdt hc
            obtain ⟨m,hm'⟩:=loopR_some hl
            obtain ⟨j,hj⟩:=LoopS.fact hN hm ok hk hr hm' hx hT hS
            exact ⟨j,fun c' x' d' h _ _ hr=>by rw [hdt] at h; cases h; rw [hl] at hr; cases hr; exact hj⟩
        · exact ⟨[],fun c' x' d h _ h' _=>by rw [hdt] at h; cases h; exact absurd h' hx⟩
      · exact ⟨[],fun c' x' d h h' _ _=>by rw [hdt] at h; cases h; exact absurd h' hc⟩
  refine ⟨fun t=>Classical.choose (hex t),?_⟩
  intro t at' o ht ho
  cases hdt : dec t with
  | none=>simp only [loopAns,hdt] at ht; cases ht
  | some cx =>
    obtain ⟨c,x⟩:=cx
    simp only [loopAns,hdt,Option.some.injEq] at ht
    subst ht
    simp only [AT.out] at ho
    obtain ⟨h1,h2⟩:=cond_some ho
    obtain ⟨hx,d,h3,rfl⟩:=ha x _ o h2
    exact Classical.choose_spec (hex t) c x d hdt (eqCode_eq h1) hx h3
end
end
end
end Go.Gi

