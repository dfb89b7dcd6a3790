/- WindLess proved: if the sources agree, they agree without any one of the soundings, and no span is narrower. Conditions: none. -/
import Derived.Test.YtjdidbnmkogflaaMg6
import Derived.Test.YtjdidbnmkogflaaMg11
import Derived.Test.YtjdidbnmkogflaaMg12
import Derived.Test.YtjdidbnmkogflaaMg5
namespace Go.Proofs.Ytjdidbnmkogflaa
open Go.Gi Go.RowKit Go.Proofs.Ytjdidbnmkogflaa.Old
noncomputable section
set_option maxRecDepth 100000
set_option maxHeartbeats 4000000
set_option linter.unusedVariables false
set_option linter.unusedSimpArgs false
structure X58_0 where
  (v0 v1:Int)
  (v2:Array Value)
  (v3 v4:Nat)
  (v5:Int)
  (v6:Array Value)
  (v7 v8:Nat)
  (v9:Array Value)
  (v10 v11:Nat)
  (v12:Array Value)
  (v13 v14:Nat)
  (v15 v16:Int)
inductive D58_0 where
  | k0 (d0:Bool) (d1 : Array Value) (d2 d3:Nat) (d4 : Array Value) (d5 d6:Nat) (d7 : Array Value) (d8 d9:Nat) (d10 d11:Int)
  | k1 (d0 : Array Value) (d1 d2:Nat) (d3 : Array Value) (d4 d5:Nat) (d6 : Array Value) (d7 d8:Nat) (d9 : Array Value) (d10 d11:Nat) (d12 d13:Int)
noncomputable def Lp58_0 : LoopOf X58_0 D58_0 where
  c:=(theLoop Try.prog 58 0)
  N:=54
  M:=1
  S:=[1,2,3,8,10]
  sl:=fun x=>[(.int .i64 x.v0),(.int .i64 x.v1),(Value.pointer (Option.some (Addr.mk 0 0 Option.none))),(lstV x.v2 x.v3 x.v4 6),(.int .i64 x.v5)]
  hp:=fun x=>[.cells ⟨[(lstV x.v6 x.v7 x.v8 7),(lstV x.v9 x.v10 x.v11 5),(lstV x.v12 x.v13 x.v14 1),(.int .i64 x.v15),(.int .i64 x.v16)]⟩ false]
  ex:=fun d=>match d with | .k0 ..=>.ret | .k1 ..=>.exit 0
  pick:=fun e=>match e with | .ret=>[6,7] | .exit 0=>[8] | _=>[]
  dv:=fun d=>match d with | .k0 d0 d1 d2 d3 d4 d5 d6 d7 d8 d9 d10 d11=>[(.slice none 0 0),(.bool d0)] | .k1 d0 d1 d2 d3 d4 d5 d6 d7 d8 d9 d10 d11 d12 d13=>[(lstV d0 d1 d2 6)]
  dh:=fun d=>match d with | .k0 d0 d1 d2 d3 d4 d5 d6 d7 d8 d9 d10 d11=>[.cells ⟨[(lstV d1 d2 d3 7),(lstV d4 d5 d6 5),(lstV d7 d8 d9 1),(.int .i64 d10),(.int .i64 d11)]⟩ false] | .k1 d0 d1 d2 d3 d4 d5 d6 d7 d8 d9 d10 d11 d12 d13=>[.cells ⟨[(lstV d3 d4 d5 7),(lstV d6 d7 d8 5),(lstV d9 d10 d11 1),(.int .i64 d12),(.int .i64 d13)]⟩ false]
theorem ok58_0 : Lp58_0.Ok:=⟨fun x=>rfl,fun x=>rfl,fun x=>rfl,fun x=>rfl,fun d=>by cases d <;> rfl,fun d=>by cases d <;> rfl,fun d=>by cases d <;> rfl,fun d=>by cases d <;> (intro h; cases h),fun d=>by cases d <;> rfl,fun d=>by cases d <;> rfl⟩
noncomputable def rd58_0 (x:X58_0) : RT (Sum X58_0 D58_0):=match x with
  | ⟨v0,v1,v2,v3,v4,v5,v6,v7,v8,v9,v10,v11,v12,v13,v14,v15,v16⟩ =>
     .br (decide (v5 < (Int.ofNat v14)))
     (.br (F38_ok v6 v7 v8 v9 v10 v11 v12 v13 v14 v15 v16 v5 v0 v1)
     (.br (not (decide ((F38_4 v6 v7 v8 v9 v10 v11 v12 v13 v14 v15 v16 v5 v0 v1) = (0 : Int))))
     (.leaf (.inr (.k0 false v6 v7 v8 v9 v10 v11 v12 v13 v14 v15 v16)))
     (.br (not (F38_3 v6 v7 v8 v9 v10 v11 v12 v13 v14 v15 v16 v5 v0 v1))
     (.leaf (.inr (.k0 false v6 v7 v8 v9 v10 v11 v12 v13 v14 v15 v16)))
     (.leaf (.inl ⟨v0,v1,v2,v3,v4,(IntKind.wrap .i64 (v5+(1 : Int))),v6,v7,v8,v9,v10,v11,v12,v13,v14,v15,v16⟩))))
     (.no))
     (.leaf (.inr (.k1 v2 v3 v4 v6 v7 v8 v9 v10 v11 v12 v13 v14 v15 v16)))
theorem T58_0  (y : List Value) (v0 v1:Int) (v2 : Array Value) (v3 v4:Nat) (v5 : Int) (v6 : Array Value) (v7 v8:Nat) (v9 : Array Value) (v10 v11:Nat) (v12 : Array Value) (v13 v14:Nat) (v15 v16:Int) : evC Try.prog (Ans.c (p38.or p42)) 60 (.code none (theLoop Try.prog 58 0) ⟨sets (junkF 54 y) [(1,(.int .i64 v0)),(2,(.int .i64 v1)),(3,(Value.pointer (some (Addr.mk 0 0 none)))),(8,(lstV v2 v3 v4 6)),(10,(.int .i64 v5))],[],⟨[.cells ⟨[(lstV v6 v7 v8 7),(lstV v9 v10 v11 5),(lstV v12 v13 v14 1),(.int .i64 v15),(.int .i64 v16)]⟩ false],0,[]⟩⟩) (sumK 1 54 Lp58_0.pk) = (rd58_0 ⟨v0,v1,v2,v3,v4,v5,v6,v7,v8,v9,v10,v11,v12,v13,v14,v15,v16⟩).out Lp58_0.enc:=by kernel_rfl
noncomputable def L58_0 (x:X58_0) : Option D58_0:=loopR rd58_0 x
section
variable (x:X58_0)
noncomputable def L58_0_k0 : Bool:=match L58_0 x with | some (.k0 ..)=>true | _=>false
noncomputable def L58_0_k0_0 : Bool:=match L58_0 x with | some (.k0 d _ _ _ _ _ _ _ _ _ _ _)=>d | _=>false
noncomputable def L58_0_k0_1 : Array Value:=match L58_0 x with | some (.k0 _ d _ _ _ _ _ _ _ _ _ _)=>d | _=>#[]
noncomputable def L58_0_k0_2 : Nat:=match L58_0 x with | some (.k0 _ _ d _ _ _ _ _ _ _ _ _)=>d | _=>0
noncomputable def L58_0_k0_3 : Nat:=match L58_0 x with | some (.k0 _ _ _ d _ _ _ _ _ _ _ _)=>d | _=>0
noncomputable def L58_0_k0_4 : Array Value:=match L58_0 x with | some (.k0 _ _ _ _ d _ _ _ _ _ _ _)=>d | _=>#[]
noncomputable def L58_0_k0_5 : Nat:=match L58_0 x with | some (.k0 _ _ _ _ _ d _ _ _ _ _ _)=>d | _=>0
noncomputable def L58_0_k0_6 : Nat:=match L58_0 x with | some (.k0 _ _ _ _ _ _ d _ _ _ _ _)=>d | _=>0
noncomputable def L58_0_k0_7 : Array Value:=match L58_0 x with | some (.k0 _ _ _ _ _ _ _ d _ _ _ _)=>d | _=>#[]
noncomputable def L58_0_k0_8 : Nat:=match L58_0 x with | some (.k0 _ _ _ _ _ _ _ _ d _ _ _)=>d | _=>0
noncomputable def L58_0_k0_9 : Nat:=match L58_0 x with | some (.k0 _ _ _ _ _ _ _ _ _ d _ _)=>d | _=>0
noncomputable def L58_0_k0_10 : Int:=match L58_0 x with | some (.k0 _ _ _ _ _ _ _ _ _ _ d _)=>d | _=>0
noncomputable def L58_0_k0_11 : Int:=match L58_0 x with | some (.k0 _ _ _ _ _ _ _ _ _ _ _ d)=>d | _=>0
noncomputable def L58_0_k1 : Bool:=match L58_0 x with | some (.k1 ..)=>true | _=>false
noncomputable def L58_0_k1_0 : Array Value:=match L58_0 x with | some (.k1 d _ _ _ _ _ _ _ _ _ _ _ _ _)=>d | _=>#[]
noncomputable def L58_0_k1_1 : Nat:=match L58_0 x with | some (.k1 _ d _ _ _ _ _ _ _ _ _ _ _ _)=>d | _=>0
noncomputable def L58_0_k1_2 : Nat:=match L58_0 x with | some (.k1 _ _ d _ _ _ _ _ _ _ _ _ _ _)=>d | _=>0
noncomputable def L58_0_k1_3 : Array Value:=match L58_0 x with | some (.k1 _ _ _ d _ _ _ _ _ _ _ _ _ _)=>d | _=>#[]
noncomputable def L58_0_k1_4 : Nat:=match L58_0 x with | some (.k1 _ _ _ _ d _ _ _ _ _ _ _ _ _)=>d | _=>0
noncomputable def L58_0_k1_5 : Nat:=match L58_0 x with | some (.k1 _ _ _ _ _ d _ _ _ _ _ _ _ _)=>d | _=>0
noncomputable def L58_0_k1_6 : Array Value:=match L58_0 x with | some (.k1 _ _ _ _ _ _ d _ _ _ _ _ _ _)=>d | _=>#[]
noncomputable def L58_0_k1_7 : Nat:=match L58_0 x with | some (.k1 _ _ _ _ _ _ _ d _ _ _ _ _ _)=>d | _=>0
noncomputable def L58_0_k1_8 : Nat:=match L58_0 x with | some (.k1 _ _ _ _ _ _ _ _ d _ _ _ _ _)=>d | _=>0
noncomputable def L58_0_k1_9 : Array Value:=match L58_0 x with | some (.k1 _ _ _ _ _ _ _ _ _ d _ _ _ _)=>d | _=>#[]
noncomputable def L58_0_k1_10 : Nat:=match L58_0 x with | some (.k1 _ _ _ _ _ _ _ _ _ _ d _ _ _)=>d | _=>0
noncomputable def L58_0_k1_11 : Nat:=match L58_0 x with | some (.k1 _ _ _ _ _ _ _ _ _ _ _ d _ _)=>d | _=>0
noncomputable def L58_0_k1_12 : Int:=match L58_0 x with | some (.k1 _ _ _ _ _ _ _ _ _ _ _ _ d _)=>d | _=>0
noncomputable def L58_0_k1_13 : Int:=match L58_0 x with | some (.k1 _ _ _ _ _ _ _ _ _ _ _ _ _ d)=>d | _=>0
end
noncomputable def dec58_0 : Task → Option (Code × X58_0)
  | .code none (.loop code) ⟨t,[],⟨[.cells ⟨[(.func (.via 0 ⟨[]⟩ 0 true) v6 ⟨[.slice (some ⟨0,v7,none⟩) v8 7]⟩),(.func (.via 0 ⟨[]⟩ 0 true) v9 ⟨[.slice (some ⟨0,v10,none⟩) v11 5]⟩),(.func (.via 0 ⟨[]⟩ 0 true) v12 ⟨[.slice (some ⟨0,v13,none⟩) v14 1]⟩),(.int .i64 v15),(.int .i64 v16)]⟩ false],0,[]⟩⟩ =>
    (match Nat.beq (firstReg code) 5,lenIs t 54,lget t 1,lget t 2,lget t 3,lget t 8,lget t 10 with
    | true,true,(.int .i64 v0),(.int .i64 v1),(Value.pointer (Option.some (Addr.mk 0 0 Option.none))),(.func (.via 0 ⟨[]⟩ 0 true) v2 ⟨[.slice (some ⟨0,v3,none⟩) v4 6]⟩),(.int .i64 v5)=>some (code,⟨v0,v1,v2,v3,v4,v5,v6,v7,v8,v9,v10,v11,v12,v13,v14,v15,v16⟩)
    | _,_,_,_,_,_,_=>none)
  | _=>none
noncomputable def alt58_0 (x:X58_0) (j : List Value) : AT:=.br (L58_0_k0 x) (loopEnd 54 (.ret) [(6,(.slice none 0 0)),(7,(.bool (L58_0_k0_0 x)))] ⟨[.cells ⟨[(lstV (L58_0_k0_1 x) (L58_0_k0_2 x) (L58_0_k0_3 x) 7),(lstV (L58_0_k0_4 x) (L58_0_k0_5 x) (L58_0_k0_6 x) 5),(lstV (L58_0_k0_7 x) (L58_0_k0_8 x) (L58_0_k0_9 x) 1),(.int .i64 (L58_0_k0_10 x)),(.int .i64 (L58_0_k0_11 x))]⟩ false],0,[]⟩ j) (.br (L58_0_k1 x) (loopEnd 54 (.exit 0) [(8,(lstV (L58_0_k1_0 x) (L58_0_k1_1 x) (L58_0_k1_2 x) 6))] ⟨[.cells ⟨[(lstV (L58_0_k1_3 x) (L58_0_k1_4 x) (L58_0_k1_5 x) 7),(lstV (L58_0_k1_6 x) (L58_0_k1_7 x) (L58_0_k1_8 x) 5),(lstV (L58_0_k1_9 x) (L58_0_k1_10 x) (L58_0_k1_11 x) 1),(.int .i64 (L58_0_k1_12 x)),(.int .i64 (L58_0_k1_13 x))]⟩ false],0,[]⟩ j) (.no))
noncomputable def la58_0 (J : Task → List Value) : Ans:=loopAns Lp58_0.c dec58_0 alt58_0 J
theorem ha58_0 : ∀ (x:X58_0) (j : List Value) (o:Out),(alt58_0 x j).out = some o → ∃ d,loopR rd58_0 x = some d ∧ o = Lp58_0.tail d j:=by
  intro x j o h
  unfold alt58_0 at h
  cases hL : L58_0 x with
  | none=>simp [L58_0_k0,L58_0_k0_0,L58_0_k0_1,L58_0_k0_2,L58_0_k0_3,L58_0_k0_4,L58_0_k0_5,L58_0_k0_6,L58_0_k0_7,L58_0_k0_8,L58_0_k0_9,L58_0_k0_10,L58_0_k0_11,L58_0_k1,L58_0_k1_0,L58_0_k1_1,L58_0_k1_2,L58_0_k1_3,L58_0_k1_4,L58_0_k1_5,L58_0_k1_6,L58_0_k1_7,L58_0_k1_8,L58_0_k1_9,L58_0_k1_10,L58_0_k1_11,L58_0_k1_12,L58_0_k1_13,hL,AT.out] at h
  | some d =>
    refine ⟨d,hL,?_⟩
    cases d <;> (simp only [L58_0_k0,L58_0_k0_0,L58_0_k0_1,L58_0_k0_2,L58_0_k0_3,L58_0_k0_4,L58_0_k0_5,L58_0_k0_6,L58_0_k0_7,L58_0_k0_8,L58_0_k0_9,L58_0_k0_10,L58_0_k0_11,L58_0_k1,L58_0_k1_0,L58_0_k1_1,L58_0_k1_2,L58_0_k1_3,L58_0_k1_4,L58_0_k1_5,L58_0_k1_6,L58_0_k1_7,L58_0_k1_8,L58_0_k1_9,L58_0_k1_10,L58_0_k1_11,L58_0_k1_12,L58_0_k1_13,hL,AT.out,loopEnd,cond_true,cond_false,Option.some.injEq] at h; rw [← h]; rfl)
theorem hd58_0 : ∀ (t:Task) (c:Code) (x:X58_0),dec58_0 t = some (c,x) → c = Lp58_0.c → ∃ T,t = .code none (.loop Lp58_0.c) ⟨T,[],⟨Lp58_0.hp x,0,[]⟩⟩ ∧ T.length = Lp58_0.N ∧ ∀ kv ∈ Lp58_0.S.zip (Lp58_0.sl x),lget T kv.1 = kv.2:=by
  intro t c x h hc
  unfold dec58_0 at h
  split at h
  case h_2=>cases h
  split at h
  case h_2=>cases h
  simp only [Option.some.injEq,Prod.mk.injEq] at h
  obtain ⟨rfl,rfl⟩:=h
  subst hc
  refine ⟨_,rfl,lenIs_eq _ _ (by assumption),?_⟩
  intro kv hk
  simp only [Lp58_0,List.zip_cons_cons,List.zip_nil_right,List.mem_cons,List.not_mem_nil,or_false] at hk
  rcases hk with rfl | rfl | rfl | rfl | rfl <;> assumption
theorem kl58_0 : ∃ J,Known Try.prog (la58_0 J):=by
  exact LoopOf.known noNG mixed ok58_0 (by decide) (by decide) (Known.or known38 known42) (n:=60) (rd:=rd58_0) (fun x j=>T58_0  j x.v0 x.v1 x.v2 x.v3 x.v4 x.v5 x.v6 x.v7 x.v8 x.v9 x.v10 x.v11 x.v12 x.v13 x.v14 x.v15 x.v16) dec58_0 alt58_0 hd58_0 ha58_0
structure R58 where
  (r0:Array Value)
  (r1 r2:Nat)
  (r3:Bool)
structure A58 where
  (a0:Array Value)
  (a1 a2:Nat)
  (a3:Array Value)
  (a4 a5:Nat)
  (a6:Array Value)
  (a7 a8:Nat)
  (a9 a10:Int)
  (a11 a12:Int)
noncomputable def rt58 (a0 : Array Value) (a1 a2:Nat) (a3 : Array Value) (a4 a5:Nat) (a6 : Array Value) (a7 a8:Nat) (a9 a10:Int) (a11 a12:Int) : RT R58 :=
  .br (F42_ok a0 a1 a2 a3 a4 a5 a6 a7 a8 a9 a10 a11 a12)
  (.br (not (decide ((F42_3 a0 a1 a2 a3 a4 a5 a6 a7 a8 a9 a10 a11 a12) = (0 : Int))))
   (.leaf ⟨⟨[]⟩,0,0,false⟩)
   (.br (not (decide ((Int.ofNat (F42_2 a0 a1 a2 a3 a4 a5 a6 a7 a8 a9 a10 a11 a12)) = (Int.ofNat a8))))
    (.leaf ⟨⟨[]⟩,0,0,false⟩)
    (.br (eqCode (Lp58_0.c) (Lp58_0.c))
     (.br (L58_0_k0 (X58_0.mk a11 a12 (F42_0 a0 a1 a2 a3 a4 a5 a6 a7 a8 a9 a10 a11 a12) (F42_1 a0 a1 a2 a3 a4 a5 a6 a7 a8 a9 a10 a11 a12) (F42_2 a0 a1 a2 a3 a4 a5 a6 a7 a8 a9 a10 a11 a12) (0 : Int) a0 a1 a2 a3 a4 a5 a6 a7 a8 a9 a10))
     (.leaf ⟨⟨[]⟩,0,0,(L58_0_k0_0 (X58_0.mk a11 a12 (F42_0 a0 a1 a2 a3 a4 a5 a6 a7 a8 a9 a10 a11 a12) (F42_1 a0 a1 a2 a3 a4 a5 a6 a7 a8 a9 a10 a11 a12) (F42_2 a0 a1 a2 a3 a4 a5 a6 a7 a8 a9 a10 a11 a12) (0 : Int) a0 a1 a2 a3 a4 a5 a6 a7 a8 a9 a10))⟩)
     (.br (L58_0_k1 (X58_0.mk a11 a12 (F42_0 a0 a1 a2 a3 a4 a5 a6 a7 a8 a9 a10 a11 a12) (F42_1 a0 a1 a2 a3 a4 a5 a6 a7 a8 a9 a10 a11 a12) (F42_2 a0 a1 a2 a3 a4 a5 a6 a7 a8 a9 a10 a11 a12) (0 : Int) a0 a1 a2 a3 a4 a5 a6 a7 a8 a9 a10))
     (.leaf ⟨(L58_0_k1_0 (X58_0.mk a11 a12 (F42_0 a0 a1 a2 a3 a4 a5 a6 a7 a8 a9 a10 a11 a12) (F42_1 a0 a1 a2 a3 a4 a5 a6 a7 a8 a9 a10 a11 a12) (F42_2 a0 a1 a2 a3 a4 a5 a6 a7 a8 a9 a10 a11 a12) (0 : Int) a0 a1 a2 a3 a4 a5 a6 a7 a8 a9 a10)),(L58_0_k1_1 (X58_0.mk a11 a12 (F42_0 a0 a1 a2 a3 a4 a5 a6 a7 a8 a9 a10 a11 a12) (F42_1 a0 a1 a2 a3 a4 a5 a6 a7 a8 a9 a10 a11 a12) (F42_2 a0 a1 a2 a3 a4 a5 a6 a7 a8 a9 a10 a11 a12) (0 : Int) a0 a1 a2 a3 a4 a5 a6 a7 a8 a9 a10)),(L58_0_k1_2 (X58_0.mk a11 a12 (F42_0 a0 a1 a2 a3 a4 a5 a6 a7 a8 a9 a10 a11 a12) (F42_1 a0 a1 a2 a3 a4 a5 a6 a7 a8 a9 a10 a11 a12) (F42_2 a0 a1 a2 a3 a4 a5 a6 a7 a8 a9 a10 a11 a12) (0 : Int) a0 a1 a2 a3 a4 a5 a6 a7 a8 a9 a10)),true⟩)
     (.no)))
     (.no))))
  (.no)
noncomputable def en58 (r:R58) : Value:=(.tuple ⟨[(lstV r.r0 r.r1 r.r2 6),(.bool r.r3)]⟩)
theorem T58 (J0 : Task → List Value) (a0 : Array Value) (a1 a2:Nat) (a3 : Array Value) (a4 a5:Nat) (a6 : Array Value) (a7 a8:Nat) (a9 a10:Int) (a11 a12:Int) : evC Try.prog (Ans.c (p38.or (p42.or (la58_0 J0)))) 60 (.call 58 ⟨[(.agg ⟨[(lstV a0 a1 a2 7),(lstV a3 a4 a5 5),(lstV a6 a7 a8 1),(.int .i64 a9),(.int .i64 a10)]⟩),(.int .i64 a11),(.int .i64 a12)]⟩ ⟨[],0,[]⟩) (frzK [6,0]) = (rt58 a0 a1 a2 a3 a4 a5 a6 a7 a8 a9 a10 a11 a12).out (fun r=>.ret (en58 r) ⟨[],0,[]⟩):=by kernel_rfl
noncomputable def F58 (a0 : Array Value) (a1 a2:Nat) (a3 : Array Value) (a4 a5:Nat) (a6 : Array Value) (a7 a8:Nat) (a9 a10:Int) (a11 a12:Int) : Option R58:=(rt58 a0 a1 a2 a3 a4 a5 a6 a7 a8 a9 a10 a11 a12).val
section
variable (a0 : Array Value) (a1 a2:Nat) (a3 : Array Value) (a4 a5:Nat) (a6 : Array Value) (a7 a8:Nat) (a9 a10:Int) (a11 a12:Int)
noncomputable def F58_ok : Bool:=(F58 a0 a1 a2 a3 a4 a5 a6 a7 a8 a9 a10 a11 a12).isSome
noncomputable def F58_0 : Array Value:=match F58 a0 a1 a2 a3 a4 a5 a6 a7 a8 a9 a10 a11 a12 with | some r=>r.r0 | none=>#[]
noncomputable def F58_1 : Nat:=match F58 a0 a1 a2 a3 a4 a5 a6 a7 a8 a9 a10 a11 a12 with | some r=>r.r1 | none=>0
noncomputable def F58_2 : Nat:=match F58 a0 a1 a2 a3 a4 a5 a6 a7 a8 a9 a10 a11 a12 with | some r=>r.r2 | none=>0
noncomputable def F58_3 : Bool:=match F58 a0 a1 a2 a3 a4 a5 a6 a7 a8 a9 a10 a11 a12 with | some r=>r.r3 | none=>false
end
noncomputable def dec58 : Task → Option (A58 × Hp)
  | .call g ⟨[(.agg ⟨[(.func (.via 0 ⟨[]⟩ 0 true) a0 ⟨[.slice (some ⟨0,a1,none⟩) a2 7]⟩),(.func (.via 0 ⟨[]⟩ 0 true) a3 ⟨[.slice (some ⟨0,a4,none⟩) a5 5]⟩),(.func (.via 0 ⟨[]⟩ 0 true) a6 ⟨[.slice (some ⟨0,a7,none⟩) a8 1]⟩),(.int .i64 a9),(.int .i64 a10)]⟩),(.int .i64 a11),(.int .i64 a12)]⟩ h=>(match Nat.beq g 58 with | true=>some (⟨a0,a1,a2,a3,a4,a5,a6,a7,a8,a9,a10,a11,a12⟩,h) | false=>none)
  | _=>none
noncomputable def alt58 (x:A58) (h:Hp) : AT:=.br (F58_ok x.a0 x.a1 x.a2 x.a3 x.a4 x.a5 x.a6 x.a7 x.a8 x.a9 x.a10 x.a11 x.a12) (.leaf (.ret (.tuple ⟨[(lstV (F58_0 x.a0 x.a1 x.a2 x.a3 x.a4 x.a5 x.a6 x.a7 x.a8 x.a9 x.a10 x.a11 x.a12) (F58_1 x.a0 x.a1 x.a2 x.a3 x.a4 x.a5 x.a6 x.a7 x.a8 x.a9 x.a10 x.a11 x.a12) (F58_2 x.a0 x.a1 x.a2 x.a3 x.a4 x.a5 x.a6 x.a7 x.a8 x.a9 x.a10 x.a11 x.a12) 6),(.bool (F58_3 x.a0 x.a1 x.a2 x.a3 x.a4 x.a5 x.a6 x.a7 x.a8 x.a9 x.a10 x.a11 x.a12))]⟩) h)) .no
noncomputable def p58 : Ans:=fnAns dec58 alt58
theorem ha58 : ∀ (x:A58) (h:Hp) (o:Out),(alt58 x h).out = some o → ∃ r,(rt58 x.a0 x.a1 x.a2 x.a3 x.a4 x.a5 x.a6 x.a7 x.a8 x.a9 x.a10 x.a11 x.a12).val = some r ∧ o = .ret (en58 r) h:=by
  intro x h o e
  unfold alt58 at e
  cases hF : F58 x.a0 x.a1 x.a2 x.a3 x.a4 x.a5 x.a6 x.a7 x.a8 x.a9 x.a10 x.a11 x.a12 with
  | none=>simp [F58_ok,hF,AT.out] at e
  | some r =>
    refine ⟨r,hF,?_⟩
    simp only [F58_ok,F58_0,F58_1,F58_2,F58_3,hF,AT.out,Option.isSome_some,cond_true,Option.some.injEq] at e
    rw [← e]; rfl
theorem hd58 : ∀ (t:Task) (x:A58) (h:Hp),dec58 t = some (x,h) → t = .call 58 ⟨[(.agg ⟨[(lstV x.a0 x.a1 x.a2 7),(lstV x.a3 x.a4 x.a5 5),(lstV x.a6 x.a7 x.a8 1),(.int .i64 x.a9),(.int .i64 x.a10)]⟩),(.int .i64 x.a11),(.int .i64 x.a12)]⟩ h:=by
  intro t x h e
  unfold dec58 at e
  split at e
  case h_2=>cases e
  split at e
  case h_2=>cases e
  rename_i hg
  simp only [Option.some.injEq,Prod.mk.injEq] at e
  obtain ⟨rfl,rfl⟩:=e
  rw [Nat.eq_of_beq_eq_true hg]
theorem known58 : Known Try.prog p58:=by
  obtain ⟨J0,hJ0⟩:=kl58_0
  exact Known.fn noNG mixed (Known.or known38 (Known.or known42 hJ0)) (n:=60) (zs:=[6,0]) 58 (fun x : A58=>[(.agg ⟨[(lstV x.a0 x.a1 x.a2 7),(lstV x.a3 x.a4 x.a5 5),(lstV x.a6 x.a7 x.a8 1),(.int .i64 x.a9),(.int .i64 x.a10)]⟩),(.int .i64 x.a11),(.int .i64 x.a12)]) (fun x=>rt58 x.a0 x.a1 x.a2 x.a3 x.a4 x.a5 x.a6 x.a7 x.a8 x.a9 x.a10 x.a11 x.a12) en58 (fun x=>T58 J0 x.a0 x.a1 x.a2 x.a3 x.a4 x.a5 x.a6 x.a7 x.a8 x.a9 x.a10 x.a11 x.a12) (fun x=>rfl) dec58 alt58 hd58 ha58
end
end Go.Proofs.Ytjdidbnmkogflaa

namespace Go.Proofs.Ytjdidbnmkogflaa
open Go.Gi Go.RowKit Go.Proofs.Ytjdidbnmkogflaa.Old
noncomputable section
set_option maxRecDepth 100000
set_option linter.unusedVariables false
set_option linter.unusedSimpArgs false
section
variable {c0 c c3 : Array Value} {n n2 n3 : Nat} {age shear tick now x y : Int}
def winA (c0 c c3 : Array Value) (n2 : Nat) (age shear tick now : Int) (k : Nat) : Hd:=all c0 c n2 age shear (wLo c3 (k : Int)) (wHi c3 (k : Int)) tick now (chB 128 (-1))
def agB (c0 c c3 : Array Value) (n2 : Nat) (age shear tick now : Int) : Nat → Nat → Bool
  | 0,_=>true
  | m + 1,k=>!emp (winA c0 c c3 n2 age shear tick now k) && agB c0 c c3 n2 age shear tick now m (k + 1)
theorem agB_iff : ∀ m k,agB c0 c c3 n2 age shear tick now m k = true ↔ ∀ i,i < m → emp (winA c0 c c3 n2 age shear tick now (k + i)) = false
  | 0,k=>⟨fun _ i hi=>by omega,fun _=>rfl⟩
  | m + 1,k=>by
    unfold agB
    rw [Bool.and_eq_true,agB_iff m (k + 1),Bool.not_eq_true']
    constructor
    · rintro ⟨h1,h2⟩ i hi
      cases i with
      | zero=>exact h1
      | succ i=>rw [show k + (i + 1) = k + 1 + i by omega]; exact h2 i (by omega)
    · intro h
      exact ⟨h 0 (by omega),fun i hi=>by rw [show k + 1 + i = k + (i + 1) by omega]; exact h (i + 1) (by omega)⟩
theorem F38_at {k : Nat} (g1 : GL L7 7 c0 n) (g2 : GL L5 5 c n2) (g3 : GL L1 1 c3 n3) (hz : F20_2 c0 0 n c 0 n2 c3 0 n3 age shear = 0) (hxy : (tkB tick && tkB now) = true) (hk : k < n3) :
    F38_ok c0 0 n c 0 n2 c3 0 n3 age shear (k : Int) tick now = true ∧ F38_4 c0 0 n c 0 n2 c3 0 n3 age shear (k : Int) tick now = 0 ∧ F38_3 c0 0 n c 0 n2 c3 0 n3 age shear (k : Int) tick now = !emp (winA c0 c c3 n2 age shear tick now k):=by
  have e:=F38_eq (age:=age) (shear:=shear) (k:=(k : Int)) (x:=tick) (y:=now) g1 g2 g3
  have hq : qErr n3 (k : Int) tick now = 0:=by
    unfold qErr
    rw [if_neg (by omega)]
    exact if_pos hxy
  unfold blm at e
  rw [if_pos hz,if_pos hq] at e
  by_cases he : emp (winA c0 c c3 n2 age shear tick now k) = true
  · have he':=he
    unfold winA at he
    rw [if_pos he] at e
    refine ⟨by simp only [F38_ok,e]; rfl,by simp only [F38_4,e],by simp only [F38_3,e,he']; rfl⟩
  · have he':=he
    unfold winA at he
    rw [if_neg he] at e
    rw [Bool.not_eq_true] at he'
    refine ⟨by simp only [F38_ok,e]; rfl,by simp only [F38_4,e],by simp only [F38_3,e,he']; rfl⟩
theorem loop58 (g1 : GL L7 7 c0 n) (g2 : GL L5 5 c n2) (g3 : GL L1 1 c3 n3) (few : n3 ≤ 1000) (hz : F20_2 c0 0 n c 0 n2 c3 0 n3 age shear = 0) (hxy : (tkB tick && tkB now) = true) (A : Array Value) (o l : Nat) : ∀ m k,k + m = n3 →
    loopR rd58_0 ⟨tick,now,A,o,l,(k : Int),c0,0,n,c,0,n2,c3,0,n3,age,shear⟩ =
    some (if agB c0 c c3 n2 age shear tick now m k = true then .k1 A o l c0 0 n c 0 n2 c3 0 n3 age shear else .k0 false c0 0 n c 0 n2 c3 0 n3 age shear)
  | 0,k,e=>loopR_done (by
      obtain rfl : k = n3:=by omega
      have h1 : ¬ ((k : Int) < (k : Int)):=by omega
      simp only [rd58_0,RT.val,h1,Int.ofNat_eq_natCast,decide_false,cond_false,agB]
      rfl)
  | m + 1,k,e=>by
    have hki : (k : Int) < (n3 : Int):=by omega
    have h3 : IntKind.wrap .i64 ((k : Int) + 1) = ((k + 1 : Nat) : Int):=by rw [wrap64_id (by omega) (by omega)]; omega
    obtain ⟨f1,f2,f3⟩:=F38_at (k:=k) g1 g2 g3 hz hxy (by omega)
    by_cases he : emp (winA c0 c c3 n2 age shear tick now k) = true
    · rw [he] at f3
      refine loopR_done ?_
      simp only [rd58_0,RT.val,hki,Int.ofNat_eq_natCast,f1,f2,f3,decide_true,Bool.not_true,Bool.not_false,cond_true,cond_false,agB,he,Bool.false_and]
      rfl
    · rw [Bool.not_eq_true] at he
      rw [he] at f3
      refine (loopR_next ?_).trans ((loop58 g1 g2 g3 few hz hxy A o l m (k + 1) (by omega)).trans ?_)
      · simp only [rd58_0,RT.val,hki,Int.ofNat_eq_natCast,f1,f2,f3,decide_true,Bool.not_true,Bool.not_false,cond_true,cond_false,h3]
      · simp only [agB,he,Bool.not_false,Bool.true_and]
theorem bnS_ok (h : (bnS c0 c c3 n n2 n3 age shear x y).2 = 0) : F20_2 c0 0 n c 0 n2 c3 0 n3 age shear = 0 ∧ (tkB x && tkB y) = true ∧ ∃ R,bnds c0 c c3 n n2 age shear x y n3 0 = some R ∧ bnS c0 c c3 n n2 n3 age shear x y = (R,0):=by
  unfold bnS at h ⊢
  by_cases hz : F20_2 c0 0 n c 0 n2 c3 0 n3 age shear = 0
  · rw [if_pos hz] at h ⊢
    by_cases hxy : (tkB x && tkB y) = true
    · rw [if_pos hxy] at h ⊢
      cases hb : bnds c0 c c3 n n2 age shear x y n3 0 with
      | none=>rw [hb] at h; simp at h
      | some R=>exact ⟨hz,hxy,R,rfl,rfl⟩
    · rw [if_neg hxy] at h; simp at h
  · rw [if_neg hz] at h; exact absurd h hz
theorem F58_yes (g1 : GL L7 7 c0 n) (g2 : GL L5 5 c n2) (g3 : GL L1 1 c3 n3) (hz : F20_2 c0 0 n c 0 n2 c3 0 n3 age shear = 0) (hxy : (tkB x && tkB y) = true) (ha : agB c0 c c3 n2 age shear x y n3 0 = true) :
    ∃ R,bnds c0 c c3 n n2 age shear x y n3 0 = some R ∧ F58_ok c0 0 n c 0 n2 c3 0 n3 age shear x y = true ∧ F58_0 c0 0 n c 0 n2 c3 0 n3 age shear x y = arrB R ∧ F58_1 c0 0 n c 0 n2 c3 0 n3 age shear x y = 0 ∧ F58_2 c0 0 n c 0 n2 c3 0 n3 age shear x y = R.length ∧ F58_3 c0 0 n c 0 n2 c3 0 n3 age shear x y = true:=by
  obtain ⟨hv,hn,hc⟩:=vld g1 g2 g3 hz
  obtain ⟨R,hR⟩:=bnds_some (c0:=c0) (c:=c) (c3:=c3) (n:=n) (n2:=n2) (age:=age) (shear:=shear) (tick:=x) (now:=y) n3 0 fun i hi=>by
    have:=(agB_iff n3 0).1 ha i hi
    unfold winA at this
    rw [Nat.zero_add] at this ⊢
    exact ⟨_,by unfold ansO; rw [if_neg (by rw [this]; decide)]⟩
  have e42:=F42_eq (age:=age) (shear:=shear) (x:=x) (y:=y) g1 g2 g3
  have hs : bnS c0 c c3 n n2 n3 age shear x y = (R,0):=by unfold bnS; rw [if_pos hz,if_pos hxy,hR]
  rw [hs] at e42
  have hlen:=bnds_len n3 0 R hR
  have hL:=loop58 (tick:=x) (now:=y) g1 g2 g3 (by omega) hz hxy (arrB R) 0 R.length n3 0 (by omega)
  rw [if_pos ha] at hL
  have hL' : L58_0 ⟨x,y,arrB R,0,R.length,0,c0,0,n,c,0,n2,c3,0,n3,age,shear⟩ = _:=hL
  have e : F58 c0 0 n c 0 n2 c3 0 n3 age shear x y = some ⟨arrB R,0,R.length,true⟩:=by
    unfold F58 rt58
    simp only [RT.val,F42_ok,F42_0,F42_1,F42_2,F42_3,e42,Option.isSome_some,hlen,eqCode_self,L58_0_k0,L58_0_k1,L58_0_k1_0,L58_0_k1_1,L58_0_k1_2,hL',decide_true,Bool.not_true,cond_true,cond_false]
    rw [hlen] at hL'
    simp only [hL',hlen,cond_true,cond_false]
  exact ⟨R,hR,by simp only [F58_ok,e]; rfl,by simp only [F58_0,e],by simp only [F58_1,e],by simp only [F58_2,e],by simp only [F58_3,e]⟩
theorem F58_no (g1 : GL L7 7 c0 n) (g2 : GL L5 5 c n2) (g3 : GL L1 1 c3 n3) (h : F20_2 c0 0 n c 0 n2 c3 0 n3 age shear = 0 → (tkB x && tkB y) = true → ¬ agB c0 c c3 n2 age shear x y n3 0 = true) :
    F58_ok c0 0 n c 0 n2 c3 0 n3 age shear x y = true ∧ F58_3 c0 0 n c 0 n2 c3 0 n3 age shear x y = false:=by
  have e42:=F42_eq (age:=age) (shear:=shear) (x:=x) (y:=y) g1 g2 g3
  have e : F58 c0 0 n c 0 n2 c3 0 n3 age shear x y = some ⟨⟨[]⟩,0,0,false⟩:=by
    by_cases hb : (bnS c0 c c3 n n2 n3 age shear x y).2 = 0
    · obtain ⟨hz,hxy,R,hR,hs⟩:=bnS_ok hb
      obtain ⟨hv,hn,hc⟩:=vld g1 g2 g3 hz
      have ha:=h hz hxy
      rw [hs] at e42
      have hlen:=bnds_len n3 0 R hR
      have hL:=loop58 (tick:=x) (now:=y) g1 g2 g3 (by omega) hz hxy (arrB R) 0 R.length n3 0 (by omega)
      rw [if_neg ha] at hL
      have hL' : L58_0 ⟨x,y,arrB R,0,R.length,0,c0,0,n,c,0,n2,c3,0,n3,age,shear⟩ = _:=hL
      unfold F58 rt58
      simp only [RT.val,F42_ok,F42_0,F42_1,F42_2,F42_3,e42,Option.isSome_some,hlen,eqCode_self,L58_0_k0,L58_0_k0_0,hL',decide_true,Bool.not_true,cond_true,cond_false]
      rw [hlen] at hL'
      simp only [hL',hlen,cond_true,cond_false]
    · unfold F58 rt58
      simp only [RT.val,F42_ok,F42_0,F42_1,F42_2,F42_3,e42,Option.isSome_some,hb,decide_false,Bool.not_false,cond_true,cond_false]
  exact ⟨by simp only [F58_ok,e]; rfl,by simp only [F58_3,e]⟩
end
end
end Go.Proofs.Ytjdidbnmkogflaa

namespace Go.Proofs.Ytjdidbnmkogflaa
open Go.Gi Go.RowKit Go.Proofs.Ytjdidbnmkogflaa.Old
noncomputable section
set_option maxRecDepth 100000
set_option linter.unusedVariables false
set_option linter.unusedSimpArgs false
section
variable {c0 c c3 : Array Value} {n n2 n3 : Nat} {age shear a b now x y : Int}
theorem cuts_le (up : ∀ k,0 < k → k < n3 → getInt c3 (k - 1) < getInt c3 k) : ∀ j i,i ≤ j → j < n3 → getInt c3 i ≤ getInt c3 j
  | 0,i,h,hj=>by
    obtain rfl : i = 0:=by omega
    exact Int.le_refl _
  | j + 1,i,h,hj=>by
    rcases Nat.eq_or_lt_of_le h with rfl | h
    · exact Int.le_refl _
    · have h1:=cuts_le up j i (by omega) (by omega)
      have h2:=up (j + 1) (by omega) hj
      simp only [Nat.add_sub_cancel] at h2
      omega
theorem wLo_pos {i : Nat} (h : 0 < i) : wLo c3 (i : Int) = getInt c3 (i - 1):=by
  obtain ⟨k,rfl⟩ : ∃ k,i = k + 1:=⟨i - 1,by omega⟩
  rw [wLo_next,Nat.add_sub_cancel]
theorem cov_same {A B : List Bd} (up : ∀ k,0 < k → k < n3 → getInt c3 (k - 1) < getInt c3 k) (ha : A.length = n3) (hb : B.length = n3)
    (h : ∀ i (hi : i < n3),∃ P Q : Hd,A[i]'(by omega) = ⟨wLo c3 (i : Int),getInt c3 i,P.xl,P.xh,P.yl,P.yh⟩ ∧ B[i]'(by omega) = ⟨wLo c3 (i : Int),getInt c3 i,Q.xl,Q.xh,Q.yl,Q.yh⟩ ∧ wid P Q) :
    ∀ i (hi : i < A.length) j (hj : j < B.length),covB A[i] B[j]:=by
  intro i hi j hj m1 m2
  obtain ⟨P,Q,e1,e2,hw⟩:=h i (by omega)
  obtain ⟨P',Q',e3,e4,hw'⟩:=h j (by omega)
  rw [e1] at m1 m2 ⊢
  rw [e4] at m1 m2 ⊢
  simp only at m1 m2
  rcases Nat.lt_trichotomy i j with hlt | rfl | hlt
  · exfalso
    rw [wLo_pos (show 0 < j by omega)] at m2
    have:=cuts_le up (j - 1) i (by omega) (by omega)
    omega
  · rw [e2] at e4
    injection e4 with _ _ q1 q2 q3 q4
    obtain ⟨w1,w2,w3,w4⟩:=hw
    rw [← q1,← q2,← q3,← q4]
    exact ⟨w1,w2,w3,w4⟩
  · exfalso
    rw [wLo_pos (show 0 < i by omega)] at m1
    have:=cuts_le up (i - 1) j (by omega) (by omega)
    omega
theorem bnds_win {R : List Bd} (hR : bnds c0 c c3 n n2 age shear x y n3 0 = some R) (ha : agB c0 c c3 n2 age shear x y n3 0 = true) {i : Nat} (hi : i < n3) :
    R[i]'(by rw [bnds_len n3 0 R hR]; exact hi) = ⟨wLo c3 (i : Int),getInt c3 i,(winA c0 c c3 n2 age shear x y i).xl,(winA c0 c c3 n2 age shear x y i).xh,(winA c0 c c3 n2 age shear x y i).yl,(winA c0 c c3 n2 age shear x y i).yh⟩:=by
  have hl:=bnds_len n3 0 R hR
  obtain ⟨H,h1,h2⟩:=bnds_get n3 0 R hR i (by omega)
  have he:=(agB_iff n3 0).1 ha i hi
  rw [Nat.zero_add] at he h1 h2
  unfold winA at he
  unfold ansO at h1
  rw [if_neg (by rw [he]; decide),Option.some.injEq] at h1
  rw [h2,← h1]
  rfl
end
end
end Go.Proofs.Ytjdidbnmkogflaa

namespace Go.Proofs.Ytjdidbnmkogflaa
open Go.Gi Go.RowKit Go.Proofs.Ytjdidbnmkogflaa.Old
noncomputable section
set_option maxRecDepth 100000
set_option linter.unusedVariables false
set_option linter.unusedSimpArgs false
structure SdOk (c0 : Array Value) (n : Nat) (c : Array Value) (k : Nat) : Prop where
  src : 0 ≤ getInt c (0 + k * 5) ∧ getInt c (0 + k * 5) < n
  tick : 0 ≤ getInt c (0 + k * 5 + 1) ∧ getInt c (0 + k * 5 + 1) ≤ 100000
  height : getInt c0 (0 + (getInt c (0 + k * 5)).toNat * 7 + 5) ≤ getInt c (0 + k * 5 + 2) ∧ getInt c (0 + k * 5 + 2) ≤ getInt c0 (0 + (getInt c (0 + k * 5)).toNat * 7 + 6)
  x : -20000 ≤ getInt c (0 + k * 5 + 3) ∧ getInt c (0 + k * 5 + 3) ≤ 20000
  y : -20000 ≤ getInt c (0 + k * 5 + 4) ∧ getInt c (0 + k * 5 + 4) ≤ 20000
  uniq : ∀ j,j < k → ¬ (getInt c (0 + j * 5) = getInt c (0 + k * 5) ∧ getInt c (0 + j * 5 + 1) = getInt c (0 + k * 5 + 1) ∧ getInt c (0 + j * 5 + 2) = getInt c (0 + k * 5 + 2))
  up : getInt c0 (0 + (getInt c (0 + k * 5)).toNat * 7 + 1) = 2 → ∀ j,j < k → getInt c (0 + j * 5) = getInt c (0 + k * 5) → getInt c (0 + j * 5 + 1) ≤ getInt c (0 + k * 5 + 1) ∧ getInt c (0 + j * 5 + 2) ≤ getInt c (0 + k * 5 + 2)
theorem sdB_iff {c : Array Value} {x0 x1 x2 : Int} {m : Nat} : sdB c 0 x0 x1 x2 m 0 = true ↔ ∃ j,j < m ∧ getInt c (0 + j * 5) = x0 ∧ getInt c (0 + j * 5 + 1) = x1 ∧ getInt c (0 + j * 5 + 2) = x2:=by
  unfold sdB
  rw [fst_iff2]
  constructor
  · rintro ⟨j,_,h2,h3⟩
    simp only [sdP,Bool.and_eq_true,decide_eq_true_eq] at h3
    exact ⟨j,by omega,h3.1,h3.2.1,h3.2.2⟩
  · rintro ⟨j,h1,h2,h3,h4⟩
    refine ⟨j,by omega,by omega,?_⟩
    simp only [sdP,Bool.and_eq_true,decide_eq_true_eq]
    exact ⟨h2,h3,h4⟩
theorem lastS_spec (c : Array Value) (x0 : Int) : ∀ (m k : Nat) (l : Int),
    (∃ j,k ≤ j ∧ j < k + m ∧ getInt c (0 + j * 5) = x0 ∧ lastS c 0 x0 m k l = (j : Int) ∧ ∀ j',j < j' → j' < k + m → getInt c (0 + j' * 5) ≠ x0) ∨
    (lastS c 0 x0 m k l = l ∧ ∀ j,k ≤ j → j < k + m → getInt c (0 + j * 5) ≠ x0)
  | 0,k,l=>.inr ⟨rfl,fun j h1 h2=>by omega⟩
  | m + 1,k,l=>by
    unfold lastS
    rcases lastS_spec c x0 m (k + 1) (if getInt c (0 + k * 5) = x0 then (k : Int) else l) with ⟨j,h1,h2,h3,h4,h5⟩ | ⟨e,hn⟩
    · exact .inl ⟨j,by omega,by omega,h3,h4,fun j' h6 h7=>h5 j' h6 (by omega)⟩
    · by_cases hk : getInt c (0 + k * 5) = x0
      · rw [if_pos hk] at e
        exact .inl ⟨k,Nat.le_refl k,by omega,hk,by rw [if_pos hk]; exact e,fun j' h6 h7=>hn j' (by omega) (by omega)⟩
      · rw [if_neg hk] at e
        refine .inr ⟨by rw [if_neg hk]; exact e,fun j h6 h7=>?_⟩
        rcases Nat.eq_or_lt_of_le h6 with rfl | h
        · exact hk
        · exact hn j (by omega) (by omega)
theorem sd_of_ok {c0 c : Array Value} {n k : Nat} (h : SdOk c0 n c k) : sdE c0 0 n c 0 k = 0:=by
  unfold sdE
  obtain ⟨h1,h2,h3,h4,h5,h6,h7⟩:=h
  rw [if_neg (by rw [inB_iff]; omega),if_neg (by rw [inB_iff,inB_iff,inB_iff,inB_iff]; omega),if_neg,if_neg]
  · rintro ⟨q1,q2,q3⟩
    rcases lastS_spec c (getInt c (0 + k * 5)) k 0 (-1) with ⟨j,k1,k2,k3,k4,_⟩ | ⟨e,_⟩
    · rw [k4,Int.toNat_natCast] at q3
      have:=h7 q1 j (by omega) k3
      omega
    · rw [e] at q2; omega
  · rw [sdB_iff]
    rintro ⟨j,k1,k2⟩
    exact h6 j k1 k2
theorem sd_ok {c0 c : Array Value} {n n2 : Nat} (h : ∀ i,i < n2 → sdE c0 0 n c 0 i = 0) : ∀ k,k < n2 → SdOk c0 n c k:=by
  intro k
  induction k using Nat.strongRecOn with
  | _ k ih =>
  intro hk
  have he:=h k hk
  obtain ⟨s1,s2,s3,s4,s5,s6,s7,s8,s9,s10⟩:=snd_of he
  unfold sdE at he
  rw [if_neg (by rw [inB_iff]; omega),if_neg (by rw [inB_iff,inB_iff,inB_iff,inB_iff]; omega)] at he
  by_cases hu : sdB c 0 (getInt c (0 + k * 5)) (getInt c (0 + k * 5 + 1)) (getInt c (0 + k * 5 + 2)) k 0 = true
  · rw [if_pos hu] at he; omega
  rw [if_neg hu] at he
  refine ⟨⟨s1,s2⟩,⟨s3,s4⟩,⟨s5,s6⟩,⟨s7,s8⟩,⟨s9,s10⟩,fun j hj hq=>hu (sdB_iff.2 ⟨j,hj,hq.1,hq.2.1,hq.2.2⟩),fun hkind j hj hs=>?_⟩
  rcases lastS_spec c (getInt c (0 + k * 5)) k 0 (-1) with ⟨J,k1,k2,k3,k4,k5⟩ | ⟨e,hn⟩
  · rw [k4,Int.toNat_natCast] at he
    have hJ : getInt c (0 + J * 5 + 1) ≤ getInt c (0 + k * 5 + 1) ∧ getInt c (0 + J * 5 + 2) ≤ getInt c (0 + k * 5 + 2):=by
      by_cases hc : getInt c0 (0 + (getInt c (0 + k * 5)).toNat * 7 + 1) = 2 ∧ (0 : Int) ≤ (J : Int) ∧ (getInt c (0 + k * 5 + 1) < getInt c (0 + J * 5 + 1) ∨ getInt c (0 + k * 5 + 2) < getInt c (0 + J * 5 + 2))
      · rw [if_pos hc] at he; omega
      · have : (0 : Int) ≤ (J : Int):=by omega
        exact ⟨by
          by_cases hlt : getInt c (0 + k * 5 + 1) < getInt c (0 + J * 5 + 1)
          · exact absurd ⟨hkind,this,.inl hlt⟩ hc
          · omega,by
          by_cases hlt : getInt c (0 + k * 5 + 2) < getInt c (0 + J * 5 + 2)
          · exact absurd ⟨hkind,this,.inr hlt⟩ hc
          · omega⟩
    rcases Nat.lt_trichotomy j J with hlt | rfl | hgt
    · have:=(ih J (by omega) (by omega)).up (by rw [k3]; exact hkind) j hlt (by rw [hs,k3])
      omega
    · exact hJ
    · exact absurd hs (k5 j hgt (by omega))
  · exact absurd hs (hn j (by omega) (by omega))
theorem fB_of {p : Nat → Bool} {m : Nat} (h : ∀ k,k < m → p k = false) : fB p m 0 = false:=by
  unfold fB
  rw [← Bool.not_eq_true,fst_iff2]
  rintro ⟨j,_,h2,h3⟩
  rw [h j (by omega)] at h3; cases h3
theorem ck_of {a b d : Option Addr} {n n2 n3 : Nat} {age shear : Int} {H : List Ob} (h : CkZ a b d n n2 n3 age shear H) : ck3 a b d n n2 n3 age shear H = 0:=by
  obtain ⟨h1,h2,h3,h4,h5,h6,h7,h8,h9⟩:=h
  unfold ck3 ckR
  rw [if_neg (by omega),if_neg,if_neg,if_neg,if_neg]
  · rw [inB_iff,inB_iff]; omega
  · rw [fB_of fun k hk=>?_]
    · decide
    · unfold tmP; rw [h7 k hk]; rfl
  · rw [fB_of fun k hk=>?_]
    · decide
    · unfold soP soE; rw [h6 k hk]; rfl
  · rw [fB_of fun k hk=>?_]
    · decide
    · unfold srP srE; rw [h5 k hk]; rfl
section
variable {c0 c c3 c' : Array Value} {n n2 n3 n2' : Nat} {age shear tick now lo hi : Int}
structure Sub (c' : Array Value) (n2' : Nat) (c : Array Value) (n2 : Nat) (f : Nat → Nat) : Prop where
  lt : ∀ j,j < n2' → f j < n2
  up : ∀ i j,i < j → j < n2' → f i < f j
  le : n2' ≤ n2
  row : ∀ j,j < n2' → getInt c' (0 + j * 5) = getInt c (0 + f j * 5) ∧ getInt c' (0 + j * 5 + 1) = getInt c (0 + f j * 5 + 1) ∧ getInt c' (0 + j * 5 + 2) = getInt c (0 + f j * 5 + 2) ∧ getInt c' (0 + j * 5 + 3) = getInt c (0 + f j * 5 + 3) ∧ getInt c' (0 + j * 5 + 4) = getInt c (0 + f j * 5 + 4)
theorem Sub.ok {f : Nat → Nat} (hs : Sub c' n2' c n2 f) (h : ∀ k,k < n2 → SdOk c0 n c k) : ∀ k,k < n2' → SdOk c0 n c' k:=by
  intro k hk
  obtain ⟨h1,h2,h3,h4,h5,h6,h7⟩:=h (f k) (hs.lt k hk)
  obtain ⟨r1,r2,r3,r4,r5⟩:=hs.row k hk
  refine ⟨by rw [r1]; exact h1,by rw [r2]; exact h2,by rw [r1,r3]; exact h3,by rw [r4]; exact h4,by rw [r5]; exact h5,fun j hj=>?_,fun hkind j hj=>?_⟩
  · obtain ⟨q1,q2,q3,_,_⟩:=hs.row j (by omega)
    rw [q1,q2,q3,r1,r2,r3]
    exact h6 (f j) (hs.up j k hj hk)
  · obtain ⟨q1,q2,q3,_,_⟩:=hs.row j (by omega)
    rw [r1] at hkind
    rw [q1,q2,q3,r1,r2,r3]
    exact h7 hkind (f j) (hs.up j k hj hk)
theorem ckZ_of (g1 : GL L7 7 c0 n) (g2 : GL L5 5 c n2) (g3 : GL L1 1 c3 n3) (h : F20_2 c0 0 n c 0 n2 c3 0 n3 age shear = 0) : CkZ (some ⟨0,0,none⟩) (some ⟨1,0,none⟩) (some ⟨2,0,none⟩) n n2 n3 age shear [obF n c0,obF n2 c,obF n3 c3] :=
  ck_zero (show ck3 (some ⟨0,0,none⟩) (some ⟨1,0,none⟩) (some ⟨2,0,none⟩) n n2 n3 age shear [obF n c0,obF n2 c,obF n3 c3] = 0 from h)
theorem snd_all (g1 : GL L7 7 c0 n) (g2 : GL L5 5 c n2) (g3 : GL L1 1 c3 n3) (h : F20_2 c0 0 n c 0 n2 c3 0 n3 age shear = 0) : ∀ k,k < n2 → SdOk c0 n c k:=by
  have hz:=ckZ_of g1 g2 g3 h
  obtain ⟨hv,_,_⟩:=vld g1 g2 g3 h
  refine sd_ok fun i hi=>?_
  have:=hz.snd i hi
  have hs:=hv.src i hi
  rw [arrF0 (by omega),arrF1 (by omega)] at this
  exact this
theorem Sub.check {f : Nat → Nat} (hs : Sub c' n2' c n2 f) (g1 : GL L7 7 c0 n) (g2 : GL L5 5 c n2) (g3 : GL L1 1 c3 n3) (h : F20_2 c0 0 n c 0 n2 c3 0 n3 age shear = 0) : F20_2 c0 0 n c' 0 n2' c3 0 n3 age shear = 0:=by
  have hz:=ckZ_of g1 g2 g3 h
  have ho:=hs.ok (snd_all g1 g2 g3 h)
  refine (ck_of ⟨hz.few,by have:=hz.few2; have:=hs.le; omega,hz.some3,hz.few3,fun k hk=>?_,fun k hk=>?_,fun k hk=>?_,hz.age,hz.shear⟩ : ck3 (some ⟨0,0,none⟩) (some ⟨1,0,none⟩) (some ⟨2,0,none⟩) n n2' n3 age shear [obF n c0,obF n2' c',obF n3 c3] = 0)
  · have:=hz.src k hk
    rw [arrF0 (by omega)] at this ⊢
    exact this
  · have h1:=ho k hk
    rw [arrF0 (by have:=h1.src; omega),arrF1 (by omega)]
    exact sd_of_ok h1
  · have:=hz.cut k hk
    rw [arrF2 (by omega)] at this ⊢
    exact this
theorem Sub.kn {f : Nat → Nat} (hs : Sub c' n2' c n2 f) {j : Nat} (hj : j < n2') : knP c0 0 c' 0 now j = knP c0 0 c 0 now (f j):=by
  obtain ⟨r1,r2,r3,r4,r5⟩:=hs.row j hj
  unfold knP
  rw [r1,r2]
theorem Sub.db {f : Nat → Nat} (hs : Sub c' n2' c n2 f) {j : Nat} (hj : j < n2') : dbI c0 0 c' 0 age shear lo hi tick j = dbI c0 0 c 0 age shear lo hi tick (f j):=by
  obtain ⟨r1,r2,r3,r4,r5⟩:=hs.row j hj
  unfold dbI
  rw [r1,r2,r3]
theorem Sub.wider {f : Nat → Nat} (hs : Sub c' n2' c n2 f) {p : Int → Bool} (he : emp (all c0 c n2 age shear lo hi tick now p) = false) :
    emp (all c0 c' n2' age shear lo hi tick now p) = false ∧ wid (all c0 c' n2' age shear lo hi tick now p) (all c0 c n2 age shear lo hi tick now p):=by
  refine wid_of he (fun v hx=>?_) (fun v hy=>?_)
  · rw [all_inX] at hx ⊢
    refine ⟨hx.1,fun i hi2 hk hp=>?_⟩
    have q:=hx.2 (f i) (hs.lt i hi2) (by rw [← hs.kn hi2]; exact hk) (by rw [← (hs.row i hi2).1]; exact hp)
    unfold nearX at q ⊢
    rw [hs.db hi2,(hs.row i hi2).2.2.2.1]; exact q
  · rw [all_inY] at hy ⊢
    refine ⟨hy.1,fun i hi2 hk hp=>?_⟩
    have q:=hy.2 (f i) (hs.lt i hi2) (by rw [← hs.kn hi2]; exact hk) (by rw [← (hs.row i hi2).1]; exact hp)
    unfold nearY at q ⊢
    rw [hs.db hi2,(hs.row i hi2).2.2.2.2]; exact q
end
end
end Go.Proofs.Ytjdidbnmkogflaa

namespace Go.Gi
open Go.RowKit
noncomputable section
def thV (y : Nat) (bl : List Ob) (v : Value) : Option (Value × Bool × List Nat) :=
  match v with
  | .slice (some ⟨b,off,none⟩) len sz=>match nthO bl b with
    | some (.cells c false)=>some (lstV c off len sz,allFz c && decide (off + len * sz ≤ c.size),[b])
    | _=>none
  | .slice none 0 0=>some (lstV ⟨[]⟩ 0 0 y,true,[])
  | v=>if fz0 v then some (v,true,[]) else none
def thL (bl : List Ob) : List Nat → List Value → Option (List Value × Bool × List Nat)
  | _,[]=>some ([],true,[])
  | ys,v :: r=>match thV (ys.headD 0) bl v with
    | some (u,b,S)=>match thL bl ys.tail r with
      | some (us,b',S')=>some (u :: us,b && b',S ++ S')
      | none=>none
    | none=>none
def thA (ys : List Nat) (bl : List Ob) (v : Value) : Option (Value × Bool × List Nat) :=
  match v with
  | .agg ⟨l⟩=>match thL bl ys l with
    | some (us,b,S)=>some (.agg ⟨us⟩,b,S)
    | none=>none
  | v=>thV (ys.headD 0) bl v
def thAll (bl : List Ob) : List (List Nat) → List Value → Option (List Value × Bool × List Nat)
  | _,[]=>some ([],true,[])
  | ys,v :: r=>match thA (ys.headD []) bl v with
    | some (u,b,S)=>match thAll bl ys.tail r with
      | some (us,b',S')=>some (u :: us,b && b',S ++ S')
      | none=>none
    | none=>none
def inS1 (S : List Nat) (b : Nat) : Bool:=S.any fun x=>Nat.beq x b
def killB (S : List Nat) : Nat → List Ob → List Ob
  | _,[]=>[]
  | i,o :: r=>(match inS1 S i with | true=>Ob.dead | false=>o) :: killB S (i + 1) r
theorem killB_get (S : List Nat) : ∀ (X : List Ob) (i b : Nat),(killB S i X)[b]? = X[b]?.map fun o=>match inS1 S (i + b) with | true=>Ob.dead | false=>o
  | [],_,_=>by simp [killB]
  | o :: r,i,0=>by simp [killB]
  | o :: r,i,b + 1=>by
    have:=killB_get S r (i + 1) b
    rw [show i + 1 + b = i + (b + 1) by omega] at this
    simpa [killB] using this
theorem killB_len (S : List Nat) : ∀ (X : List Ob) (i : Nat),(killB S i X).length = X.length
  | [],_=>rfl
  | _ :: r,i=>by simp [killB,killB_len S r]
theorem killB_live {S : List Nat} {X : List Ob} {b : Nat} {ob : Ob} (h : (killB S 0 X)[b]? = some ob) (hl : ob.live = true) : X[b]? = some ob ∧ inS1 S b = false:=by
  rw [killB_get,Nat.zero_add] at h
  cases hx : X[b]? with
  | none=>rw [hx] at h; cases h
  | some o =>
    rw [hx,Option.map_some,Option.some.injEq] at h
    cases hs : inS1 S b with
    | true=>rw [hs] at h; subst h; cases hl
    | false=>rw [hs] at h; subst h; exact ⟨rfl,rfl⟩
open Classical in
def zS (φ : Phi) (X : List Ob) (S : List Nat) (w : World) : Nat → Option Obj:=fun B=>if ∃ b ob x,inS1 S b = true ∧ X[b]? = some ob ∧ ob.rw = true ∧ φ b = some x ∧ x.1 = B then w.heap[B]? else φ.z B
section
variable {K : Nat → Prop} {w0 w : World} {φ : Phi} {X : List Ob} {S : List Nat}
theorem zS_le (hF : Inv K w0 φ X w) : ∀ B o,φ.z B = some o → zS φ X S w B = some o:=by
  intro B o hB
  unfold zS
  split
  · exact hF.frz B o hB
  · exact hB
theorem zS_frz (hF : Inv K w0 φ X w) : ∀ B o,zS φ X S w B = some o → w.heap[B]? = some o:=by
  intro B o hB
  unfold zS at hB
  split at hB
  · exact hB
  · exact hF.frz B o hB
theorem zS_k (hF : Inv K w0 φ X w) {k : Nat} (hk : K k) : zS φ X S w k = none:=by
  unfold zS
  rw [if_neg]
  · exact hF.zk k hk
  · rintro ⟨b,ob,x,_,h2,h3,h4,rfl⟩
    exact hF.prot b ob x h2 h3 h4 hk
theorem madeS (hF : Inv K w0 φ X w) : Made X.length (zS φ X S w) φ X w :=
  ⟨zS_le hF,fun b c hb hm=>by rw [List.getElem?_eq_none hm] at hb; cases hb⟩
theorem thV_ok (hF : Inv K w0 φ X w) {y : Nat} {v v' u : Value} {b : Bool} {S1 : List Nat} (e : thV y X v = some (u,b,S1)) (hb : b = true) (hs : ∀ x ∈ S1,x ∈ S) (hv : VR φ v v') : FR (zS φ X S w) u v':=by
  unfold thV at e
  split at e
  · rename_i b0 off len sz
    rw [nthO_eq] at e
    split at e
    · rename_i c hb0
      simp only [Option.some.injEq,Prod.mk.injEq] at e
      obtain ⟨rfl,h1,rfl⟩:=e
      rw [hb,Bool.and_eq_true,decide_eq_true_eq] at h1
      obtain ⟨B,base,tot,h3,C,el,fr,h5,h6,h7⟩:=hF.obs b0 _ hb0 rfl
      obtain ⟨h8,h9,_⟩:=h7 rfl
      cases hv with
      | sliceZ _ a' k'=>exact .lstZ _ _ _ _
      | slice hφ hl hc =>
        rw [h3] at hφ; cases hφ
        have hin : inS1 S b0 = true:=by
          unfold inS1
          rw [List.any_eq_true]
          exact ⟨b0,hs b0 (List.mem_singleton.2 rfl),Nat.beq_refl b0⟩
        have hz : zS φ X S w B = some (.cells C el fr):=by
          unfold zS
          rw [if_pos ⟨b0,_,_,hin,hb0,rfl,h3,rfl⟩]
          exact h5
        exact .lst hz (by omega) (cells_fr (madeS hF) h1.1 h6) hl h1.2
    · cases e
  · simp only [Option.some.injEq,Prod.mk.injEq] at e
    obtain ⟨rfl,_,_⟩:=e
    cases hv
    exact .lstZ _ _ _ _
  · split at e
    · rename_i hf
      simp only [Option.some.injEq,Prod.mk.injEq] at e
      obtain ⟨rfl,_,_⟩:=e
      exact fz0_fr (madeS hF) hf hv
    · cases e
theorem thL_ok (hF : Inv K w0 φ X w) : ∀ {ys : List Nat} {l l' us : List Value} {b : Bool} {S1 : List Nat},thL X ys l = some (us,b,S1) → b = true → (∀ x ∈ S1,x ∈ S) → VRl φ l l' → FRl (zS φ X S w) us l'
  | _,[],_,_,_,_,e,hb,hs,hv=>by
    simp only [thL,Option.some.injEq,Prod.mk.injEq] at e
    obtain ⟨rfl,_,_⟩:=e
    cases hv; exact .nil
  | ys,v :: r,_,_,_,_,e,hb,hs,hv=>by
    unfold thL at e
    split at e
    · rename_i u b1 S1 h1
      split at e
      · rename_i us b2 S2 h2
        simp only [Option.some.injEq,Prod.mk.injEq] at e
        obtain ⟨rfl,rfl,rfl⟩:=e
        rw [Bool.and_eq_true] at hb
        cases hv with
        | cons hv hr =>
          exact .cons (thV_ok hF h1 hb.1 (fun x hx=>hs x (List.mem_append_left _ hx)) hv) (thL_ok hF h2 hb.2 (fun x hx=>hs x (List.mem_append_right _ hx)) hr)
      · cases e
    · cases e
theorem thA_ok (hF : Inv K w0 φ X w) {ys : List Nat} {v v' u : Value} {b : Bool} {S1 : List Nat} (e : thA ys X v = some (u,b,S1)) (hb : b = true) (hs : ∀ x ∈ S1,x ∈ S) (hv : VR φ v v') : FR (zS φ X S w) u v':=by
  unfold thA at e
  split at e
  · rename_i l
    split at e
    · rename_i us b1 S2 h1
      simp only [Option.some.injEq,Prod.mk.injEq] at e
      obtain ⟨rfl,rfl,rfl⟩:=e
      obtain ⟨⟨zs⟩,rfl,hs'⟩:=hv.agg_inv
      exact (thL_ok hF h1 hb hs hs'.toList).fr
    · cases e
  · exact thV_ok hF e hb hs hv
theorem thAll_ok (hF : Inv K w0 φ X w) : ∀ {ys : List (List Nat)} {l l' us : List Value} {b : Bool} {S1 : List Nat},thAll X ys l = some (us,b,S1) → b = true → (∀ x ∈ S1,x ∈ S) → VRl φ l l' → FRl (zS φ X S w) us l'
  | _,[],_,_,_,_,e,hb,hs,hv=>by
    simp only [thAll,Option.some.injEq,Prod.mk.injEq] at e
    obtain ⟨rfl,_,_⟩:=e
    cases hv; exact .nil
  | ys,v :: r,_,_,_,_,e,hb,hs,hv=>by
    unfold thAll at e
    split at e
    · rename_i u b1 S1 h1
      split at e
      · rename_i us b2 S2 h2
        simp only [Option.some.injEq,Prod.mk.injEq] at e
        obtain ⟨rfl,rfl,rfl⟩:=e
        rw [Bool.and_eq_true] at hb
        cases hv with
        | cons hv hr =>
          exact .cons (thA_ok hF h1 hb.1 (fun x hx=>hs x (List.mem_append_left _ hx)) hv) (thAll_ok hF h2 hb.2 (fun x hx=>hs x (List.mem_append_right _ hx)) hr)
      · cases e
    · cases e
theorem FRl.vrl {ψ : Phi} {l l' : List Value} (h : FRl ψ.z l l') : VRl ψ l l':=by
  induction h with
  | nil=>exact .nil
  | cons h _ ih=>exact .cons h.vr ih
theorem Inv.kill (hF : Inv K w0 φ X w) : Inv K w0 ⟨fun b=>φ b,zS φ X S w⟩ (killB S 0 X) w:=by
  have hle : Gi.le φ ⟨fun b=>φ b,zS φ X S w⟩:=⟨fun _ _ h=>h,zS_le hF⟩
  refine ⟨?_,?_,?_,hF.keep,hF.klt,hF.size,hF.os,hF.tape,hF.output,?_,zS_frz hF,?_,fun k hk=>zS_k hF hk⟩
  · intro b ob hb hl
    obtain ⟨h1,_⟩:=killB_live hb hl
    obtain ⟨B,base,tot,h2,h3⟩:=hF.obs b ob h1 hl
    exact ⟨B,base,tot,h2,h3.keep hle rfl⟩
  · intro b b' ob ob' x y hne hb hb' hrw hl hx hy
    exact hF.sep b b' ob ob' x y hne (killB_live hb (Ob.live_of_rw hrw)).1 (killB_live hb' hl).1 hrw hl hx hy
  · intro b ob x hb hrw hx
    exact hF.prot b ob x (killB_live hb (Ob.live_of_rw hrw)).1 hrw hx
  · intro b hb
    rw [killB_len] at hb
    exact hF.top b hb
  · intro b ob x hb hrw hx
    obtain ⟨h1,h2⟩:=killB_live hb (Ob.live_of_rw hrw)
    show zS φ X S w x.1 = none
    unfold zS
    rw [if_neg]
    · exact hF.zsep b ob x h1 hrw hx
    · rintro ⟨b',ob',x',k1,k2,k3,k4,k5⟩
      refine hF.sep b b' ob ob' x x' ?_ h1 k2 hrw (Ob.live_of_rw k3) hx k4 k5.symm
      rintro rfl
      rw [h2] at k1; cases k1
end
section
variable {P : Program}
theorem Fact.thawK {zss : List (List Nat)} {f : FuncId} {l us : List Value} {v : Value} {b : Bool} {S : List Nat} {h h1 : Hp} (ht : thAll h.bl zss l = some (us,b,S)) (hb : b = true) (hS : (S.all fun x=>Nat.ble h.base x) = true)
    (hf : Fact P (.call f ⟨us⟩ ⟨killB S 0 h.bl,h.base,h.wr⟩) (.ret v h1)) : Fact P (.call f ⟨l⟩ h) (.ret v h1):=by
  refine ⟨fun hb0=>?_,trivial⟩
  obtain ⟨hp,hh⟩:=hf.1 (by show h.base ≤ (killB S 0 h.bl).length; rw [killB_len]; exact hb0)
  have hq : Pres h ⟨killB S 0 h.bl,h.base,h.wr⟩:=by
   refine ⟨rfl,by show h.bl.length ≤ (killB S 0 h.bl).length; rw [killB_len]; exact Nat.le_refl _,?_,?_⟩
   · intro b hb1 hn
     refine ⟨hn,?_⟩
     show (killB S 0 h.bl)[b]? = h.bl[b]?
     rw [killB_get,Nat.zero_add]
     have : inS1 S b = false:=by
      unfold inS1
      rw [← Bool.not_eq_true,List.any_eq_true]
      rintro ⟨x,hx,he⟩
      have h2:=Nat.le_of_ble_eq_true (List.all_eq_true.1 hS x hx)
      have h3:=Nat.eq_of_beq_eq_true he
      omega
     rw [this]
     cases h.bl[b]? <;> rfl
   · intro b ob hb1 hl _
     exact (killB_live hb1 hl).1
  refine ⟨hq.trans hp,?_⟩
  · intro K w0 φ w args' n hI hA
    obtain ⟨ys⟩:=args'
    have hA1:=thAll_ok (S:=S) hI ht hb (fun _ h=>h) hA.toList
    have hle : le φ ⟨fun b=>φ b,zS φ h.bl S w⟩:=⟨fun _ _ h=>h,zS_le hI⟩
    refine (hh K w0 _ w ⟨ys⟩ n (hI.kill (S:=S)) (FRl.vrl (ψ:=⟨fun b=>φ b,zS φ h.bl S w⟩) hA1).vrs).mono ?_
    intro e w' he
    cases e with
    | returned v' =>
      obtain ⟨φ',h1,h2,h3⟩:=he
      exact ⟨φ',le_trans hle h1,h2,h3⟩
    | panicked ch=>exact he.elim
    | outgrown=>exact he.elim
def AT.grH (h : Hp) : AT → AT
  | .leaf (.ret v _)=>match gr v with | true=>.leaf (.ret v h) | false=>.no
  | .br b x y=>.br b (x.grH h) (y.grH h)
  | _=>.no
def AT.retO : AT → AT
  | .leaf (.ret v h)=>.leaf (.ret v h)
  | .br b x y=>.br b x.retO y.retO
  | _=>.no
theorem AT.retO_out {o : Out} : ∀ {a : AT},a.retO.out = some o → ∃ v h1,a.out = some (.ret v h1) ∧ o = .ret v h1
  | .leaf o',e=>by
    cases o' with
    | ret v h1=>simp only [AT.retO,AT.out,Option.some.injEq] at e; exact ⟨v,h1,rfl,e.symm⟩
    | _=>cases e
  | .no,e=>by cases e
  | .br b x y,e=>by
    cases b with
    | true=>exact AT.retO_out (a:=x) e
    | false=>exact AT.retO_out (a:=y) e
def thawG (g : Nat) (zss : List (List Nat)) (p : Ans) : Ans
  | .call f ⟨l⟩ h=>match Nat.beq f g with
    | true=>match thAll h.bl zss l with
      | some (us,b,_)=>match p (.call f ⟨us⟩ ⟨[],0,[]⟩) with
        | some a=>some (.br b (a.grH h) .no)
        | none=>none
      | none=>none
    | false=>none
  | _=>none
def thawK (g : Nat) (zss : List (List Nat)) (p : Ans) : Ans
  | .call f ⟨l⟩ h=>match Nat.beq f g with
    | true=>match thAll h.bl zss l with
      | some (us,b,S)=>match S.all fun x=>Nat.ble h.base x with
        | true=>match p (.call f ⟨us⟩ ⟨killB S 0 h.bl,h.base,h.wr⟩) with
          | some a=>some (.br b a.retO .no)
          | none=>none
        | false=>none
      | none=>none
    | false=>none
  | _=>none
theorem Known.thawK {p : Ans} (hp : Known P p) (g : Nat) (zss : List (List Nat)) : Known P (thawK g zss p):=by
  intro t x o e ho
  unfold Gi.thawK at e
  split at e
  case h_2=>cases e
  rename_i f l h
  split at e
  case h_2=>cases e
  split at e
  case h_2=>cases e
  rename_i us b S ht
  split at e
  case h_2=>cases e
  rename_i hS
  split at e
  case h_2=>cases e
  rename_i a ha
  simp only [Option.some.injEq] at e
  subst e
  obtain ⟨hb,h2⟩:=cond_some (show cond b a.retO.out none = some o from ho)
  obtain ⟨v,h1,h3,rfl⟩:=AT.retO_out h2
  exact Fact.thawK ht hb hS (hp _ a _ ha h3)
end
end
end Go.Gi

namespace Go.Proofs.Ytjdidbnmkogflaa
open Go.Gi Go.RowKit Go.Proofs.Ytjdidbnmkogflaa.Old
noncomputable section
set_option maxRecDepth 100000
set_option maxHeartbeats 4000000
set_option linter.unusedVariables false
set_option linter.unusedSimpArgs false
structure R15 where
  (r0:Bool)
structure A15 where
  (a0:Array Value)
  (a1 a2:Nat)
  (a3:Array Value)
  (a4 a5:Nat)
  (a6:Array Value)
  (a7 a8:Nat)
  (a9 a10:Int)
  (a11 a12 a13:Int)
noncomputable def rt15 (a0 : Array Value) (a1 a2:Nat) (a3 : Array Value) (a4 a5:Nat) (a6 : Array Value) (a7 a8:Nat) (a9 a10:Int) (a11 a12 a13:Int) : RT R15 :=
  .br (F58_ok a0 a1 a2 a3 a4 a5 a6 a7 a8 a9 a10 a11 a12)
 (.br (not (F58_3 a0 a1 a2 a3 a4 a5 a6 a7 a8 a9 a10 a11 a12))
 (.leaf ⟨true⟩)
 (.br (decide ((Int.ofNat a5) = (0 : Int)))
 (.leaf ⟨true⟩)
 (.br (not (decide ((Int.ofNat a5) = (0 : Int))))
 (.br (and true (and (decide ((0 : Int) ≤ (Int.tmod (IntKind.wrap .i64 a13) (Int.ofNat a5)))) (and (decide (0 ≤ (Int.toNat (Int.tmod (IntKind.wrap .i64 a13) (Int.ofNat a5))))) (decide ((Int.toNat (Int.tmod (IntKind.wrap .i64 a13) (Int.ofNat a5))) ≤ a5)))))
 (.br (decide (((Int.toNat (Int.tmod (IntKind.wrap .i64 a13) (Int.ofNat a5))) - 0) = 0))
 (.br (and (decide ((0 : Int) ≤ (IntKind.wrap .i64 ((Int.tmod (IntKind.wrap .i64 a13) (Int.ofNat a5))+(1 : Int))))) (and true (and (decide ((Int.toNat (IntKind.wrap .i64 ((Int.tmod (IntKind.wrap .i64 a13) (Int.ofNat a5))+(1 : Int)))) ≤ a5)) (decide (a5 ≤ a5)))))
 (.br (decide ((a5 - (Int.toNat (IntKind.wrap .i64 ((Int.tmod (IntKind.wrap .i64 a13) (Int.ofNat a5))+(1 : Int))))) = 0))
 (.br (and (arrEq a3 a3) (and true (and (decide (a4 = a4)) (and (decide (a5 = a5)) true))))
 (.br (and (arrEq a3 a3) (and true (and (decide (a4 = a4)) (and (decide (a5 = a5)) true))))
 (.br (and (arrEq a3 a3) (and true (and (decide (a4 = a4)) (and (decide (a5 = a5)) true))))
 (.br (and (arrEq a3 a3) (and true (and (decide (a4 = a4)) (and (decide (a5 = a5)) true))))
 (.br (and (arrEq a3 a3) (and true (and (decide (a4 = a4)) (and (decide (a5 = a5)) true))))
 (.br (and (arrEq a3 a3) (and true (and (decide (a4 = a4)) (and (decide (a5 = a5)) true))))
 (.br (F58_ok a0 a1 a2 ⟨[]⟩ 0 0 a6 a7 a8 a9 a10 a11 a12)
 (.br (not (F58_3 a0 a1 a2 ⟨[]⟩ 0 0 a6 a7 a8 a9 a10 a11 a12))
 (.leaf ⟨false⟩)
 (.br (F29_ok (F58_0 a0 a1 a2 ⟨[]⟩ 0 0 a6 a7 a8 a9 a10 a11 a12) (F58_1 a0 a1 a2 ⟨[]⟩ 0 0 a6 a7 a8 a9 a10 a11 a12) (F58_2 a0 a1 a2 ⟨[]⟩ 0 0 a6 a7 a8 a9 a10 a11 a12) (F58_0 a0 a1 a2 a3 a4 a5 a6 a7 a8 a9 a10 a11 a12) (F58_1 a0 a1 a2 a3 a4 a5 a6 a7 a8 a9 a10 a11 a12) (F58_2 a0 a1 a2 a3 a4 a5 a6 a7 a8 a9 a10 a11 a12))
 (.br (decide ((F29_1 (F58_0 a0 a1 a2 ⟨[]⟩ 0 0 a6 a7 a8 a9 a10 a11 a12) (F58_1 a0 a1 a2 ⟨[]⟩ 0 0 a6 a7 a8 a9 a10 a11 a12) (F58_2 a0 a1 a2 ⟨[]⟩ 0 0 a6 a7 a8 a9 a10 a11 a12) (F58_0 a0 a1 a2 a3 a4 a5 a6 a7 a8 a9 a10 a11 a12) (F58_1 a0 a1 a2 a3 a4 a5 a6 a7 a8 a9 a10 a11 a12) (F58_2 a0 a1 a2 a3 a4 a5 a6 a7 a8 a9 a10 a11 a12)) = (0 : Int)))
 (.br (F29_0 (F58_0 a0 a1 a2 ⟨[]⟩ 0 0 a6 a7 a8 a9 a10 a11 a12) (F58_1 a0 a1 a2 ⟨[]⟩ 0 0 a6 a7 a8 a9 a10 a11 a12) (F58_2 a0 a1 a2 ⟨[]⟩ 0 0 a6 a7 a8 a9 a10 a11 a12) (F58_0 a0 a1 a2 a3 a4 a5 a6 a7 a8 a9 a10 a11 a12) (F58_1 a0 a1 a2 a3 a4 a5 a6 a7 a8 a9 a10 a11 a12) (F58_2 a0 a1 a2 a3 a4 a5 a6 a7 a8 a9 a10 a11 a12))
 (.leaf ⟨true⟩)
 (.leaf ⟨false⟩))
 (.leaf ⟨false⟩))
 (.no)))
 (.no))
 (.no))
 (.no))
 (.no))
 (.no))
 (.no))
 (.no))
 (.br (decide (((a4+((Int.toNat (IntKind.wrap .i64 ((Int.tmod (IntKind.wrap .i64 a13) (Int.ofNat a5))+(1 : Int))))*5))+((a5 - (Int.toNat (IntKind.wrap .i64 ((Int.tmod (IntKind.wrap .i64 a13) (Int.ofNat a5))+(1 : Int)))))*5)) ≤ (Array.size a3)))
 (.br (and (decide ((Array.size (Array.extract a3 (a4+((Int.toNat (IntKind.wrap .i64 ((Int.tmod (IntKind.wrap .i64 a13) (Int.ofNat a5))+(1 : Int))))*5)) ((a4+((Int.toNat (IntKind.wrap .i64 ((Int.tmod (IntKind.wrap .i64 a13) (Int.ofNat a5))+(1 : Int))))*5))+((a5 - (Int.toNat (IntKind.wrap .i64 ((Int.tmod (IntKind.wrap .i64 a13) (Int.ofNat a5))+(1 : Int)))))*5)))) = ((a5 - (Int.toNat (IntKind.wrap .i64 ((Int.tmod (IntKind.wrap .i64 a13) (Int.ofNat a5))+(1 : Int)))))*5))) (and (oneAll (Array.extract a3 (a4+((Int.toNat (IntKind.wrap .i64 ((Int.tmod (IntKind.wrap .i64 a13) (Int.ofNat a5))+(1 : Int))))*5)) ((a4+((Int.toNat (IntKind.wrap .i64 ((Int.tmod (IntKind.wrap .i64 a13) (Int.ofNat a5))+(1 : Int))))*5))+((a5 - (Int.toNat (IntKind.wrap .i64 ((Int.tmod (IntKind.wrap .i64 a13) (Int.ofNat a5))+(1 : Int)))))*5)))) true))
 (.br (and (decide (((0+(a5 - (Int.toNat (IntKind.wrap .i64 ((Int.tmod (IntKind.wrap .i64 a13) (Int.ofNat a5))+(1 : Int))))))*40) ≤ 140737488355328)) (decide ((0+(a5 - (Int.toNat (IntKind.wrap .i64 ((Int.tmod (IntKind.wrap .i64 a13) (Int.ofNat a5))+(1 : Int)))))) ≤ 4611686018427387904)))
 (.br (and (arrEq a3 a3) (and true (and (decide (a4 = a4)) (and (decide (a5 = a5)) true))))
 (.br (and (arrEq a3 a3) (and true (and (decide (a4 = a4)) (and (decide (a5 = a5)) true))))
 (.br (and (arrEq a3 a3) (and true (and (decide (a4 = a4)) (and (decide (a5 = a5)) true))))
 (.br (and (arrEq a3 a3) (and true (and (decide (a4 = a4)) (and (decide (a5 = a5)) true))))
 (.br (and (arrEq a3 a3) (and true (and (decide (a4 = a4)) (and (decide (a5 = a5)) true))))
 (.br (and (arrEq a3 a3) (and true (and (decide (a4 = a4)) (and (decide (a5 = a5)) true))))
 (.br (and (and true (and (and (allFz ((Array.extract ⟨[]⟩ 0 0) ++ (Array.extract a3 (a4+((Int.toNat (IntKind.wrap .i64 ((Int.tmod (IntKind.wrap .i64 a13) (Int.ofNat a5))+(1 : Int))))*5)) ((a4+((Int.toNat (IntKind.wrap .i64 ((Int.tmod (IntKind.wrap .i64 a13) (Int.ofNat a5))+(1 : Int))))*5))+((a5 - (Int.toNat (IntKind.wrap .i64 ((Int.tmod (IntKind.wrap .i64 a13) (Int.ofNat a5))+(1 : Int)))))*5))))) (decide ((0+((0+(a5 - (Int.toNat (IntKind.wrap .i64 ((Int.tmod (IntKind.wrap .i64 a13) (Int.ofNat a5))+(1 : Int))))))*5)) ≤ (Array.size ((Array.extract ⟨[]⟩ 0 0) ++ (Array.extract a3 (a4+((Int.toNat (IntKind.wrap .i64 ((Int.tmod (IntKind.wrap .i64 a13) (Int.ofNat a5))+(1 : Int))))*5)) ((a4+((Int.toNat (IntKind.wrap .i64 ((Int.tmod (IntKind.wrap .i64 a13) (Int.ofNat a5))+(1 : Int))))*5))+((a5 - (Int.toNat (IntKind.wrap .i64 ((Int.tmod (IntKind.wrap .i64 a13) (Int.ofNat a5))+(1 : Int)))))*5)))))))) true)) true)
 (.br (F58_ok a0 a1 a2 ((Array.extract ⟨[]⟩ 0 0) ++ (Array.extract a3 (a4+((Int.toNat (IntKind.wrap .i64 ((Int.tmod (IntKind.wrap .i64 a13) (Int.ofNat a5))+(1 : Int))))*5)) ((a4+((Int.toNat (IntKind.wrap .i64 ((Int.tmod (IntKind.wrap .i64 a13) (Int.ofNat a5))+(1 : Int))))*5))+((a5 - (Int.toNat (IntKind.wrap .i64 ((Int.tmod (IntKind.wrap .i64 a13) (Int.ofNat a5))+(1 : Int)))))*5)))) 0 (0+(a5 - (Int.toNat (IntKind.wrap .i64 ((Int.tmod (IntKind.wrap .i64 a13) (Int.ofNat a5))+(1 : Int)))))) a6 a7 a8 a9 a10 a11 a12)
 (.br (not (F58_3 a0 a1 a2 ((Array.extract ⟨[]⟩ 0 0) ++ (Array.extract a3 (a4+((Int.toNat (IntKind.wrap .i64 ((Int.tmod (IntKind.wrap .i64 a13) (Int.ofNat a5))+(1 : Int))))*5)) ((a4+((Int.toNat (IntKind.wrap .i64 ((Int.tmod (IntKind.wrap .i64 a13) (Int.ofNat a5))+(1 : Int))))*5))+((a5 - (Int.toNat (IntKind.wrap .i64 ((Int.tmod (IntKind.wrap .i64 a13) (Int.ofNat a5))+(1 : Int)))))*5)))) 0 (0+(a5 - (Int.toNat (IntKind.wrap .i64 ((Int.tmod (IntKind.wrap .i64 a13) (Int.ofNat a5))+(1 : Int)))))) a6 a7 a8 a9 a10 a11 a12))
 (.leaf ⟨false⟩)
 (.br (F29_ok (F58_0 a0 a1 a2 ((Array.extract ⟨[]⟩ 0 0) ++ (Array.extract a3 (a4+((Int.toNat (IntKind.wrap .i64 ((Int.tmod (IntKind.wrap .i64 a13) (Int.ofNat a5))+(1 : Int))))*5)) ((a4+((Int.toNat (IntKind.wrap .i64 ((Int.tmod (IntKind.wrap .i64 a13) (Int.ofNat a5))+(1 : Int))))*5))+((a5 - (Int.toNat (IntKind.wrap .i64 ((Int.tmod (IntKind.wrap .i64 a13) (Int.ofNat a5))+(1 : Int)))))*5)))) 0 (0+(a5 - (Int.toNat (IntKind.wrap .i64 ((Int.tmod (IntKind.wrap .i64 a13) (Int.ofNat a5))+(1 : Int)))))) a6 a7 a8 a9 a10 a11 a12) (F58_1 a0 a1 a2 ((Array.extract ⟨[]⟩ 0 0) ++ (Array.extract a3 (a4+((Int.toNat (IntKind.wrap .i64 ((Int.tmod (IntKind.wrap .i64 a13) (Int.ofNat a5))+(1 : Int))))*5)) ((a4+((Int.toNat (IntKind.wrap .i64 ((Int.tmod (IntKind.wrap .i64 a13) (Int.ofNat a5))+(1 : Int))))*5))+((a5 - (Int.toNat (IntKind.wrap .i64 ((Int.tmod (IntKind.wrap .i64 a13) (Int.ofNat a5))+(1 : Int)))))*5)))) 0 (0+(a5 - (Int.toNat (IntKind.wrap .i64 ((Int.tmod (IntKind.wrap .i64 a13) (Int.ofNat a5))+(1 : Int)))))) a6 a7 a8 a9 a10 a11 a12) (F58_2 a0 a1 a2 ((Array.extract ⟨[]⟩ 0 0) ++ (Array.extract a3 (a4+((Int.toNat (IntKind.wrap .i64 ((Int.tmod (IntKind.wrap .i64 a13) (Int.ofNat a5))+(1 : Int))))*5)) ((a4+((Int.toNat (IntKind.wrap .i64 ((Int.tmod (IntKind.wrap .i64 a13) (Int.ofNat a5))+(1 : Int))))*5))+((a5 - (Int.toNat (IntKind.wrap .i64 ((Int.tmod (IntKind.wrap .i64 a13) (Int.ofNat a5))+(1 : Int)))))*5)))) 0 (0+(a5 - (Int.toNat (IntKind.wrap .i64 ((Int.tmod (IntKind.wrap .i64 a13) (Int.ofNat a5))+(1 : Int)))))) a6 a7 a8 a9 a10 a11 a12) (F58_0 a0 a1 a2 a3 a4 a5 a6 a7 a8 a9 a10 a11 a12) (F58_1 a0 a1 a2 a3 a4 a5 a6 a7 a8 a9 a10 a11 a12) (F58_2 a0 a1 a2 a3 a4 a5 a6 a7 a8 a9 a10 a11 a12))
 (.br (decide ((F29_1 (F58_0 a0 a1 a2 ((Array.extract ⟨[]⟩ 0 0) ++ (Array.extract a3 (a4+((Int.toNat (IntKind.wrap .i64 ((Int.tmod (IntKind.wrap .i64 a13) (Int.ofNat a5))+(1 : Int))))*5)) ((a4+((Int.toNat (IntKind.wrap .i64 ((Int.tmod (IntKind.wrap .i64 a13) (Int.ofNat a5))+(1 : Int))))*5))+((a5 - (Int.toNat (IntKind.wrap .i64 ((Int.tmod (IntKind.wrap .i64 a13) (Int.ofNat a5))+(1 : Int)))))*5)))) 0 (0+(a5 - (Int.toNat (IntKind.wrap .i64 ((Int.tmod (IntKind.wrap .i64 a13) (Int.ofNat a5))+(1 : Int)))))) a6 a7 a8 a9 a10 a11 a12) (F58_1 a0 a1 a2 ((Array.extract ⟨[]⟩ 0 0) ++ (Array.extract a3 (a4+((Int.toNat (IntKind.wrap .i64 ((Int.tmod (IntKind.wrap .i64 a13) (Int.ofNat a5))+(1 : Int))))*5)) ((a4+((Int.toNat (IntKind.wrap .i64 ((Int.tmod (IntKind.wrap .i64 a13) (Int.ofNat a5))+(1 : Int))))*5))+((a5 - (Int.toNat (IntKind.wrap .i64 ((Int.tmod (IntKind.wrap .i64 a13) (Int.ofNat a5))+(1 : Int)))))*5)))) 0 (0+(a5 - (Int.toNat (IntKind.wrap .i64 ((Int.tmod (IntKind.wrap .i64 a13) (Int.ofNat a5))+(1 : Int)))))) a6 a7 a8 a9 a10 a11 a12) (F58_2 a0 a1 a2 ((Array.extract ⟨[]⟩ 0 0) ++ (Array.extract a3 (a4+((Int.toNat (IntKind.wrap .i64 ((Int.tmod (IntKind.wrap .i64 a13) (Int.ofNat a5))+(1 : Int))))*5)) ((a4+((Int.toNat (IntKind.wrap .i64 ((Int.tmod (IntKind.wrap .i64 a13) (Int.ofNat a5))+(1 : Int))))*5))+((a5 - (Int.toNat (IntKind.wrap .i64 ((Int.tmod (IntKind.wrap .i64 a13) (Int.ofNat a5))+(1 : Int)))))*5)))) 0 (0+(a5 - (Int.toNat (IntKind.wrap .i64 ((Int.tmod (IntKind.wrap .i64 a13) (Int.ofNat a5))+(1 : Int)))))) a6 a7 a8 a9 a10 a11 a12) (F58_0 a0 a1 a2 a3 a4 a5 a6 a7 a8 a9 a10 a11 a12) (F58_1 a0 a1 a2 a3 a4 a5 a6 a7 a8 a9 a10 a11 a12) (F58_2 a0 a1 a2 a3 a4 a5 a6 a7 a8 a9 a10 a11 a12)) = (0 : Int)))
 (.br (F29_0 (F58_0 a0 a1 a2 ((Array.extract ⟨[]⟩ 0 0) ++ (Array.extract a3 (a4+((Int.toNat (IntKind.wrap .i64 ((Int.tmod (IntKind.wrap .i64 a13) (Int.ofNat a5))+(1 : Int))))*5)) ((a4+((Int.toNat (IntKind.wrap .i64 ((Int.tmod (IntKind.wrap .i64 a13) (Int.ofNat a5))+(1 : Int))))*5))+((a5 - (Int.toNat (IntKind.wrap .i64 ((Int.tmod (IntKind.wrap .i64 a13) (Int.ofNat a5))+(1 : Int)))))*5)))) 0 (0+(a5 - (Int.toNat (IntKind.wrap .i64 ((Int.tmod (IntKind.wrap .i64 a13) (Int.ofNat a5))+(1 : Int)))))) a6 a7 a8 a9 a10 a11 a12) (F58_1 a0 a1 a2 ((Array.extract ⟨[]⟩ 0 0) ++ (Array.extract a3 (a4+((Int.toNat (IntKind.wrap .i64 ((Int.tmod (IntKind.wrap .i64 a13) (Int.ofNat a5))+(1 : Int))))*5)) ((a4+((Int.toNat (IntKind.wrap .i64 ((Int.tmod (IntKind.wrap .i64 a13) (Int.ofNat a5))+(1 : Int))))*5))+((a5 - (Int.toNat (IntKind.wrap .i64 ((Int.tmod (IntKind.wrap .i64 a13) (Int.ofNat a5))+(1 : Int)))))*5)))) 0 (0+(a5 - (Int.toNat (IntKind.wrap .i64 ((Int.tmod (IntKind.wrap .i64 a13) (Int.ofNat a5))+(1 : Int)))))) a6 a7 a8 a9 a10 a11 a12) (F58_2 a0 a1 a2 ((Array.extract ⟨[]⟩ 0 0) ++ (Array.extract a3 (a4+((Int.toNat (IntKind.wrap .i64 ((Int.tmod (IntKind.wrap .i64 a13) (Int.ofNat a5))+(1 : Int))))*5)) ((a4+((Int.toNat (IntKind.wrap .i64 ((Int.tmod (IntKind.wrap .i64 a13) (Int.ofNat a5))+(1 : Int))))*5))+((a5 - (Int.toNat (IntKind.wrap .i64 ((Int.tmod (IntKind.wrap .i64 a13) (Int.ofNat a5))+(1 : Int)))))*5)))) 0 (0+(a5 - (Int.toNat (IntKind.wrap .i64 ((Int.tmod (IntKind.wrap .i64 a13) (Int.ofNat a5))+(1 : Int)))))) a6 a7 a8 a9 a10 a11 a12) (F58_0 a0 a1 a2 a3 a4 a5 a6 a7 a8 a9 a10 a11 a12) (F58_1 a0 a1 a2 a3 a4 a5 a6 a7 a8 a9 a10 a11 a12) (F58_2 a0 a1 a2 a3 a4 a5 a6 a7 a8 a9 a10 a11 a12))
 (.leaf ⟨true⟩)
 (.leaf ⟨false⟩))
 (.leaf ⟨false⟩))
 (.no)))
 (.no))
 (.no))
 (.no))
 (.no))
 (.no))
 (.no))
 (.no))
 (.no))
 (.no))
 (.no))
 (.no)))
 (.no))
 (.br (decide (((a4+0)+(((Int.toNat (Int.tmod (IntKind.wrap .i64 a13) (Int.ofNat a5))) - 0)*5)) ≤ (Array.size a3)))
 (.br (and (decide ((Array.size (Array.extract a3 (a4+0) ((a4+0)+(((Int.toNat (Int.tmod (IntKind.wrap .i64 a13) (Int.ofNat a5))) - 0)*5)))) = (((Int.toNat (Int.tmod (IntKind.wrap .i64 a13) (Int.ofNat a5))) - 0)*5))) (and (oneAll (Array.extract a3 (a4+0) ((a4+0)+(((Int.toNat (Int.tmod (IntKind.wrap .i64 a13) (Int.ofNat a5))) - 0)*5)))) true))
 (.br (and (decide (((0+((Int.toNat (Int.tmod (IntKind.wrap .i64 a13) (Int.ofNat a5))) - 0))*40) ≤ 140737488355328)) (decide ((0+((Int.toNat (Int.tmod (IntKind.wrap .i64 a13) (Int.ofNat a5))) - 0)) ≤ 4611686018427387904)))
 (.br (and (decide ((0 : Int) ≤ (IntKind.wrap .i64 ((Int.tmod (IntKind.wrap .i64 a13) (Int.ofNat a5))+(1 : Int))))) (and true (and (decide ((Int.toNat (IntKind.wrap .i64 ((Int.tmod (IntKind.wrap .i64 a13) (Int.ofNat a5))+(1 : Int)))) ≤ a5)) (decide (a5 ≤ a5)))))
 (.br (decide ((a5 - (Int.toNat (IntKind.wrap .i64 ((Int.tmod (IntKind.wrap .i64 a13) (Int.ofNat a5))+(1 : Int))))) = 0))
 (.br (and (arrEq a3 a3) (and true (and (decide (a4 = a4)) (and (decide (a5 = a5)) true))))
 (.br (and (arrEq a3 a3) (and true (and (decide (a4 = a4)) (and (decide (a5 = a5)) true))))
 (.br (and (arrEq a3 a3) (and true (and (decide (a4 = a4)) (and (decide (a5 = a5)) true))))
 (.br (and (arrEq a3 a3) (and true (and (decide (a4 = a4)) (and (decide (a5 = a5)) true))))
 (.br (and (arrEq a3 a3) (and true (and (decide (a4 = a4)) (and (decide (a5 = a5)) true))))
 (.br (and (arrEq a3 a3) (and true (and (decide (a4 = a4)) (and (decide (a5 = a5)) true))))
 (.br (and (and true (and (and (allFz ((Array.extract ⟨[]⟩ 0 0) ++ (Array.extract a3 (a4+0) ((a4+0)+(((Int.toNat (Int.tmod (IntKind.wrap .i64 a13) (Int.ofNat a5))) - 0)*5))))) (decide ((0+((0+((Int.toNat (Int.tmod (IntKind.wrap .i64 a13) (Int.ofNat a5))) - 0))*5)) ≤ (Array.size ((Array.extract ⟨[]⟩ 0 0) ++ (Array.extract a3 (a4+0) ((a4+0)+(((Int.toNat (Int.tmod (IntKind.wrap .i64 a13) (Int.ofNat a5))) - 0)*5)))))))) true)) true)
 (.br (F58_ok a0 a1 a2 ((Array.extract ⟨[]⟩ 0 0) ++ (Array.extract a3 (a4+0) ((a4+0)+(((Int.toNat (Int.tmod (IntKind.wrap .i64 a13) (Int.ofNat a5))) - 0)*5)))) 0 (0+((Int.toNat (Int.tmod (IntKind.wrap .i64 a13) (Int.ofNat a5))) - 0)) a6 a7 a8 a9 a10 a11 a12)
 (.br (not (F58_3 a0 a1 a2 ((Array.extract ⟨[]⟩ 0 0) ++ (Array.extract a3 (a4+0) ((a4+0)+(((Int.toNat (Int.tmod (IntKind.wrap .i64 a13) (Int.ofNat a5))) - 0)*5)))) 0 (0+((Int.toNat (Int.tmod (IntKind.wrap .i64 a13) (Int.ofNat a5))) - 0)) a6 a7 a8 a9 a10 a11 a12))
 (.leaf ⟨false⟩)
 (.br (F29_ok (F58_0 a0 a1 a2 ((Array.extract ⟨[]⟩ 0 0) ++ (Array.extract a3 (a4+0) ((a4+0)+(((Int.toNat (Int.tmod (IntKind.wrap .i64 a13) (Int.ofNat a5))) - 0)*5)))) 0 (0+((Int.toNat (Int.tmod (IntKind.wrap .i64 a13) (Int.ofNat a5))) - 0)) a6 a7 a8 a9 a10 a11 a12) (F58_1 a0 a1 a2 ((Array.extract ⟨[]⟩ 0 0) ++ (Array.extract a3 (a4+0) ((a4+0)+(((Int.toNat (Int.tmod (IntKind.wrap .i64 a13) (Int.ofNat a5))) - 0)*5)))) 0 (0+((Int.toNat (Int.tmod (IntKind.wrap .i64 a13) (Int.ofNat a5))) - 0)) a6 a7 a8 a9 a10 a11 a12) (F58_2 a0 a1 a2 ((Array.extract ⟨[]⟩ 0 0) ++ (Array.extract a3 (a4+0) ((a4+0)+(((Int.toNat (Int.tmod (IntKind.wrap .i64 a13) (Int.ofNat a5))) - 0)*5)))) 0 (0+((Int.toNat (Int.tmod (IntKind.wrap .i64 a13) (Int.ofNat a5))) - 0)) a6 a7 a8 a9 a10 a11 a12) (F58_0 a0 a1 a2 a3 a4 a5 a6 a7 a8 a9 a10 a11 a12) (F58_1 a0 a1 a2 a3 a4 a5 a6 a7 a8 a9 a10 a11 a12) (F58_2 a0 a1 a2 a3 a4 a5 a6 a7 a8 a9 a10 a11 a12))
 (.br (decide ((F29_1 (F58_0 a0 a1 a2 ((Array.extract ⟨[]⟩ 0 0) ++ (Array.extract a3 (a4+0) ((a4+0)+(((Int.toNat (Int.tmod (IntKind.wrap .i64 a13) (Int.ofNat a5))) - 0)*5)))) 0 (0+((Int.toNat (Int.tmod (IntKind.wrap .i64 a13) (Int.ofNat a5))) - 0)) a6 a7 a8 a9 a10 a11 a12) (F58_1 a0 a1 a2 ((Array.extract ⟨[]⟩ 0 0) ++ (Array.extract a3 (a4+0) ((a4+0)+(((Int.toNat (Int.tmod (IntKind.wrap .i64 a13) (Int.ofNat a5))) - 0)*5)))) 0 (0+((Int.toNat (Int.tmod (IntKind.wrap .i64 a13) (Int.ofNat a5))) - 0)) a6 a7 a8 a9 a10 a11 a12) (F58_2 a0 a1 a2 ((Array.extract ⟨[]⟩ 0 0) ++ (Array.extract a3 (a4+0) ((a4+0)+(((Int.toNat (Int.tmod (IntKind.wrap .i64 a13) (Int.ofNat a5))) - 0)*5)))) 0 (0+((Int.toNat (Int.tmod (IntKind.wrap .i64 a13) (Int.ofNat a5))) - 0)) a6 a7 a8 a9 a10 a11 a12) (F58_0 a0 a1 a2 a3 a4 a5 a6 a7 a8 a9 a10 a11 a12) (F58_1 a0 a1 a2 a3 a4 a5 a6 a7 a8 a9 a10 a11 a12) (F58_2 a0 a1 a2 a3 a4 a5 a6 a7 a8 a9 a10 a11 a12)) = (0 : Int)))
 (.br (F29_0 (F58_0 a0 a1 a2 ((Array.extract ⟨[]⟩ 0 0) ++ (Array.extract a3 (a4+0) ((a4+0)+(((Int.toNat (Int.tmod (IntKind.wrap .i64 a13) (Int.ofNat a5))) - 0)*5)))) 0 (0+((Int.toNat (Int.tmod (IntKind.wrap .i64 a13) (Int.ofNat a5))) - 0)) a6 a7 a8 a9 a10 a11 a12) (F58_1 a0 a1 a2 ((Array.extract ⟨[]⟩ 0 0) ++ (Array.extract a3 (a4+0) ((a4+0)+(((Int.toNat (Int.tmod (IntKind.wrap .i64 a13) (Int.ofNat a5))) - 0)*5)))) 0 (0+((Int.toNat (Int.tmod (IntKind.wrap .i64 a13) (Int.ofNat a5))) - 0)) a6 a7 a8 a9 a10 a11 a12) (F58_2 a0 a1 a2 ((Array.extract ⟨[]⟩ 0 0) ++ (Array.extract a3 (a4+0) ((a4+0)+(((Int.toNat (Int.tmod (IntKind.wrap .i64 a13) (Int.ofNat a5))) - 0)*5)))) 0 (0+((Int.toNat (Int.tmod (IntKind.wrap .i64 a13) (Int.ofNat a5))) - 0)) a6 a7 a8 a9 a10 a11 a12) (F58_0 a0 a1 a2 a3 a4 a5 a6 a7 a8 a9 a10 a11 a12) (F58_1 a0 a1 a2 a3 a4 a5 a6 a7 a8 a9 a10 a11 a12) (F58_2 a0 a1 a2 a3 a4 a5 a6 a7 a8 a9 a10 a11 a12))
 (.leaf ⟨true⟩)
 (.leaf ⟨false⟩))
 (.leaf ⟨false⟩))
 (.no)))
 (.no))
 (.no))
 (.no))
 (.no))
 (.no))
 (.no))
 (.no))
 (.no))
 (.br (decide (((a4+((Int.toNat (IntKind.wrap .i64 ((Int.tmod (IntKind.wrap .i64 a13) (Int.ofNat a5))+(1 : Int))))*5))+((a5 - (Int.toNat (IntKind.wrap .i64 ((Int.tmod (IntKind.wrap .i64 a13) (Int.ofNat a5))+(1 : Int)))))*5)) ≤ (Array.size a3)))
 (.br (and (decide ((Array.size (Array.extract a3 (a4+((Int.toNat (IntKind.wrap .i64 ((Int.tmod (IntKind.wrap .i64 a13) (Int.ofNat a5))+(1 : Int))))*5)) ((a4+((Int.toNat (IntKind.wrap .i64 ((Int.tmod (IntKind.wrap .i64 a13) (Int.ofNat a5))+(1 : Int))))*5))+((a5 - (Int.toNat (IntKind.wrap .i64 ((Int.tmod (IntKind.wrap .i64 a13) (Int.ofNat a5))+(1 : Int)))))*5)))) = ((a5 - (Int.toNat (IntKind.wrap .i64 ((Int.tmod (IntKind.wrap .i64 a13) (Int.ofNat a5))+(1 : Int)))))*5))) (and (oneAll (Array.extract a3 (a4+((Int.toNat (IntKind.wrap .i64 ((Int.tmod (IntKind.wrap .i64 a13) (Int.ofNat a5))+(1 : Int))))*5)) ((a4+((Int.toNat (IntKind.wrap .i64 ((Int.tmod (IntKind.wrap .i64 a13) (Int.ofNat a5))+(1 : Int))))*5))+((a5 - (Int.toNat (IntKind.wrap .i64 ((Int.tmod (IntKind.wrap .i64 a13) (Int.ofNat a5))+(1 : Int)))))*5)))) true))
 (.br (and (decide ((((0+((Int.toNat (Int.tmod (IntKind.wrap .i64 a13) (Int.ofNat a5))) - 0))+(a5 - (Int.toNat (IntKind.wrap .i64 ((Int.tmod (IntKind.wrap .i64 a13) (Int.ofNat a5))+(1 : Int))))))*40) ≤ 140737488355328)) (decide (((0+((Int.toNat (Int.tmod (IntKind.wrap .i64 a13) (Int.ofNat a5))) - 0))+(a5 - (Int.toNat (IntKind.wrap .i64 ((Int.tmod (IntKind.wrap .i64 a13) (Int.ofNat a5))+(1 : Int)))))) ≤ 4611686018427387904)))
 (.br (decide ((0+((0+((Int.toNat (Int.tmod (IntKind.wrap .i64 a13) (Int.ofNat a5))) - 0))*5)) ≤ (Array.size ((Array.extract ⟨[]⟩ 0 0) ++ (Array.extract a3 (a4+0) ((a4+0)+(((Int.toNat (Int.tmod (IntKind.wrap .i64 a13) (Int.ofNat a5))) - 0)*5)))))))
 (.br (and (arrEq a3 a3) (and true (and (decide (a4 = a4)) (and (decide (a5 = a5)) true))))
 (.br (and (arrEq a3 a3) (and true (and (decide (a4 = a4)) (and (decide (a5 = a5)) true))))
 (.br (and (arrEq a3 a3) (and true (and (decide (a4 = a4)) (and (decide (a5 = a5)) true))))
 (.br (and (arrEq a3 a3) (and true (and (decide (a4 = a4)) (and (decide (a5 = a5)) true))))
 (.br (and (arrEq a3 a3) (and true (and (decide (a4 = a4)) (and (decide (a5 = a5)) true))))
 (.br (and (arrEq a3 a3) (and true (and (decide (a4 = a4)) (and (decide (a5 = a5)) true))))
 (.br (and (and true (and (and (allFz ((Array.extract ((Array.extract ⟨[]⟩ 0 0) ++ (Array.extract a3 (a4+0) ((a4+0)+(((Int.toNat (Int.tmod (IntKind.wrap .i64 a13) (Int.ofNat a5))) - 0)*5)))) 0 (0+((0+((Int.toNat (Int.tmod (IntKind.wrap .i64 a13) (Int.ofNat a5))) - 0))*5))) ++ (Array.extract a3 (a4+((Int.toNat (IntKind.wrap .i64 ((Int.tmod (IntKind.wrap .i64 a13) (Int.ofNat a5))+(1 : Int))))*5)) ((a4+((Int.toNat (IntKind.wrap .i64 ((Int.tmod (IntKind.wrap .i64 a13) (Int.ofNat a5))+(1 : Int))))*5))+((a5 - (Int.toNat (IntKind.wrap .i64 ((Int.tmod (IntKind.wrap .i64 a13) (Int.ofNat a5))+(1 : Int)))))*5))))) (decide ((0+(((0+((Int.toNat (Int.tmod (IntKind.wrap .i64 a13) (Int.ofNat a5))) - 0))+(a5 - (Int.toNat (IntKind.wrap .i64 ((Int.tmod (IntKind.wrap .i64 a13) (Int.ofNat a5))+(1 : Int))))))*5)) ≤ (Array.size ((Array.extract ((Array.extract ⟨[]⟩ 0 0) ++ (Array.extract a3 (a4+0) ((a4+0)+(((Int.toNat (Int.tmod (IntKind.wrap .i64 a13) (Int.ofNat a5))) - 0)*5)))) 0 (0+((0+((Int.toNat (Int.tmod (IntKind.wrap .i64 a13) (Int.ofNat a5))) - 0))*5))) ++ (Array.extract a3 (a4+((Int.toNat (IntKind.wrap .i64 ((Int.tmod (IntKind.wrap .i64 a13) (Int.ofNat a5))+(1 : Int))))*5)) ((a4+((Int.toNat (IntKind.wrap .i64 ((Int.tmod (IntKind.wrap .i64 a13) (Int.ofNat a5))+(1 : Int))))*5))+((a5 - (Int.toNat (IntKind.wrap .i64 ((Int.tmod (IntKind.wrap .i64 a13) (Int.ofNat a5))+(1 : Int)))))*5)))))))) true)) true)
 (.br (F58_ok a0 a1 a2 ((Array.extract ((Array.extract ⟨[]⟩ 0 0) ++ (Array.extract a3 (a4+0) ((a4+0)+(((Int.toNat (Int.tmod (IntKind.wrap .i64 a13) (Int.ofNat a5))) - 0)*5)))) 0 (0+((0+((Int.toNat (Int.tmod (IntKind.wrap .i64 a13) (Int.ofNat a5))) - 0))*5))) ++ (Array.extract a3 (a4+((Int.toNat (IntKind.wrap .i64 ((Int.tmod (IntKind.wrap .i64 a13) (Int.ofNat a5))+(1 : Int))))*5)) ((a4+((Int.toNat (IntKind.wrap .i64 ((Int.tmod (IntKind.wrap .i64 a13) (Int.ofNat a5))+(1 : Int))))*5))+((a5 - (Int.toNat (IntKind.wrap .i64 ((Int.tmod (IntKind.wrap .i64 a13) (Int.ofNat a5))+(1 : Int)))))*5)))) 0 ((0+((Int.toNat (Int.tmod (IntKind.wrap .i64 a13) (Int.ofNat a5))) - 0))+(a5 - (Int.toNat (IntKind.wrap .i64 ((Int.tmod (IntKind.wrap .i64 a13) (Int.ofNat a5))+(1 : Int)))))) a6 a7 a8 a9 a10 a11 a12)
 (.br (not (F58_3 a0 a1 a2 ((Array.extract ((Array.extract ⟨[]⟩ 0 0) ++ (Array.extract a3 (a4+0) ((a4+0)+(((Int.toNat (Int.tmod (IntKind.wrap .i64 a13) (Int.ofNat a5))) - 0)*5)))) 0 (0+((0+((Int.toNat (Int.tmod (IntKind.wrap .i64 a13) (Int.ofNat a5))) - 0))*5))) ++ (Array.extract a3 (a4+((Int.toNat (IntKind.wrap .i64 ((Int.tmod (IntKind.wrap .i64 a13) (Int.ofNat a5))+(1 : Int))))*5)) ((a4+((Int.toNat (IntKind.wrap .i64 ((Int.tmod (IntKind.wrap .i64 a13) (Int.ofNat a5))+(1 : Int))))*5))+((a5 - (Int.toNat (IntKind.wrap .i64 ((Int.tmod (IntKind.wrap .i64 a13) (Int.ofNat a5))+(1 : Int)))))*5)))) 0 ((0+((Int.toNat (Int.tmod (IntKind.wrap .i64 a13) (Int.ofNat a5))) - 0))+(a5 - (Int.toNat (IntKind.wrap .i64 ((Int.tmod (IntKind.wrap .i64 a13) (Int.ofNat a5))+(1 : Int)))))) a6 a7 a8 a9 a10 a11 a12))
 (.leaf ⟨false⟩)
 (.br (F29_ok (F58_0 a0 a1 a2 ((Array.extract ((Array.extract ⟨[]⟩ 0 0) ++ (Array.extract a3 (a4+0) ((a4+0)+(((Int.toNat (Int.tmod (IntKind.wrap .i64 a13) (Int.ofNat a5))) - 0)*5)))) 0 (0+((0+((Int.toNat (Int.tmod (IntKind.wrap .i64 a13) (Int.ofNat a5))) - 0))*5))) ++ (Array.extract a3 (a4+((Int.toNat (IntKind.wrap .i64 ((Int.tmod (IntKind.wrap .i64 a13) (Int.ofNat a5))+(1 : Int))))*5)) ((a4+((Int.toNat (IntKind.wrap .i64 ((Int.tmod (IntKind.wrap .i64 a13) (Int.ofNat a5))+(1 : Int))))*5))+((a5 - (Int.toNat (IntKind.wrap .i64 ((Int.tmod (IntKind.wrap .i64 a13) (Int.ofNat a5))+(1 : Int)))))*5)))) 0 ((0+((Int.toNat (Int.tmod (IntKind.wrap .i64 a13) (Int.ofNat a5))) - 0))+(a5 - (Int.toNat (IntKind.wrap .i64 ((Int.tmod (IntKind.wrap .i64 a13) (Int.ofNat a5))+(1 : Int)))))) a6 a7 a8 a9 a10 a11 a12) (F58_1 a0 a1 a2 ((Array.extract ((Array.extract ⟨[]⟩ 0 0) ++ (Array.extract a3 (a4+0) ((a4+0)+(((Int.toNat (Int.tmod (IntKind.wrap .i64 a13) (Int.ofNat a5))) - 0)*5)))) 0 (0+((0+((Int.toNat (Int.tmod (IntKind.wrap .i64 a13) (Int.ofNat a5))) - 0))*5))) ++ (Array.extract a3 (a4+((Int.toNat (IntKind.wrap .i64 ((Int.tmod (IntKind.wrap .i64 a13) (Int.ofNat a5))+(1 : Int))))*5)) ((a4+((Int.toNat (IntKind.wrap .i64 ((Int.tmod (IntKind.wrap .i64 a13) (Int.ofNat a5))+(1 : Int))))*5))+((a5 - (Int.toNat (IntKind.wrap .i64 ((Int.tmod (IntKind.wrap .i64 a13) (Int.ofNat a5))+(1 : Int)))))*5)))) 0 ((0+((Int.toNat (Int.tmod (IntKind.wrap .i64 a13) (Int.ofNat a5))) - 0))+(a5 - (Int.toNat (IntKind.wrap .i64 ((Int.tmod (IntKind.wrap .i64 a13) (Int.ofNat a5))+(1 : Int)))))) a6 a7 a8 a9 a10 a11 a12) (F58_2 a0 a1 a2 ((Array.extract ((Array.extract ⟨[]⟩ 0 0) ++ (Array.extract a3 (a4+0) ((a4+0)+(((Int.toNat (Int.tmod (IntKind.wrap .i64 a13) (Int.ofNat a5))) - 0)*5)))) 0 (0+((0+((Int.toNat (Int.tmod (IntKind.wrap .i64 a13) (Int.ofNat a5))) - 0))*5))) ++ (Array.extract a3 (a4+((Int.toNat (IntKind.wrap .i64 ((Int.tmod (IntKind.wrap .i64 a13) (Int.ofNat a5))+(1 : Int))))*5)) ((a4+((Int.toNat (IntKind.wrap .i64 ((Int.tmod (IntKind.wrap .i64 a13) (Int.ofNat a5))+(1 : Int))))*5))+((a5 - (Int.toNat (IntKind.wrap .i64 ((Int.tmod (IntKind.wrap .i64 a13) (Int.ofNat a5))+(1 : Int)))))*5)))) 0 ((0+((Int.toNat (Int.tmod (IntKind.wrap .i64 a13) (Int.ofNat a5))) - 0))+(a5 - (Int.toNat (IntKind.wrap .i64 ((Int.tmod (IntKind.wrap .i64 a13) (Int.ofNat a5))+(1 : Int)))))) a6 a7 a8 a9 a10 a11 a12) (F58_0 a0 a1 a2 a3 a4 a5 a6 a7 a8 a9 a10 a11 a12) (F58_1 a0 a1 a2 a3 a4 a5 a6 a7 a8 a9 a10 a11 a12) (F58_2 a0 a1 a2 a3 a4 a5 a6 a7 a8 a9 a10 a11 a12))
 (.br (decide ((F29_1 (F58_0 a0 a1 a2 ((Array.extract ((Array.extract ⟨[]⟩ 0 0) ++ (Array.extract a3 (a4+0) ((a4+0)+(((Int.toNat (Int.tmod (IntKind.wrap .i64 a13) (Int.ofNat a5))) - 0)*5)))) 0 (0+((0+((Int.toNat (Int.tmod (IntKind.wrap .i64 a13) (Int.ofNat a5))) - 0))*5))) ++ (Array.extract a3 (a4+((Int.toNat (IntKind.wrap .i64 ((Int.tmod (IntKind.wrap .i64 a13) (Int.ofNat a5))+(1 : Int))))*5)) ((a4+((Int.toNat (IntKind.wrap .i64 ((Int.tmod (IntKind.wrap .i64 a13) (Int.ofNat a5))+(1 : Int))))*5))+((a5 - (Int.toNat (IntKind.wrap .i64 ((Int.tmod (IntKind.wrap .i64 a13) (Int.ofNat a5))+(1 : Int)))))*5)))) 0 ((0+((Int.toNat (Int.tmod (IntKind.wrap .i64 a13) (Int.ofNat a5))) - 0))+(a5 - (Int.toNat (IntKind.wrap .i64 ((Int.tmod (IntKind.wrap .i64 a13) (Int.ofNat a5))+(1 : Int)))))) a6 a7 a8 a9 a10 a11 a12) (F58_1 a0 a1 a2 ((Array.extract ((Array.extract ⟨[]⟩ 0 0) ++ (Array.extract a3 (a4+0) ((a4+0)+(((Int.toNat (Int.tmod (IntKind.wrap .i64 a13) (Int.ofNat a5))) - 0)*5)))) 0 (0+((0+((Int.toNat (Int.tmod (IntKind.wrap .i64 a13) (Int.ofNat a5))) - 0))*5))) ++ (Array.extract a3 (a4+((Int.toNat (IntKind.wrap .i64 ((Int.tmod (IntKind.wrap .i64 a13) (Int.ofNat a5))+(1 : Int))))*5)) ((a4+((Int.toNat (IntKind.wrap .i64 ((Int.tmod (IntKind.wrap .i64 a13) (Int.ofNat a5))+(1 : Int))))*5))+((a5 - (Int.toNat (IntKind.wrap .i64 ((Int.tmod (IntKind.wrap .i64 a13) (Int.ofNat a5))+(1 : Int)))))*5)))) 0 ((0+((Int.toNat (Int.tmod (IntKind.wrap .i64 a13) (Int.ofNat a5))) - 0))+(a5 - (Int.toNat (IntKind.wrap .i64 ((Int.tmod (IntKind.wrap .i64 a13) (Int.ofNat a5))+(1 : Int)))))) a6 a7 a8 a9 a10 a11 a12) (F58_2 a0 a1 a2 ((Array.extract ((Array.extract ⟨[]⟩ 0 0) ++ (Array.extract a3 (a4+0) ((a4+0)+(((Int.toNat (Int.tmod (IntKind.wrap .i64 a13) (Int.ofNat a5))) - 0)*5)))) 0 (0+((0+((Int.toNat (Int.tmod (IntKind.wrap .i64 a13) (Int.ofNat a5))) - 0))*5))) ++ (Array.extract a3 (a4+((Int.toNat (IntKind.wrap .i64 ((Int.tmod (IntKind.wrap .i64 a13) (Int.ofNat a5))+(1 : Int))))*5)) ((a4+((Int.toNat (IntKind.wrap .i64 ((Int.tmod (IntKind.wrap .i64 a13) (Int.ofNat a5))+(1 : Int))))*5))+((a5 - (Int.toNat (IntKind.wrap .i64 ((Int.tmod (IntKind.wrap .i64 a13) (Int.ofNat a5))+(1 : Int)))))*5)))) 0 ((0+((Int.toNat (Int.tmod (IntKind.wrap .i64 a13) (Int.ofNat a5))) - 0))+(a5 - (Int.toNat (IntKind.wrap .i64 ((Int.tmod (IntKind.wrap .i64 a13) (Int.ofNat a5))+(1 : Int)))))) a6 a7 a8 a9 a10 a11 a12) (F58_0 a0 a1 a2 a3 a4 a5 a6 a7 a8 a9 a10 a11 a12) (F58_1 a0 a1 a2 a3 a4 a5 a6 a7 a8 a9 a10 a11 a12) (F58_2 a0 a1 a2 a3 a4 a5 a6 a7 a8 a9 a10 a11 a12)) = (0 : Int)))
 (.br (F29_0 (F58_0 a0 a1 a2 ((Array.extract ((Array.extract ⟨[]⟩ 0 0) ++ (Array.extract a3 (a4+0) ((a4+0)+(((Int.toNat (Int.tmod (IntKind.wrap .i64 a13) (Int.ofNat a5))) - 0)*5)))) 0 (0+((0+((Int.toNat (Int.tmod (IntKind.wrap .i64 a13) (Int.ofNat a5))) - 0))*5))) ++ (Array.extract a3 (a4+((Int.toNat (IntKind.wrap .i64 ((Int.tmod (IntKind.wrap .i64 a13) (Int.ofNat a5))+(1 : Int))))*5)) ((a4+((Int.toNat (IntKind.wrap .i64 ((Int.tmod (IntKind.wrap .i64 a13) (Int.ofNat a5))+(1 : Int))))*5))+((a5 - (Int.toNat (IntKind.wrap .i64 ((Int.tmod (IntKind.wrap .i64 a13) (Int.ofNat a5))+(1 : Int)))))*5)))) 0 ((0+((Int.toNat (Int.tmod (IntKind.wrap .i64 a13) (Int.ofNat a5))) - 0))+(a5 - (Int.toNat (IntKind.wrap .i64 ((Int.tmod (IntKind.wrap .i64 a13) (Int.ofNat a5))+(1 : Int)))))) a6 a7 a8 a9 a10 a11 a12) (F58_1 a0 a1 a2 ((Array.extract ((Array.extract ⟨[]⟩ 0 0) ++ (Array.extract a3 (a4+0) ((a4+0)+(((Int.toNat (Int.tmod (IntKind.wrap .i64 a13) (Int.ofNat a5))) - 0)*5)))) 0 (0+((0+((Int.toNat (Int.tmod (IntKind.wrap .i64 a13) (Int.ofNat a5))) - 0))*5))) ++ (Array.extract a3 (a4+((Int.toNat (IntKind.wrap .i64 ((Int.tmod (IntKind.wrap .i64 a13) (Int.ofNat a5))+(1 : Int))))*5)) ((a4+((Int.toNat (IntKind.wrap .i64 ((Int.tmod (IntKind.wrap .i64 a13) (Int.ofNat a5))+(1 : Int))))*5))+((a5 - (Int.toNat (IntKind.wrap .i64 ((Int.tmod (IntKind.wrap .i64 a13) (Int.ofNat a5))+(1 : Int)))))*5)))) 0 ((0+((Int.toNat (Int.tmod (IntKind.wrap .i64 a13) (Int.ofNat a5))) - 0))+(a5 - (Int.toNat (IntKind.wrap .i64 ((Int.tmod (IntKind.wrap .i64 a13) (Int.ofNat a5))+(1 : Int)))))) a6 a7 a8 a9 a10 a11 a12) (F58_2 a0 a1 a2 ((Array.extract ((Array.extract ⟨[]⟩ 0 0) ++ (Array.extract a3 (a4+0) ((a4+0)+(((Int.toNat (Int.tmod (IntKind.wrap .i64 a13) (Int.ofNat a5))) - 0)*5)))) 0 (0+((0+((Int.toNat (Int.tmod (IntKind.wrap .i64 a13) (Int.ofNat a5))) - 0))*5))) ++ (Array.extract a3 (a4+((Int.toNat (IntKind.wrap .i64 ((Int.tmod (IntKind.wrap .i64 a13) (Int.ofNat a5))+(1 : Int))))*5)) ((a4+((Int.toNat (IntKind.wrap .i64 ((Int.tmod (IntKind.wrap .i64 a13) (Int.ofNat a5))+(1 : Int))))*5))+((a5 - (Int.toNat (IntKind.wrap .i64 ((Int.tmod (IntKind.wrap .i64 a13) (Int.ofNat a5))+(1 : Int)))))*5)))) 0 ((0+((Int.toNat (Int.tmod (IntKind.wrap .i64 a13) (Int.ofNat a5))) - 0))+(a5 - (Int.toNat (IntKind.wrap .i64 ((Int.tmod (IntKind.wrap .i64 a13) (Int.ofNat a5))+(1 : Int)))))) a6 a7 a8 a9 a10 a11 a12) (F58_0 a0 a1 a2 a3 a4 a5 a6 a7 a8 a9 a10 a11 a12) (F58_1 a0 a1 a2 a3 a4 a5 a6 a7 a8 a9 a10 a11 a12) (F58_2 a0 a1 a2 a3 a4 a5 a6 a7 a8 a9 a10 a11 a12))
 (.leaf ⟨true⟩)
 (.leaf ⟨false⟩))
 (.leaf ⟨false⟩))
 (.no)))
 (.no))
 (.no))
 (.no))
 (.no))
 (.no))
 (.no))
 (.no))
 (.no))
 (.no))
 (.no))
 (.no))
 (.no)))
 (.no))
 (.no))
 (.no))
 (.no)))
 (.no))
 (.no))))
 (.no)
noncomputable def en15 (r:R15) : Value:=(.bool r.r0)
theorem T15  (a0 : Array Value) (a1 a2:Nat) (a3 : Array Value) (a4 a5:Nat) (a6 : Array Value) (a7 a8:Nat) (a9 a10:Int) (a11 a12 a13:Int) : evC Try.prog (Ans.c (p24V.or (p29.or (p58.or (thawK 58 [[7,5,1,0,0],[0],[0]] p58))))) 60 (.call 15 ⟨[(.agg ⟨[(lstV a0 a1 a2 7),(lstV a3 a4 a5 5),(lstV a6 a7 a8 1),(.int .i64 a9),(.int .i64 a10)]⟩),(.agg ⟨[(.int .i64 a11),(.int .i64 a12)]⟩),(.int .u8 a13)]⟩ ⟨[],0,[]⟩) (frzK [0]) = (rt15 a0 a1 a2 a3 a4 a5 a6 a7 a8 a9 a10 a11 a12 a13).out (fun r=>.ret (en15 r) ⟨[],0,[]⟩):=by kernel_rfl
noncomputable def F15 (a0 : Array Value) (a1 a2:Nat) (a3 : Array Value) (a4 a5:Nat) (a6 : Array Value) (a7 a8:Nat) (a9 a10:Int) (a11 a12 a13:Int) : Option R15:=(rt15 a0 a1 a2 a3 a4 a5 a6 a7 a8 a9 a10 a11 a12 a13).val
section
variable (a0 : Array Value) (a1 a2:Nat) (a3 : Array Value) (a4 a5:Nat) (a6 : Array Value) (a7 a8:Nat) (a9 a10:Int) (a11 a12 a13:Int)
noncomputable def F15_ok : Bool:=(F15 a0 a1 a2 a3 a4 a5 a6 a7 a8 a9 a10 a11 a12 a13).isSome
noncomputable def F15_0 : Bool:=match F15 a0 a1 a2 a3 a4 a5 a6 a7 a8 a9 a10 a11 a12 a13 with | some r=>r.r0 | none=>false
end
noncomputable def dec15 : Task → Option (A15 × Hp)
  | .call g ⟨[(.agg ⟨[(.func (.via 0 ⟨[]⟩ 0 true) a0 ⟨[.slice (some ⟨0,a1,none⟩) a2 7]⟩),(.func (.via 0 ⟨[]⟩ 0 true) a3 ⟨[.slice (some ⟨0,a4,none⟩) a5 5]⟩),(.func (.via 0 ⟨[]⟩ 0 true) a6 ⟨[.slice (some ⟨0,a7,none⟩) a8 1]⟩),(.int .i64 a9),(.int .i64 a10)]⟩),(.agg ⟨[(.int .i64 a11),(.int .i64 a12)]⟩),(.int .u8 a13)]⟩ h=>(match Nat.beq g 15 with | true=>some (⟨a0,a1,a2,a3,a4,a5,a6,a7,a8,a9,a10,a11,a12,a13⟩,h) | false=>none)
  | _=>none
noncomputable def alt15 (x:A15) (h:Hp) : AT:=.br (F15_ok x.a0 x.a1 x.a2 x.a3 x.a4 x.a5 x.a6 x.a7 x.a8 x.a9 x.a10 x.a11 x.a12 x.a13) (.leaf (.ret (.bool (F15_0 x.a0 x.a1 x.a2 x.a3 x.a4 x.a5 x.a6 x.a7 x.a8 x.a9 x.a10 x.a11 x.a12 x.a13)) h)) .no
noncomputable def p15 : Ans:=fnAns dec15 alt15
theorem ha15 : ∀ (x:A15) (h:Hp) (o:Out),(alt15 x h).out = some o → ∃ r,(rt15 x.a0 x.a1 x.a2 x.a3 x.a4 x.a5 x.a6 x.a7 x.a8 x.a9 x.a10 x.a11 x.a12 x.a13).val = some r ∧ o = .ret (en15 r) h:=by
  intro x h o e
  unfold alt15 at e
  cases hF : F15 x.a0 x.a1 x.a2 x.a3 x.a4 x.a5 x.a6 x.a7 x.a8 x.a9 x.a10 x.a11 x.a12 x.a13 with
  | none=>simp [F15_ok,hF,AT.out] at e
  | some r =>
    refine ⟨r,hF,?_⟩
    simp only [F15_ok,F15_0,hF,AT.out,Option.isSome_some,cond_true,Option.some.injEq] at e
    rw [← e]; rfl
theorem hd15 : ∀ (t:Task) (x:A15) (h:Hp),dec15 t = some (x,h) → t = .call 15 ⟨[(.agg ⟨[(lstV x.a0 x.a1 x.a2 7),(lstV x.a3 x.a4 x.a5 5),(lstV x.a6 x.a7 x.a8 1),(.int .i64 x.a9),(.int .i64 x.a10)]⟩),(.agg ⟨[(.int .i64 x.a11),(.int .i64 x.a12)]⟩),(.int .u8 x.a13)]⟩ h:=by
  intro t x h e
  unfold dec15 at e
  split at e
  case h_2=>cases e
  split at e
  case h_2=>cases e
  rename_i hg
  simp only [Option.some.injEq,Prod.mk.injEq] at e
  obtain ⟨rfl,rfl⟩:=e
  rw [Nat.eq_of_beq_eq_true hg]
theorem known15 : Known Try.prog p15:=by
  exact Known.fn noNG mixed (Known.or known24V (Known.or known29 (Known.or known58 (Known.thawK known58 58 [[7,5,1,0,0],[0],[0]])))) (n:=60) (zs:=[0]) 15 (fun x : A15=>[(.agg ⟨[(lstV x.a0 x.a1 x.a2 7),(lstV x.a3 x.a4 x.a5 5),(lstV x.a6 x.a7 x.a8 1),(.int .i64 x.a9),(.int .i64 x.a10)]⟩),(.agg ⟨[(.int .i64 x.a11),(.int .i64 x.a12)]⟩),(.int .u8 x.a13)]) (fun x=>rt15 x.a0 x.a1 x.a2 x.a3 x.a4 x.a5 x.a6 x.a7 x.a8 x.a9 x.a10 x.a11 x.a12 x.a13) en15 (fun x=>T15  x.a0 x.a1 x.a2 x.a3 x.a4 x.a5 x.a6 x.a7 x.a8 x.a9 x.a10 x.a11 x.a12 x.a13) (fun x=>rfl) dec15 alt15 hd15 ha15
end
end Go.Proofs.Ytjdidbnmkogflaa

namespace Go.Proofs.Ytjdidbnmkogflaa
open Go.ChangeShapes Go.WideShapes Go.ChangeAt Go.RowKit Go.Gi Go.Proofs.Ytjdidbnmkogflaa.Old
set_option linter.unusedVariables false
theorem tyA2 {P : Program} {d : Nat} {t e : TypeId} {cs : List Value} (hu : P.underlying t = some (.array 2 e)) (he : P.underlying e = some (.int .i64)) (h : Ty P (d + 1 + 1) t cs) :
    ∃ x0 x1,cs = [.int .i64 x0,.int .i64 x1] ∧ (Lit.int .i64 x0).wf = true ∧ (Lit.int .i64 x1).wf = true:=by
  obtain ⟨ps,rfl,hl,g⟩:=tyA hu h
  match ps,hl with
  | [p0,p1],_ =>
    obtain ⟨x0,rfl,w0⟩:=tyI he (g p0 (by simp))
    obtain ⟨x1,rfl,w1⟩:=tyI he (g p1 (by simp))
    exact ⟨x0,x1,rfl,w0,w1⟩
theorem tyB69 : tyB Try.prog 20 69 = true:=by kernel_rfl
section
variable {H : Type} {enc : TypeId × Value → H} {w : World} {r : Reach} {b0 : Nat} {v : Value} {dd : DataW H} {p : List MemPlace}
set_option maxRecDepth 100000 in
theorem twoArg (hval : Value.okWide Try.prog w r b0 69 v) (h : DataW.Trod enc Try.prog w 0 (fun _=>true) true 69 v dd p) : ∃ x0 x1,VR (zAll w) (.agg ⟨[.int .i64 x0,.int .i64 x1]⟩) v ∧ (Lit.int .i64 x0).wf = true ∧ (Lit.int .i64 x1).wf = true:=by
  obtain ⟨abs,h1,h2⟩:=argA Try.underlying69 tyB69 hval h
  obtain ⟨x0,x1,rfl,w0,w1⟩:=tyA2 Try.underlying69 Try.underlying3 h2
  exact ⟨x0,x1,h1,w0,w1⟩
end
def True15 : Prop:=∀ (c1 : Array Value) (n1 : Nat) (c2 : Array Value) (n2 : Nat) (c3 : Array Value) (n3 : Nat) (age shear x0 x1 x2 : Int),GL L7 7 c1 n1 → GL L5 5 c2 n2 → GL L1 1 c3 n3 →
  (Lit.int .i64 age).wf = true → (Lit.int .i64 shear).wf = true → (Lit.int .i64 x0).wf = true → (Lit.int .i64 x1).wf = true → (Lit.int .u8 x2).wf = true →
  (rt15 c1 0 n1 c2 0 n2 c3 0 n3 age shear x0 x1 x2).val = some ⟨true⟩
theorem law15 (hm : True15) {c1 c2 c3 : Array Value} {n1 n2 n3 : Nat} {age shear x0 x1 x2 : Int} (h1 : GL L7 7 c1 n1) (h2 : GL L5 5 c2 n2) (h3 : GL L1 1 c3 n3) (w0 : (Lit.int .i64 age).wf = true) (w1 : (Lit.int .i64 shear).wf = true) (w2 : (Lit.int .i64 x0).wf = true) (w3 : (Lit.int .i64 x1).wf = true) (w4 : (Lit.int .u8 x2).wf = true) :
    Fact Try.prog (.call 15 ⟨[(.agg ⟨[(lstV c1 0 n1 7),(lstV c2 0 n2 5),(lstV c3 0 n3 1),(.int .i64 age),(.int .i64 shear)]⟩),(.agg ⟨[(.int .i64 x0),(.int .i64 x1)]⟩),(.int .u8 x2)]⟩ ⟨[],0,[]⟩) (.ret (.bool true) ⟨[],0,[]⟩):=by
  have e:=hm c1 n1 c2 n2 c3 n3 age shear x0 x1 x2 h1 h2 h3 w0 w1 w2 w3 w4
  refine known15 _ (alt15 ⟨c1,0,n1,c2,0,n2,c3,0,n3,age,shear,x0,x1,x2⟩ ⟨[],0,[]⟩) _ rfl ?_
  have e1 : F15 c1 0 n1 c2 0 n2 c3 0 n3 age shear x0 x1 x2 = some ⟨true⟩:=e
  simp only [alt15,F15_ok,F15_0,e1,AT.out,Option.isSome_some,cond_true]
set_option maxRecDepth 100000 in
theorem lifted15 (hm : True15) (os : Os) (started : os.Started) (H : Type) (enc : TypeId × Value → H) :
    ReturnsInHanded {} Try.checked os 15 .any (Rows.windLessSpec.pre6 enc Try.prog Try.f15 Rows.windLessRow.domain false) (Rows.windLessSpec.post enc Try.prog Try.f15 false true false false):=by
  refine returnsInHanded_of_change (C:=Try.checked) own started (by kernel_rfl) Try.func15
    (ChangeSpec.witness6 (enc:=enc) (C:=Try.checked) false ⟨#[],#[.agg #[.slice none 0 0,.slice none 0 0,.slice none 0 0,.int .i64 0,.int .i64 0],.agg #[.int .i64 0,.int .i64 0],.int .u8 0],[]⟩ 15 (by kernel_rfl) (by kernel_rfl) (by kernel_rfl) (by kernel_rfl)) ?_
  intro W base args ds gs before hval0 hW hcnd _
  have hval : ∀ (j : Nat) t v,Try.f15.params[j]? = some t → args[j]? = some v → Value.okWide Try.prog W .any base t v:=hval0
  have hW':=hW
  obtain ⟨p,q,hA0,hV,rfl,hfz,hnd⟩:=hW
  have hA : DataW.TrodAll enc Try.prog W 0 (fun _=>true) true Try.f15.params.toList args.toList ds p:=hA0
  rw [Try.params15] at hA hval
  obtain ⟨v0,vs0,d0,ds0,p0,q0,hargs,rfl,rfl,h0,r0⟩:=trodAll_cons hA
  obtain ⟨v1,vs1,d1,ds1,p1,q1,rfl,rfl,rfl,h1,r1⟩:=trodAll_cons r0
  obtain ⟨v2,vs2,d2,ds2,p2,q2,rfl,rfl,rfl,h2,r2⟩:=trodAll_cons r1
  obtain ⟨rfl,rfl,rfl⟩:=trodAll_nil r2
  obtain rfl : args = #[v0,v1,v2]:=by cases args; simp_all
  obtain ⟨rfl,rfl⟩:=trodVars_none hV
  have k0:=h0
  have k1:=h1
  have k2:=h2
  have lt0 : ∀ x ∈ p0,x.block < W.heap.size:=by obtain ⟨m,hm⟩:=k0; exact DataW.trod_lt m _ _ _ hm
  have lt1 : ∀ x ∈ p1,x.block < W.heap.size:=by obtain ⟨m,hm⟩:=k1; exact DataW.trod_lt m _ _ _ hm
  have lt2 : ∀ x ∈ p2,x.block < W.heap.size:=by obtain ⟨m,hm⟩:=k2; exact DataW.trod_lt m _ _ _ hm
  obtain ⟨abs,u0,c1,n1,c2,n2,c3,n3,age,shear,rfl,g1,g2,g3,w4,w5⟩:=tskArg (hval 0 26 v0 rfl rfl) h0
  obtain ⟨x0,x1,u1,y0,y1⟩:=twoArg (hval 1 69 v1 rfl rfl) h1
  obtain ⟨x2,rfl,rfl,rfl,y2⟩:=open_int Try.underlying5 (hval 2 5 v2 rfl rfl) h2
  have u2 : VR (zAll W) (.int .u8 x2) (.int .u8 x2):=.int _ _
  clear hA0 hval0
  refine (calls_frozen (law15 hm (age:=age) (shear:=shear) (x0:=x0) (x1:=x1) (x2:=x2) g1 g2 g3 w4 w5 y0 y1 y2) rfl ((((VRs.nil _).push u0).push u1).push u2)).mono fun e W' ⟨he,bel⟩=>?_
  subst he
  exact ⟨_,rfl,_,_,_,[],_,[],hW',trodAll_mk1 (shut_bool Try.underlying4 _),(trodAll_cons_mk (Below.trod laidOut (by kernel_rfl) (of_decide_eq_true (by kernel_rfl)) k0 bel lt0) (trodAll_cons_mk (Below.trod laidOut (by kernel_rfl) (of_decide_eq_true (by kernel_rfl)) k1 bel lt1) (trodAll_cons_mk (Below.trod laidOut (by kernel_rfl) (of_decide_eq_true (by kernel_rfl)) k2 bel lt2) trodAll_mk0))),rfl,bel.frame _,fun h=>by cases h⟩
theorem over15 (hm : True15) : Rows.windLessRow.holds Try.pinned (OpenSpec.ofChange Rows.windLessSpec) :=
  OpenClaim.holds_of_wide 15 Try.f15 rfl rfl rfl rfl rfl rfl rfl ⟨rfl,rfl,rfl,rfl,rfl⟩ rfl rfl rfl rfl rfl (by kernel_rfl) Try.func15 (by kernel_rfl)
    (of_decide_eq_true (by kernel_rfl)) (by unfold Func.isWrapper; first | (rw [if_pos (by decide +kernel)]; kernel_rfl) | (rw [if_neg (by decide +kernel)]; exact ⟨rfl,rfl⟩))
    (fun os started H enc _=>lifted15 hm os started H enc)
theorem less_of (hm : True15) : Rows.WindLessSaid:=over15 hm
end Go.Proofs.Ytjdidbnmkogflaa

namespace Go.Proofs.Ytjdidbnmkogflaa
open Go.Gi Go.RowKit Go.Proofs.Ytjdidbnmkogflaa.Old
noncomputable section
set_option maxRecDepth 100000
set_option linter.unusedVariables false
set_option linter.unusedSimpArgs false
def cDel (c : Array Value) (d : Nat) : Array Value:=⟨c.toList.take (d * 5) ++ c.toList.drop ((d + 1) * 5)⟩
def isI (v : Value) : Prop:=∃ z,v = .int .i64 z
theorem GL5_int {c : Array Value} {n : Nat} (g : GL L5 5 c n) : ∀ v ∈ c.toList,isI v:=by
  intro v hv
  obtain ⟨i,hi,rfl⟩:=List.mem_iff_getElem.1 hv
  have hs:=g.size
  have hi' : i < n * 5:=by rw [← hs]; simpa using hi
  have hr:=g.good.2 (i / 5) (by omega)
  simp only [show L5.length = 5 from rfl,show L5 = [Leaf.int .i64,.int .i64,.int .i64,.int .i64,.int .i64] from rfl,rdOk,rdLeaf,Bool.and_eq_true] at hr
  have key : ∀ q,isInt .i64 c q = true → q = i → isI c.toList[i]:=by
    rintro q hq rfl
    have:=isInt_ok hq
    rw [Array.getElem?_eq_some_iff] at this
    obtain ⟨_,h2⟩:=this
    exact ⟨_,by rw [Array.getElem_toList]; exact h2⟩
  have hm : i % 5 < 5:=Nat.mod_lt _ (by omega)
  have hd:=Nat.div_add_mod i 5
  obtain ⟨r0,r1,r2,r3,r4,_⟩:=hr
  rcases (show i % 5 = 0 ∨ i % 5 = 1 ∨ i % 5 = 2 ∨ i % 5 = 3 ∨ i % 5 = 4 by omega) with h | h | h | h | h
  · exact key _ r0 (by omega)
  · exact key _ r1 (by omega)
  · exact key _ r2 (by omega)
  · exact key _ r3 (by omega)
  · exact key _ r4 (by omega)
theorem one_of {c : Array Value} (h : ∀ v ∈ c.toList,isI v) : oneAll c = true:=by
  unfold oneAll
  rw [List.all_eq_true]
  intro v hv
  obtain ⟨z,rfl⟩:=h v hv
  rfl
theorem fz_of {c : Array Value} (h : ∀ v ∈ c.toList,isI v) : allFz c = true:=by
  unfold allFz
  rw [List.all_eq_true]
  intro v hv
  obtain ⟨z,rfl⟩:=h v hv
  rfl
theorem sub_int {c : Array Value} {a b : Nat} (h : ∀ v ∈ c.toList,isI v) : ∀ v ∈ (Array.extract c a b).toList,isI v:=by
  intro v hv
  rw [Array.toList_extract,List.extract_eq_take_drop] at hv
  exact h v (List.mem_of_mem_drop (List.mem_of_mem_take hv))
theorem del_int {c : Array Value} {d : Nat} (h : ∀ v ∈ c.toList,isI v) : ∀ v ∈ (cDel c d).toList,isI v:=by
  intro v hv
  unfold cDel at hv
  rcases List.mem_append.1 hv with hv | hv
  · exact h v (List.mem_of_mem_take hv)
  · exact h v (List.mem_of_mem_drop hv)
section
variable {c : Array Value} {n2 d : Nat}
theorem del_size (hs : c.size = n2 * 5) (hd : d < n2) : (cDel c d).size = (n2 - 1) * 5:=by
  unfold cDel
  have : c.toList.length = n2 * 5:=by simpa using hs
  simp only [List.size_toArray,List.length_append,List.length_take,List.length_drop,this]
  omega
def srcD (d j : Nat) : Nat:=if j < d then j else j + 1
theorem del_get (hs : c.size = n2 * 5) (hd : d < n2) {j r : Nat} (hr : r < 5) : (cDel c d).toList[j * 5 + r]? = c.toList[srcD d j * 5 + r]?:=by
  unfold cDel srcD
  have hl : c.toList.length = n2 * 5:=by simpa using hs
  by_cases h : j < d
  · rw [if_pos h,List.getElem?_append_left (by rw [List.length_take,hl]; omega),List.getElem?_take,if_pos (by omega)]
  · rw [if_neg h,List.getElem?_append_right (by rw [List.length_take,hl]; omega),List.length_take,hl,List.getElem?_drop]
    congr 1
    omega
theorem getInt_of {c c' : Array Value} {i i' : Nat} (h : c'.toList[i']? = c.toList[i]?) : getInt c' i' = getInt c i:=by
  have e : lget c'.toList i' = lget c.toList i:=by
    rw [lget_eq,lget_eq]
    simp only [Array.getD_eq_getD_getElem?,Array.toArray_toList,← Array.getElem?_toList,h]
  unfold getInt
  rw [e]
theorem isInt_all {c : Array Value} (h : ∀ v ∈ c.toList,isI v) {i : Nat} (hi : i < c.size) : isInt .i64 c i = true:=by
  have hi' : i < c.toList.length:=by simpa using hi
  obtain ⟨z,hz⟩:=h c.toList[i] (List.getElem_mem hi')
  unfold isInt
  have e : lget c.toList i = .int .i64 z:=by
    rw [lget_eq]
    simp only [Array.getD_eq_getD_getElem?,Array.toArray_toList,← Array.getElem?_toList,List.getElem?_eq_getElem hi',hz,Option.getD_some]
  rw [e]
  rfl
theorem del_GL (g : GL L5 5 c n2) (hd : d < n2) : GL L5 5 (cDel c d) (n2 - 1):=by
  have hi:=del_int (d:=d) (GL5_int g)
  have hs:=del_size g.size hd
  refine ⟨⟨?_,fun k hk=>?_⟩,hs,by have:=g.few; omega⟩
  · rw [List.all_eq_true]
    intro v hv
    obtain ⟨z,rfl⟩:=hi v hv
    rfl
  · simp only [show L5.length = 5 from rfl,show L5 = [Leaf.int .i64,.int .i64,.int .i64,.int .i64,.int .i64] from rfl,rdOk,rdLeaf,Bool.and_eq_true]
    exact ⟨isInt_all hi (by omega),isInt_all hi (by omega),isInt_all hi (by omega),isInt_all hi (by omega),isInt_all hi (by omega),trivial⟩
theorem del_sub (g : GL L5 5 c n2) (hd : d < n2) : Sub (cDel c d) (n2 - 1) c n2 (srcD d):=by
  have e : ∀ j r,r < 5 → getInt (cDel c d) (0 + j * 5 + r) = getInt c (0 + srcD d j * 5 + r):=fun j r hr=>by
    rw [Nat.zero_add,Nat.zero_add]
    exact getInt_of (del_get g.size hd hr)
  refine ⟨fun j hj=>?_,fun i j h1 h2=>?_,by omega,fun j hj=>⟨by simpa using e j 0 (by omega),e j 1 (by omega),e j 2 (by omega),e j 3 (by omega),e j 4 (by omega)⟩⟩
  · unfold srcD; split <;> omega
  · unfold srcD; split <;> split <;> omega
end
section
variable {c0 c c3 : Array Value} {n n2 n3 d : Nat} {age shear x y : Int}
theorem less_del (g1 : GL L7 7 c0 n) (g2 : GL L5 5 c n2) (g3 : GL L1 1 c3 n3) (hz : F20_2 c0 0 n c 0 n2 c3 0 n3 age shear = 0) (hxy : (tkB x && tkB y) = true) (ha : agB c0 c c3 n2 age shear x y n3 0 = true) (hd : d < n2) :
    ∃ R S,F58_0 c0 0 n c 0 n2 c3 0 n3 age shear x y = arrB R ∧ F58_1 c0 0 n c 0 n2 c3 0 n3 age shear x y = 0 ∧ F58_2 c0 0 n c 0 n2 c3 0 n3 age shear x y = R.length ∧
      F58_ok c0 0 n (cDel c d) 0 (n2 - 1) c3 0 n3 age shear x y = true ∧ F58_3 c0 0 n (cDel c d) 0 (n2 - 1) c3 0 n3 age shear x y = true ∧
      F58_0 c0 0 n (cDel c d) 0 (n2 - 1) c3 0 n3 age shear x y = arrB S ∧ F58_1 c0 0 n (cDel c d) 0 (n2 - 1) c3 0 n3 age shear x y = 0 ∧ F58_2 c0 0 n (cDel c d) 0 (n2 - 1) c3 0 n3 age shear x y = S.length ∧
      F29_ok (arrB S) 0 S.length (arrB R) 0 R.length = true ∧ F29_0 (arrB S) 0 S.length (arrB R) 0 R.length = true ∧ F29_1 (arrB S) 0 S.length (arrB R) 0 R.length = 0:=by
  obtain ⟨hv,hn,hc⟩:=vld g1 g2 g3 hz
  have up:=cuts_up g1 g2 g3 hz
  have g2':=del_GL g2 hd
  have hs:=del_sub g2 hd
  have hz':=hs.check g1 g2 g3 hz
  obtain ⟨R,hR,k1,k2,k3,k4,k5⟩:=F58_yes g1 g2 g3 hz hxy ha
  have hw : ∀ i,i < n3 → emp (winA c0 (cDel c d) c3 (n2 - 1) age shear x y i) = false ∧ wid (winA c0 (cDel c d) c3 (n2 - 1) age shear x y i) (winA c0 c c3 n2 age shear x y i):=by
    intro i hi
    have he:=(agB_iff n3 0).1 ha i hi
    rw [Nat.zero_add] at he
    exact hs.wider he
  have ha' : agB c0 (cDel c d) c3 (n2 - 1) age shear x y n3 0 = true:=(agB_iff n3 0).2 fun i hi=>by rw [Nat.zero_add]; exact (hw i hi).1
  obtain ⟨S,hS,m1,m2,m3,m4,m5⟩:=F58_yes g1 g2' g3 hz' hxy ha'
  have hlR:=bnds_len n3 0 R hR
  have hlS:=bnds_len n3 0 S hS
  have hvR : valF 0 R:=bnds_valF up hc n3 0 R (by omega) hR
  have hvS : valF 0 S:=bnds_valF up hc n3 0 S (by omega) hS
  have hcov:=cov_same (c3:=c3) (A:=S) (B:=R) up hlS hlR fun i hi=>⟨_,_,bnds_win hS ha' hi,bnds_win hR ha hi,(hw i hi).2⟩
  have hlast : (R[R.length - 1]'(by omega)).t ≤ (S[S.length - 1]'(by omega)).t:=by
    have q1:=bnds_win hR ha (i:=n3 - 1) (by omega)
    have q2:=bnds_win hS ha' (i:=n3 - 1) (by omega)
    simp only [hlR,hlS,q1,q2,Int.le_refl]
  obtain ⟨f1,f2,f3⟩:=F29_of (by omega) (by omega) hvS (by omega) (by omega) hvR hlast hcov
  exact ⟨R,S,k2,k3,k4,m1,m5,m2,m3,m4,f1,f2,f3⟩
end
end
end Go.Proofs.Ytjdidbnmkogflaa

namespace Go.Proofs.Ytjdidbnmkogflaa
open Go.Gi Go.RowKit Go.Proofs.Ytjdidbnmkogflaa.Old
noncomputable section
set_option maxRecDepth 100000
set_option linter.unusedVariables false
set_option linter.unusedSimpArgs false
theorem u8_in {x : Int} (h : (Lit.int .u8 x).wf = true) : 0 ≤ x ∧ x ≤ 255:=by
  simp only [Lit.wf,Bool.and_eq_true,decide_eq_true_eq] at h
  exact h
section
variable {c : Array Value} {n d : Nat}
theorem ex_none : (Array.extract (⟨[]⟩ : Array Value) 0 0) = ⟨[]⟩:=rfl
theorem del_a (hs : c.size = n * 5) (h0 : d = 0) (h1 : n - (d + 1) = 0) (hd : d < n) : (⟨[]⟩ : Array Value) = cDel c d:=by
  have hl : c.toList.length = n * 5:=by simpa using hs
  subst h0
  unfold cDel
  rw [List.drop_of_length_le (by rw [hl]; omega)]
  simp
theorem del_b (hs : c.size = n * 5) (h0 : d = 0) (hd : d < n) : ((⟨[]⟩ : Array Value) ++ Array.extract c ((d + 1) * 5) ((d + 1) * 5 + (n - (d + 1)) * 5)) = cDel c d:=by
  have hl : c.toList.length = n * 5:=by simpa using hs
  apply Array.ext'
  rw [Array.toList_append,Array.toList_extract,List.extract_eq_take_drop]
  unfold cDel
  rw [List.take_of_length_le (by rw [List.length_drop,hl]; omega)]
  subst h0
  simp
theorem del_c (hs : c.size = n * 5) (h1 : n - (d + 1) = 0) (hd : d < n) : ((⟨[]⟩ : Array Value) ++ Array.extract c 0 (d * 5)) = cDel c d:=by
  have hl : c.toList.length = n * 5:=by simpa using hs
  apply Array.ext'
  rw [Array.toList_append,Array.toList_extract,List.extract_eq_take_drop]
  unfold cDel
  rw [List.drop_of_length_le (i:=(d + 1) * 5) (by rw [hl]; omega)]
  simp
theorem del_d (hs : c.size = n * 5) (hd : d < n) : ((Array.extract ((⟨[]⟩ : Array Value) ++ Array.extract c 0 (d * 5)) 0 (d * 5)) ++ Array.extract c ((d + 1) * 5) ((d + 1) * 5 + (n - (d + 1)) * 5)) = cDel c d:=by
  have hl : c.toList.length = n * 5:=by simpa using hs
  apply Array.ext'
  rw [Array.toList_append,Array.toList_extract,Array.toList_append,Array.toList_extract,Array.toList_extract,List.extract_eq_take_drop,List.extract_eq_take_drop,List.extract_eq_take_drop]
  unfold cDel
  rw [List.take_of_length_le (l:=c.toList.drop ((d + 1) * 5)) (by rw [List.length_drop,hl]; omega)]
  simp [List.take_take]
theorem ex_size {a m : Nat} (h : a + m ≤ c.size) : (Array.extract c a (a + m)).size = m:=by
  rw [Array.size_extract]; omega
end
theorem true15 : True15:=by
  intro c1 n1 c2 n2 c3 n3 age shear x0 x1 x2 g1 g2 g3 _ _ _ _ wx
  have hx:=u8_in wx
  have hw : IntKind.wrap .i64 x2 = x2:=wrap64_id (by omega) (by omega)
  by_cases hz : F20_2 c1 0 n1 c2 0 n2 c3 0 n3 age shear = 0 ∧ (tkB x0 && tkB x1) = true ∧ agB c1 c2 c3 n2 age shear x0 x1 n3 0 = true
  · obtain ⟨hz,hxy,ha⟩:=hz
    obtain ⟨R',hR',k1,k2,k3,k4,k5⟩:=F58_yes g1 g2 g3 hz hxy ha
    obtain ⟨hv,hn,hc⟩:=vld g1 g2 g3 hz
    have few:=hv.few2
    rcases Nat.eq_zero_or_pos n2 with h0 | hpos
    · subst h0
      unfold rt15
      simp only [RT.val,k1,k5,Int.ofNat_eq_natCast,show (((0 : Nat) : Int) = 0) from rfl,decide_true,Bool.not_true,cond_true,cond_false]
    · obtain ⟨d,hd,hK⟩ : ∃ d : Nat,d < n2 ∧ Int.tmod x2 (n2 : Int) = (d : Int):=by
        refine ⟨(Int.tmod x2 (n2 : Int)).toNat,?_,?_⟩
        · have h1:=Int.tmod_nonneg (n2 : Int) hx.1
          have h2:=Int.tmod_lt_of_pos x2 (show (0 : Int) < (n2 : Int) by omega)
          omega
        · have h1:=Int.tmod_nonneg (n2 : Int) hx.1
          omega
      have hne : ¬ ((n2 : Int) = 0):=by omega
      have hK1 : IntKind.wrap .i64 ((d : Int) + 1) = ((d + 1 : Nat) : Int):=by rw [wrap64_id (by omega) (by omega)]; omega
      have p1 : (0 : Int) ≤ (d : Int):=by omega
      have p2 : (0 : Int) ≤ ((d + 1 : Nat) : Int):=by omega
      have p3 : d ≤ n2:=by omega
      have p4 : d + 1 ≤ n2:=by omega
      have hsz:=g2.size
      have hI:=GL5_int g2
      obtain ⟨R,S,m0,m1,m2,m3,m4,m5,m6,m7,f1,f2,f3⟩:=less_del g1 g2 g3 hz hxy ha hd
      have s1 : (d + 1) * 5 + (n2 - (d + 1)) * 5 ≤ c2.size:=by omega
      have s2 : 0 + d * 5 ≤ c2.size:=by omega
      have s2' : d * 5 ≤ c2.size:=by omega
      have z1:=ex_size (c:=c2) s1
      have z2 : (Array.extract c2 0 (d * 5)).size = d * 5:=by have:=ex_size (c:=c2) s2; rwa [Nat.zero_add] at this
      have o1:=one_of (sub_int (a:=(d + 1) * 5) (b:=(d + 1) * 5 + (n2 - (d + 1)) * 5) hI)
      have o2:=one_of (sub_int (a:=0) (b:=d * 5) hI)
      have fz:=fz_of (del_int (d:=d) hI)
      have dsz:=del_size (d:=d) hsz hd
      have b1 : (n2 - (d + 1)) * 40 ≤ 140737488355328 ∧ n2 - (d + 1) ≤ 4611686018427387904:=by omega
      have b2 : d * 40 ≤ 140737488355328 ∧ d ≤ 4611686018427387904:=by omega
      have b3 : (d + (n2 - (d + 1))) * 40 ≤ 140737488355328 ∧ d + (n2 - (d + 1)) ≤ 4611686018427387904:=by omega
      unfold rt15
      by_cases hd0 : d = 0
      · by_cases hr : n2 - (d + 1) = 0
        · have e:=del_a hsz hd0 hr hd
          have hn2 : n2 - 1 = 0:=by omega
          rw [← e,hn2] at m3 m4 m5 m6 m7
          have q1 : decide (d = 0) = true:=decide_eq_true hd0
          simp only [RT.val,k1,k5,Int.ofNat_eq_natCast,hne,hw,hK,Int.toNat_natCast,hK1,p1,p2,p3,p4,Nat.sub_zero,Nat.zero_add,Nat.add_zero,Nat.zero_le,Nat.le_refl,arrEq_self,ex_none,hr,q1,m0,m1,m2,m3,m4,m5,m6,m7,f1,f2,f3,decide_true,decide_false,Bool.and_self,Bool.and_true,Bool.true_and,Bool.not_true,Bool.not_false,cond_true,cond_false]
        · have e:=del_b hsz hd0 hd
          have hn2 : n2 - (d + 1) = n2 - 1:=by omega
          rw [hn2] at hr e z1 o1 s1 b1
          have q1 : decide (d = 0) = true:=decide_eq_true hd0
          simp only [RT.val,k1,k5,Int.ofNat_eq_natCast,hne,hw,hK,Int.toNat_natCast,hK1,p1,p2,p3,p4,Nat.sub_zero,Nat.zero_add,Nat.add_zero,Nat.zero_le,Nat.le_refl,arrEq_self,ex_none,hn2,hr,q1,e,s1,z1,o1,b1.1,b1.2,fz,dsz,m0,m1,m2,m3,m4,m5,m6,m7,f1,f2,f3,decide_true,decide_false,Bool.and_self,Bool.and_true,Bool.true_and,Bool.not_true,Bool.not_false,cond_true,cond_false]
      · by_cases hr : n2 - (d + 1) = 0
        · have e:=del_c hsz hr hd
          have hn2 : n2 - 1 = d:=by omega
          rw [hn2] at m3 m4 m5 m6 m7 dsz
          simp only [RT.val,k1,k5,Int.ofNat_eq_natCast,hne,hw,hK,Int.toNat_natCast,hK1,p1,p2,p3,p4,Nat.sub_zero,Nat.zero_add,Nat.add_zero,Nat.zero_le,Nat.le_refl,arrEq_self,ex_none,hd0,hr,e,s2',z2,o2,b2.1,b2.2,fz,dsz,m0,m1,m2,m3,m4,m5,m6,m7,f1,f2,f3,decide_true,decide_false,Bool.and_self,Bool.and_true,Bool.true_and,Bool.not_true,Bool.not_false,cond_true,cond_false]
        · have e:=del_d hsz hd
          have hn2 : d + (n2 - (d + 1)) = n2 - 1:=by omega
          have s3 : d * 5 ≤ ((⟨[]⟩ : Array Value) ++ Array.extract c2 0 (d * 5)).size:=by
            rw [Array.size_append,z2]; simp
          rw [hn2] at b3
          simp only [RT.val,k1,k5,Int.ofNat_eq_natCast,hne,hw,hK,Int.toNat_natCast,hK1,p1,p2,p3,p4,Nat.sub_zero,Nat.zero_add,Nat.add_zero,Nat.zero_le,Nat.le_refl,arrEq_self,ex_none,hd0,hr,e,s1,s2',s3,z1,z2,o1,o2,b2.1,b2.2,b3.1,b3.2,hn2,fz,dsz,m0,m1,m2,m3,m4,m5,m6,m7,f1,f2,f3,decide_true,decide_false,Bool.and_self,Bool.and_true,Bool.true_and,Bool.not_true,Bool.not_false,cond_true,cond_false]
  · obtain ⟨k1,k5⟩:=F58_no (x:=x0) (y:=x1) (age:=age) (shear:=shear) g1 g2 g3 (fun h1 h2 h3=>hz ⟨h1,h2,h3⟩)
    unfold rt15
    simp only [RT.val,k1,k5,Bool.not_false,cond_true]
theorem windLessProved : Rows.WindLessSaid:=less_of true15
end
end Go.Proofs.Ytjdidbnmkogflaa

