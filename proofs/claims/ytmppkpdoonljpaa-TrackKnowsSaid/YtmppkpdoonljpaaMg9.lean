/- Part 9 of the texts below the claim. Conditions: none. -/
import Derived.Test.YtmppkpdoonljpaaMg7
import Derived.Test.YtmppkpdoonljpaaMg8
import Derived.Test.YtmppkpdoonljpaaRows
import Derived.Test.YtmppkpdoonljpaaMg5
set_option linter.unusedVariables false
set_option linter.unusedSimpArgs false
namespace Go.Proofs.Ytmppkpdoonljpaa
open Go.Gi Go.RowKit Go.Proofs.Ytmppkpdoonljpaa.Old
noncomputable section
set_option maxRecDepth 100000
set_option maxHeartbeats 4000000
structure X21_0 where
  v0:Int
  v1:Int
  v2:Int
  v3:Int
  v4:Array Value
  v5:Nat
  v6:Nat
  v7:Array Value
  v8:Nat
  v9:Nat
inductive D21_0 where
  | k0 (d0:Int) (d1:Int) (d2:Int) (d3:Int) (d4:Int) (d5:Int) (d6:Array Value) (d7:Nat) (d8:Nat) (d9:Array Value) (d10:Nat) (d11:Nat)
  | k1 (d0:Int) (d1:Int) (d2:Int) (d3:Array Value) (d4:Nat) (d5:Nat) (d6:Array Value) (d7:Nat) (d8:Nat)
def Lp21_0:LoopOf X21_0 D21_0 where
  c:=(theLoop Try.prog 21 0)
  N:=63
  M:=1
  S:=[1,5]
  sl:=fun x=>[(Value.pointer (Option.some (Addr.mk 0 0 Option.none))),(.int .i64 x.v0)]
  hp:=fun x=>[.cells ⟨[(.int .i64 x.v1),(.int .i64 x.v2),(.int .i64 x.v3),(lstV x.v4 x.v5 x.v6 6),(lstV x.v7 x.v8 x.v9 5)]⟩ false]
  ex:=fun d=>match d with | .k0 ..=>.ret | .k1 ..=>.exit 0
  pick:=fun e=>match e with | .ret=>[2,3,4] | .exit 0=>[1] | _=>[]
  dv:=fun d=>match d with | .k0 d0 d1 d2 d3 d4 d5 d6 d7 d8 d9 d10 d11=>[(.int .i64 d0),(.int .i64 d1),(.int .i64 d2)] | .k1 d0 d1 d2 d3 d4 d5 d6 d7 d8=>[(Value.pointer (Option.some (Addr.mk 0 0 Option.none)))]
  dh:=fun d=>match d with | .k0 d0 d1 d2 d3 d4 d5 d6 d7 d8 d9 d10 d11=>[.cells ⟨[(.int .i64 d3),(.int .i64 d4),(.int .i64 d5),(lstV d6 d7 d8 6),(lstV d9 d10 d11 5)]⟩ false] | .k1 d0 d1 d2 d3 d4 d5 d6 d7 d8=>[.cells ⟨[(.int .i64 d0),(.int .i64 d1),(.int .i64 d2),(lstV d3 d4 d5 6),(lstV d6 d7 d8 5)]⟩ false]
theorem ok21_0:Lp21_0.Ok:=⟨fun x=>rfl,fun x=>rfl,fun x=>rfl,fun x=>rfl,fun d=>by cases d<;>rfl,fun d=>by cases d<;>rfl,fun d=>by cases d<;>rfl,fun d=>by cases d<;>(intro h;cases h),fun d=>by cases d<;>rfl,fun d=>by cases d<;>rfl⟩
def rd21_0 (x:X21_0):RT (Sum X21_0 D21_0):=match x with
  | ⟨v0,v1,v2,v3,v4,v5,v6,v7,v8,v9⟩ =>
     .br (decide (v0<(Int.ofNat v6))) (.br (F63_ok v1 v2 v3 (v4) v5 v6 (v7) v8 v9 v0) (.br (not (decide ((F63_0 v1 v2 v3 (v4) v5 v6 (v7) v8 v9 v0)=(0:Int)))) (.leaf (.inr (.k0 ((2:Int)) (v0) ((F63_0 v1 v2 v3 (v4) v5 v6 (v7) v8 v9 v0)) (v1) (v2) (v3) (v4) (v5) (v6) (v7) (v8) (v9)))) (.leaf (.inl ⟨(IntKind.wrap .i64 (v0+(1:Int))),v1,v2,v3,v4,v5,v6,v7,v8,v9⟩))) (.no)) (.leaf (.inr (.k1 (v1) (v2) (v3) (v4) (v5) (v6) (v7) (v8) (v9))))
theorem T21_0  (y:List Value) (v0:Int) (v1:Int) (v2:Int) (v3:Int) (v4:Array Value) (v5:Nat) (v6:Nat) (v7:Array Value) (v8:Nat) (v9:Nat):evC Try.prog (Ans.c (p61.or (p62.or (p63.or p64)))) 60 (.code none (theLoop Try.prog 21 0) ⟨sets (junkF 63 y) [(1,(Value.pointer (Option.some (Addr.mk 0 0 Option.none)))),(5,(.int .i64 v0))],[],⟨[.cells ⟨[(.int .i64 v1),(.int .i64 v2),(.int .i64 v3),(lstV v4 v5 v6 6),(lstV v7 v8 v9 5)]⟩ false],0,[]⟩⟩) (sumK 1 63 Lp21_0.pk)=(rd21_0 ⟨v0,v1,v2,v3,v4,v5,v6,v7,v8,v9⟩).out Lp21_0.enc:=by kernel_rfl
def L21_0 (x:X21_0):Option D21_0:=loopR rd21_0 x
section
variable (x:X21_0)
def L21_0_k0:Bool:=match L21_0 x with | some (.k0 ..)=>true | _=>false
def Qo0:Int:=match L21_0 x with | some (.k0 d _ _ _ _ _ _ _ _ _ _ _)=>d | _=>0
def Qo1:Int:=match L21_0 x with | some (.k0 _ d _ _ _ _ _ _ _ _ _ _)=>d | _=>0
def Qo2:Int:=match L21_0 x with | some (.k0 _ _ d _ _ _ _ _ _ _ _ _)=>d | _=>0
def Qo3:Int:=match L21_0 x with | some (.k0 _ _ _ d _ _ _ _ _ _ _ _)=>d | _=>0
def Qo4:Int:=match L21_0 x with | some (.k0 _ _ _ _ d _ _ _ _ _ _ _)=>d | _=>0
def Qo5:Int:=match L21_0 x with | some (.k0 _ _ _ _ _ d _ _ _ _ _ _)=>d | _=>0
def Qo6:Array Value:=match L21_0 x with | some (.k0 _ _ _ _ _ _ d _ _ _ _ _)=>d | _=>#[]
def Qo7:Nat:=match L21_0 x with | some (.k0 _ _ _ _ _ _ _ d _ _ _ _)=>d | _=>0
def Qo8:Nat:=match L21_0 x with | some (.k0 _ _ _ _ _ _ _ _ d _ _ _)=>d | _=>0
def Qo9:Array Value:=match L21_0 x with | some (.k0 _ _ _ _ _ _ _ _ _ d _ _)=>d | _=>#[]
def Qo10:Nat:=match L21_0 x with | some (.k0 _ _ _ _ _ _ _ _ _ _ d _)=>d | _=>0
def Qo11:Nat:=match L21_0 x with | some (.k0 _ _ _ _ _ _ _ _ _ _ _ d)=>d | _=>0
def L21_0_k1:Bool:=match L21_0 x with | some (.k1 ..)=>true | _=>false
def Qp0:Int:=match L21_0 x with | some (.k1 d _ _ _ _ _ _ _ _)=>d | _=>0
def Qp1:Int:=match L21_0 x with | some (.k1 _ d _ _ _ _ _ _ _)=>d | _=>0
def Qp2:Int:=match L21_0 x with | some (.k1 _ _ d _ _ _ _ _ _)=>d | _=>0
def Qp3:Array Value:=match L21_0 x with | some (.k1 _ _ _ d _ _ _ _ _)=>d | _=>#[]
def Qp4:Nat:=match L21_0 x with | some (.k1 _ _ _ _ d _ _ _ _)=>d | _=>0
def Qp5:Nat:=match L21_0 x with | some (.k1 _ _ _ _ _ d _ _ _)=>d | _=>0
def Qp6:Array Value:=match L21_0 x with | some (.k1 _ _ _ _ _ _ d _ _)=>d | _=>#[]
def Qp7:Nat:=match L21_0 x with | some (.k1 _ _ _ _ _ _ _ d _)=>d | _=>0
def Qp8:Nat:=match L21_0 x with | some (.k1 _ _ _ _ _ _ _ _ d)=>d | _=>0
end
def dec21_0:Task→Option (Code×X21_0)
  | .code none (.loop code) ⟨t,[],⟨[.cells ⟨[(.int .i64 v1),(.int .i64 v2),(.int .i64 v3),(.func (.via 0 ⟨[]⟩ 0 true) v4 ⟨[.slice (some ⟨0,v5,none⟩) v6 6]⟩),(.func (.via 0 ⟨[]⟩ 0 true) v7 ⟨[.slice (some ⟨0,v8,none⟩) v9 5]⟩)]⟩ false],0,[]⟩⟩ =>
    (match Nat.beq (firstReg code) 6,lenIs t 63,lget t 1,lget t 5 with
    | true,true,(Value.pointer (Option.some (Addr.mk 0 0 Option.none))),(.int .i64 v0)=>some (code,⟨v0,v1,v2,v3,v4,v5,v6,v7,v8,v9⟩)
    | _,_,_,_=>none)
  | _=>none
def alt21_0 (x:X21_0)(j:List Value):AT:=.br (L21_0_k0 x) (loopEnd 63 (.ret) [(2,(.int .i64 (Qo0 x))),(3,(.int .i64 (Qo1 x))),(4,(.int .i64 (Qo2 x)))] ⟨[.cells ⟨[(.int .i64 (Qo3 x)),(.int .i64 (Qo4 x)),(.int .i64 (Qo5 x)),(lstV (Qo6 x) (Qo7 x) (Qo8 x) 6),(lstV (Qo9 x) (Qo10 x) (Qo11 x) 5)]⟩ false],0,[]⟩ j) (.br (L21_0_k1 x) (loopEnd 63 (.exit 0) [(1,(Value.pointer (Option.some (Addr.mk 0 0 Option.none))))] ⟨[.cells ⟨[(.int .i64 (Qp0 x)),(.int .i64 (Qp1 x)),(.int .i64 (Qp2 x)),(lstV (Qp3 x) (Qp4 x) (Qp5 x) 6),(lstV (Qp6 x) (Qp7 x) (Qp8 x) 5)]⟩ false],0,[]⟩ j) (.no))
def la21_0 (J:Task→List Value):Ans:=loopAns Lp21_0.c dec21_0 alt21_0 J
theorem ha21_0:∀(x:X21_0) (j:List Value)(o:Out),(alt21_0 x j).out=some o→∃d,loopR rd21_0 x=some d∧o=Lp21_0.tail d j:=by
  intro x j o h
  unfold alt21_0 at h
  cases hL:L21_0 x with
  | none=>simp [L21_0_k0,Qo0,Qo1,Qo2,Qo3,Qo4,Qo5,Qo6,Qo7,Qo8,Qo9,Qo10,Qo11,L21_0_k1,Qp0,Qp1,Qp2,Qp3,Qp4,Qp5,Qp6,Qp7,Qp8,hL,AT.out]at h
  | some d =>
    refine ⟨d,hL,?_⟩
    cases d<;>(simp only [L21_0_k0,Qo0,Qo1,Qo2,Qo3,Qo4,Qo5,Qo6,Qo7,Qo8,Qo9,Qo10,Qo11,L21_0_k1,Qp0,Qp1,Qp2,Qp3,Qp4,Qp5,Qp6,Qp7,Qp8,hL,AT.out,loopEnd,cond_true,cond_false,Option.some.injEq]at h;rw [← h];rfl)
theorem hd21_0:∀(t:Task) (c:Code)(x:X21_0),dec21_0 t=some (c,x)→c=Lp21_0.c→∃T,t=.code none (.loop Lp21_0.c) ⟨T,[],⟨Lp21_0.hp x,0,[]⟩⟩∧T.length=Lp21_0.N∧∀kv∈Lp21_0.S.zip (Lp21_0.sl x),lget T kv.1=kv.2:=by
  intro t c x h hc
  unfold dec21_0 at h
  split at h
  case h_2=>cases h
  split at h
  case h_2=>cases h
  simp only [Option.some.injEq,Prod.mk.injEq]at h
  obtain ⟨rfl,rfl⟩:=h
  subst hc
  refine ⟨_,rfl,lenIs_eq _ _ (by assumption),?_⟩
  intro kv hk
  simp only [Lp21_0,List.zip_cons_cons,List.zip_nil_right,List.mem_cons,List.not_mem_nil,or_false]at hk
  rcases hk with rfl | rfl<;>assumption
theorem kl21_0:∃J,Known Try.prog (la21_0 J):=by
  exact LoopOf.known noNG mixed ok21_0 (by decide) (by decide) (Known.or known61 (Known.or known62 (Known.or known63 known64))) (n:=60) (rd:=rd21_0) (fun x j=>T21_0  j x.v0 x.v1 x.v2 x.v3 x.v4 x.v5 x.v6 x.v7 x.v8 x.v9) dec21_0 alt21_0 hd21_0 ha21_0
structure X21_1 where
  v0:Int
  v1:Int
  v2:Int
  v3:Int
  v4:Array Value
  v5:Nat
  v6:Nat
  v7:Array Value
  v8:Nat
  v9:Nat
inductive D21_1 where
  | k0 (d0:Int) (d1:Int) (d2:Int) (d3:Int) (d4:Int) (d5:Int) (d6:Array Value) (d7:Nat) (d8:Nat) (d9:Array Value) (d10:Nat) (d11:Nat)
  | k1 (d0:Int) (d1:Int) (d2:Int) (d3:Array Value) (d4:Nat) (d5:Nat) (d6:Array Value) (d7:Nat) (d8:Nat)
def Lp21_1:LoopOf X21_1 D21_1 where
  c:=(theLoop Try.prog 21 1)
  N:=63
  M:=1
  S:=[1,7]
  sl:=fun x=>[(Value.pointer (Option.some (Addr.mk 0 0 Option.none))),(.int .i64 x.v0)]
  hp:=fun x=>[.cells ⟨[(.int .i64 x.v1),(.int .i64 x.v2),(.int .i64 x.v3),(lstV x.v4 x.v5 x.v6 6),(lstV x.v7 x.v8 x.v9 5)]⟩ false]
  ex:=fun d=>match d with | .k0 ..=>.ret | .k1 ..=>.exit 2
  pick:=fun e=>match e with | .ret=>[2,3,4] | .exit 2=>[] | _=>[]
  dv:=fun d=>match d with | .k0 d0 d1 d2 d3 d4 d5 d6 d7 d8 d9 d10 d11=>[(.int .i64 d0),(.int .i64 d1),(.int .i64 d2)] | .k1 d0 d1 d2 d3 d4 d5 d6 d7 d8=>[]
  dh:=fun d=>match d with | .k0 d0 d1 d2 d3 d4 d5 d6 d7 d8 d9 d10 d11=>[.cells ⟨[(.int .i64 d3),(.int .i64 d4),(.int .i64 d5),(lstV d6 d7 d8 6),(lstV d9 d10 d11 5)]⟩ false] | .k1 d0 d1 d2 d3 d4 d5 d6 d7 d8=>[.cells ⟨[(.int .i64 d0),(.int .i64 d1),(.int .i64 d2),(lstV d3 d4 d5 6),(lstV d6 d7 d8 5)]⟩ false]
theorem ok21_1:Lp21_1.Ok:=⟨fun x=>rfl,fun x=>rfl,fun x=>rfl,fun x=>rfl,fun d=>by cases d<;>rfl,fun d=>by cases d<;>rfl,fun d=>by cases d<;>rfl,fun d=>by cases d<;>(intro h;cases h),fun d=>by cases d<;>rfl,fun d=>by cases d<;>rfl⟩
def rd21_1 (x:X21_1):RT (Sum X21_1 D21_1):=match x with
  | ⟨v0,v1,v2,v3,v4,v5,v6,v7,v8,v9⟩ =>
     .br (decide (v0<(Int.ofNat v9))) (.br (F64_ok v1 v2 v3 (v4) v5 v6 (v7) v8 v9 v0) (.br (not (decide ((F64_0 v1 v2 v3 (v4) v5 v6 (v7) v8 v9 v0)=(0:Int)))) (.leaf (.inr (.k0 ((3:Int)) (v0) ((F64_0 v1 v2 v3 (v4) v5 v6 (v7) v8 v9 v0)) (v1) (v2) (v3) (v4) (v5) (v6) (v7) (v8) (v9)))) (.leaf (.inl ⟨(IntKind.wrap .i64 (v0+(1:Int))),v1,v2,v3,v4,v5,v6,v7,v8,v9⟩))) (.no)) (.leaf (.inr (.k1 (v1) (v2) (v3) (v4) (v5) (v6) (v7) (v8) (v9))))
theorem T21_1  (y:List Value) (v0:Int) (v1:Int) (v2:Int) (v3:Int) (v4:Array Value) (v5:Nat) (v6:Nat) (v7:Array Value) (v8:Nat) (v9:Nat):evC Try.prog (Ans.c (p61.or (p62.or (p63.or p64)))) 60 (.code none (theLoop Try.prog 21 1) ⟨sets (junkF 63 y) [(1,(Value.pointer (Option.some (Addr.mk 0 0 Option.none)))),(7,(.int .i64 v0))],[],⟨[.cells ⟨[(.int .i64 v1),(.int .i64 v2),(.int .i64 v3),(lstV v4 v5 v6 6),(lstV v7 v8 v9 5)]⟩ false],0,[]⟩⟩) (sumK 1 63 Lp21_1.pk)=(rd21_1 ⟨v0,v1,v2,v3,v4,v5,v6,v7,v8,v9⟩).out Lp21_1.enc:=by kernel_rfl
def L21_1 (x:X21_1):Option D21_1:=loopR rd21_1 x
section
variable (x:X21_1)
def L21_1_k0:Bool:=match L21_1 x with | some (.k0 ..)=>true | _=>false
def Qq0:Int:=match L21_1 x with | some (.k0 d _ _ _ _ _ _ _ _ _ _ _)=>d | _=>0
def Qq1:Int:=match L21_1 x with | some (.k0 _ d _ _ _ _ _ _ _ _ _ _)=>d | _=>0
def Qq2:Int:=match L21_1 x with | some (.k0 _ _ d _ _ _ _ _ _ _ _ _)=>d | _=>0
def Qq3:Int:=match L21_1 x with | some (.k0 _ _ _ d _ _ _ _ _ _ _ _)=>d | _=>0
def Qq4:Int:=match L21_1 x with | some (.k0 _ _ _ _ d _ _ _ _ _ _ _)=>d | _=>0
def Qq5:Int:=match L21_1 x with | some (.k0 _ _ _ _ _ d _ _ _ _ _ _)=>d | _=>0
def Qq6:Array Value:=match L21_1 x with | some (.k0 _ _ _ _ _ _ d _ _ _ _ _)=>d | _=>#[]
def Qq7:Nat:=match L21_1 x with | some (.k0 _ _ _ _ _ _ _ d _ _ _ _)=>d | _=>0
def Qq8:Nat:=match L21_1 x with | some (.k0 _ _ _ _ _ _ _ _ d _ _ _)=>d | _=>0
def Qq9:Array Value:=match L21_1 x with | some (.k0 _ _ _ _ _ _ _ _ _ d _ _)=>d | _=>#[]
def Qq10:Nat:=match L21_1 x with | some (.k0 _ _ _ _ _ _ _ _ _ _ d _)=>d | _=>0
def Qq11:Nat:=match L21_1 x with | some (.k0 _ _ _ _ _ _ _ _ _ _ _ d)=>d | _=>0
def L21_1_k1:Bool:=match L21_1 x with | some (.k1 ..)=>true | _=>false
def Qr0:Int:=match L21_1 x with | some (.k1 d _ _ _ _ _ _ _ _)=>d | _=>0
def Qr1:Int:=match L21_1 x with | some (.k1 _ d _ _ _ _ _ _ _)=>d | _=>0
def Qr2:Int:=match L21_1 x with | some (.k1 _ _ d _ _ _ _ _ _)=>d | _=>0
def Qr3:Array Value:=match L21_1 x with | some (.k1 _ _ _ d _ _ _ _ _)=>d | _=>#[]
def Qr4:Nat:=match L21_1 x with | some (.k1 _ _ _ _ d _ _ _ _)=>d | _=>0
def Qr5:Nat:=match L21_1 x with | some (.k1 _ _ _ _ _ d _ _ _)=>d | _=>0
def Qr6:Array Value:=match L21_1 x with | some (.k1 _ _ _ _ _ _ d _ _)=>d | _=>#[]
def Qr7:Nat:=match L21_1 x with | some (.k1 _ _ _ _ _ _ _ d _)=>d | _=>0
def Qr8:Nat:=match L21_1 x with | some (.k1 _ _ _ _ _ _ _ _ d)=>d | _=>0
end
def dec21_1:Task→Option (Code×X21_1)
  | .code none (.loop code) ⟨t,[],⟨[.cells ⟨[(.int .i64 v1),(.int .i64 v2),(.int .i64 v3),(.func (.via 0 ⟨[]⟩ 0 true) v4 ⟨[.slice (some ⟨0,v5,none⟩) v6 6]⟩),(.func (.via 0 ⟨[]⟩ 0 true) v7 ⟨[.slice (some ⟨0,v8,none⟩) v9 5]⟩)]⟩ false],0,[]⟩⟩ =>
    (match Nat.beq (firstReg code) 12,lenIs t 63,lget t 1,lget t 7 with
    | true,true,(Value.pointer (Option.some (Addr.mk 0 0 Option.none))),(.int .i64 v0)=>some (code,⟨v0,v1,v2,v3,v4,v5,v6,v7,v8,v9⟩)
    | _,_,_,_=>none)
  | _=>none
def alt21_1 (x:X21_1)(j:List Value):AT:=.br (L21_1_k0 x) (loopEnd 63 (.ret) [(2,(.int .i64 (Qq0 x))),(3,(.int .i64 (Qq1 x))),(4,(.int .i64 (Qq2 x)))] ⟨[.cells ⟨[(.int .i64 (Qq3 x)),(.int .i64 (Qq4 x)),(.int .i64 (Qq5 x)),(lstV (Qq6 x) (Qq7 x) (Qq8 x) 6),(lstV (Qq9 x) (Qq10 x) (Qq11 x) 5)]⟩ false],0,[]⟩ j) (.br (L21_1_k1 x) (loopEnd 63 (.exit 2) [] ⟨[.cells ⟨[(.int .i64 (Qr0 x)),(.int .i64 (Qr1 x)),(.int .i64 (Qr2 x)),(lstV (Qr3 x) (Qr4 x) (Qr5 x) 6),(lstV (Qr6 x) (Qr7 x) (Qr8 x) 5)]⟩ false],0,[]⟩ j) (.no))
def la21_1 (J:Task→List Value):Ans:=loopAns Lp21_1.c dec21_1 alt21_1 J
theorem ha21_1:∀(x:X21_1) (j:List Value)(o:Out),(alt21_1 x j).out=some o→∃d,loopR rd21_1 x=some d∧o=Lp21_1.tail d j:=by
  intro x j o h
  unfold alt21_1 at h
  cases hL:L21_1 x with
  | none=>simp [L21_1_k0,Qq0,Qq1,Qq2,Qq3,Qq4,Qq5,Qq6,Qq7,Qq8,Qq9,Qq10,Qq11,L21_1_k1,Qr0,Qr1,Qr2,Qr3,Qr4,Qr5,Qr6,Qr7,Qr8,hL,AT.out]at h
  | some d =>
    refine ⟨d,hL,?_⟩
    cases d<;>(simp only [L21_1_k0,Qq0,Qq1,Qq2,Qq3,Qq4,Qq5,Qq6,Qq7,Qq8,Qq9,Qq10,Qq11,L21_1_k1,Qr0,Qr1,Qr2,Qr3,Qr4,Qr5,Qr6,Qr7,Qr8,hL,AT.out,loopEnd,cond_true,cond_false,Option.some.injEq]at h;rw [← h];rfl)
theorem hd21_1:∀(t:Task) (c:Code)(x:X21_1),dec21_1 t=some (c,x)→c=Lp21_1.c→∃T,t=.code none (.loop Lp21_1.c) ⟨T,[],⟨Lp21_1.hp x,0,[]⟩⟩∧T.length=Lp21_1.N∧∀kv∈Lp21_1.S.zip (Lp21_1.sl x),lget T kv.1=kv.2:=by
  intro t c x h hc
  unfold dec21_1 at h
  split at h
  case h_2=>cases h
  split at h
  case h_2=>cases h
  simp only [Option.some.injEq,Prod.mk.injEq]at h
  obtain ⟨rfl,rfl⟩:=h
  subst hc
  refine ⟨_,rfl,lenIs_eq _ _ (by assumption),?_⟩
  intro kv hk
  simp only [Lp21_1,List.zip_cons_cons,List.zip_nil_right,List.mem_cons,List.not_mem_nil,or_false]at hk
  rcases hk with rfl | rfl<;>assumption
theorem kl21_1:∃J,Known Try.prog (la21_1 J):=by
  exact LoopOf.known noNG mixed ok21_1 (by decide) (by decide) (Known.or known61 (Known.or known62 (Known.or known63 known64))) (n:=60) (rd:=rd21_1) (fun x j=>T21_1  j x.v0 x.v1 x.v2 x.v3 x.v4 x.v5 x.v6 x.v7 x.v8 x.v9) dec21_1 alt21_1 hd21_1 ha21_1
structure R21 where
  r0:Int
  r1:Int
  r2:Int
structure A21 where
  a0:Int
  a1:Int
  a2:Int
  a3:Array Value
  a4:Nat
  a5:Nat
  a6:Array Value
  a7:Nat
  a8:Nat
def rt21 (a0:Int)(a1:Int)(a2:Int)(a3:Array Value)(a4:Nat)(a5:Nat)(a6:Array Value)(a7:Nat)(a8:Nat):RT R21 :=
  .br (decide ((5:Int)<(Int.ofNat a5))) (.leaf ⟨(1:Int),(0:Int),(3:Int)⟩) (.br (decide ((60:Int)<(Int.ofNat a8))) (.leaf ⟨(1:Int),(0:Int),(3:Int)⟩) (.br (F61_ok a0) (.br (not (F61_0 a0)) (.leaf ⟨(1:Int),(0:Int),(7:Int)⟩) (.br (F62_ok a1 (1:Int) (1000000:Int)) (.br (not (F62_0 a1 (1:Int) (1000000:Int))) (.leaf ⟨(1:Int),(0:Int),(7:Int)⟩) (.br (F62_ok a2 (1:Int) (1000000:Int)) (.br (not (F62_0 a2 (1:Int) (1000000:Int))) (.leaf ⟨(1:Int),(0:Int),(7:Int)⟩)
         (.sw (eqCode (Lp21_0.c) (Lp21_0.c)) true (by simp only [eqCode_self,arrEq_self]) (.br (L21_0_k0 (X21_0.mk (0:Int) a0 a1 a2 a3 a4 a5 a6 a7 a8)) (.leaf ⟨(Qo0 (X21_0.mk (0:Int) a0 a1 a2 a3 a4 a5 a6 a7 a8)),(Qo1 (X21_0.mk (0:Int) a0 a1 a2 a3 a4 a5 a6 a7 a8)),(Qo2 (X21_0.mk (0:Int) a0 a1 a2 a3 a4 a5 a6 a7 a8))⟩) (.br (L21_0_k1 (X21_0.mk (0:Int) a0 a1 a2 a3 a4 a5 a6 a7 a8))
            (.sw (eqCode (Lp21_1.c) (Lp21_1.c)) true (by simp only [eqCode_self,arrEq_self])
     (.br (L21_1_k0 (X21_1.mk (0:Int) (Qp0 (X21_0.mk (0:Int) a0 a1 a2 a3 a4 a5 a6 a7 a8)) (Qp1 (X21_0.mk (0:Int) a0 a1 a2 a3 a4 a5 a6 a7 a8)) (Qp2 (X21_0.mk (0:Int) a0 a1 a2 a3 a4 a5 a6 a7 a8)) (Qp3 (X21_0.mk (0:Int) a0 a1 a2 a3 a4 a5 a6 a7 a8)) (Qp4 (X21_0.mk (0:Int) a0 a1 a2 a3 a4 a5 a6 a7 a8)) (Qp5 (X21_0.mk (0:Int) a0 a1 a2 a3 a4 a5 a6 a7 a8)) (Qp6 (X21_0.mk (0:Int) a0 a1 a2 a3 a4 a5 a6 a7 a8)) (Qp7 (X21_0.mk (0:Int) a0 a1 a2 a3 a4 a5 a6 a7 a8)) (Qp8 (X21_0.mk (0:Int) a0 a1 a2 a3 a4 a5 a6 a7 a8)))) (.leaf ⟨(Qq0 (X21_1.mk (0:Int) (Qp0 (X21_0.mk (0:Int) a0 a1 a2 a3 a4 a5 a6 a7 a8)) (Qp1 (X21_0.mk (0:Int) a0 a1 a2 a3 a4 a5 a6 a7 a8)) (Qp2 (X21_0.mk (0:Int) a0 a1 a2 a3 a4 a5 a6 a7 a8)) (Qp3 (X21_0.mk (0:Int) a0 a1 a2 a3 a4 a5 a6 a7 a8)) (Qp4 (X21_0.mk (0:Int) a0 a1 a2 a3 a4 a5 a6 a7 a8)) (Qp5 (X21_0.mk (0:Int) a0 a1 a2 a3 a4 a5 a6 a7 a8)) (Qp6 (X21_0.mk (0:Int) a0 a1 a2 a3 a4 a5 a6 a7 a8)) (Qp7 (X21_0.mk (0:Int) a0 a1 a2 a3 a4 a5 a6 a7 a8)) (Qp8 (X21_0.mk (0:Int) a0 a1 a2 a3 a4 a5 a6 a7 a8)))),(Qq1 (X21_1.mk (0:Int) (Qp0 (X21_0.mk (0:Int) a0 a1 a2 a3 a4 a5 a6 a7 a8)) (Qp1 (X21_0.mk (0:Int) a0 a1 a2 a3 a4 a5 a6 a7 a8)) (Qp2 (X21_0.mk (0:Int) a0 a1 a2 a3 a4 a5 a6 a7 a8)) (Qp3 (X21_0.mk (0:Int) a0 a1 a2 a3 a4 a5 a6 a7 a8)) (Qp4 (X21_0.mk (0:Int) a0 a1 a2 a3 a4 a5 a6 a7 a8)) (Qp5 (X21_0.mk (0:Int) a0 a1 a2 a3 a4 a5 a6 a7 a8)) (Qp6 (X21_0.mk (0:Int) a0 a1 a2 a3 a4 a5 a6 a7 a8)) (Qp7 (X21_0.mk (0:Int) a0 a1 a2 a3 a4 a5 a6 a7 a8)) (Qp8 (X21_0.mk (0:Int) a0 a1 a2 a3 a4 a5 a6 a7 a8)))),(Qq2 (X21_1.mk (0:Int) (Qp0 (X21_0.mk (0:Int) a0 a1 a2 a3 a4 a5 a6 a7 a8)) (Qp1 (X21_0.mk (0:Int) a0 a1 a2 a3 a4 a5 a6 a7 a8)) (Qp2 (X21_0.mk (0:Int) a0 a1 a2 a3 a4 a5 a6 a7 a8)) (Qp3 (X21_0.mk (0:Int) a0 a1 a2 a3 a4 a5 a6 a7 a8)) (Qp4 (X21_0.mk (0:Int) a0 a1 a2 a3 a4 a5 a6 a7 a8)) (Qp5 (X21_0.mk (0:Int) a0 a1 a2 a3 a4 a5 a6 a7 a8)) (Qp6 (X21_0.mk (0:Int) a0 a1 a2 a3 a4 a5 a6 a7 a8)) (Qp7 (X21_0.mk (0:Int) a0 a1 a2 a3 a4 a5 a6 a7 a8)) (Qp8 (X21_0.mk (0:Int) a0 a1 a2 a3 a4 a5 a6 a7 a8))))⟩)
     (.br (L21_1_k1 (X21_1.mk (0:Int) (Qp0 (X21_0.mk (0:Int) a0 a1 a2 a3 a4 a5 a6 a7 a8)) (Qp1 (X21_0.mk (0:Int) a0 a1 a2 a3 a4 a5 a6 a7 a8)) (Qp2 (X21_0.mk (0:Int) a0 a1 a2 a3 a4 a5 a6 a7 a8)) (Qp3 (X21_0.mk (0:Int) a0 a1 a2 a3 a4 a5 a6 a7 a8)) (Qp4 (X21_0.mk (0:Int) a0 a1 a2 a3 a4 a5 a6 a7 a8)) (Qp5 (X21_0.mk (0:Int) a0 a1 a2 a3 a4 a5 a6 a7 a8)) (Qp6 (X21_0.mk (0:Int) a0 a1 a2 a3 a4 a5 a6 a7 a8)) (Qp7 (X21_0.mk (0:Int) a0 a1 a2 a3 a4 a5 a6 a7 a8)) (Qp8 (X21_0.mk (0:Int) a0 a1 a2 a3 a4 a5 a6 a7 a8)))) (.leaf ⟨(0:Int),(0:Int),(0:Int)⟩) (.no))) (.no)) (.no))) (.no))) (.no))) (.no))) (.no)))
def en21 (r:R21):Value:=(.tuple ⟨[(.int .i64 r.r0),(.int .i64 r.r1),(.int .i64 r.r2)]⟩)
theorem T21 (J0:Task→List Value)(J1:Task→List Value)(a0:Int)(a1:Int)(a2:Int)(a3:Array Value)(a4:Nat)(a5:Nat)(a6:Array Value)(a7:Nat)(a8:Nat):evC Try.prog (Ans.c (p61.or (p62.or (p63.or (p64.or ((la21_0 J0).or (la21_1 J1))))))) 60 (.call 21 ⟨[(.agg ⟨[(.int .i64 a0),(.int .i64 a1),(.int .i64 a2),(lstV a3 a4 a5 6),(lstV a6 a7 a8 5)]⟩)]⟩ ⟨[],0,[]⟩) (frzK [0,0,0])=(rt21 a0 a1 a2 a3 a4 a5 a6 a7 a8).out (fun r=>.ret (en21 r) ⟨[],0,[]⟩):=by kernel_rfl
def F21 (a0:Int)(a1:Int)(a2:Int)(a3:Array Value)(a4:Nat)(a5:Nat)(a6:Array Value)(a7:Nat)(a8:Nat):Option R21:=(rt21 a0 a1 a2 a3 a4 a5 a6 a7 a8).val
section
variable (a0:Int) (a1:Int) (a2:Int) (a3:Array Value) (a4:Nat) (a5:Nat) (a6:Array Value) (a7:Nat) (a8:Nat)
def F21_ok:Bool:=(F21 a0 a1 a2 a3 a4 a5 a6 a7 a8).isSome
def F21_0:Int:=match F21 a0 a1 a2 a3 a4 a5 a6 a7 a8 with | some r=>r.r0 | none=>0
def F21_1:Int:=match F21 a0 a1 a2 a3 a4 a5 a6 a7 a8 with | some r=>r.r1 | none=>0
def F21_2:Int:=match F21 a0 a1 a2 a3 a4 a5 a6 a7 a8 with | some r=>r.r2 | none=>0
end
def dec21:Task→Option (A21×Hp)
  | .call g ⟨[(.agg ⟨[(.int .i64 a0),(.int .i64 a1),(.int .i64 a2),(.func (.via 0 ⟨[]⟩ 0 true) a3 ⟨[.slice (some ⟨0,a4,none⟩) a5 6]⟩),(.func (.via 0 ⟨[]⟩ 0 true) a6 ⟨[.slice (some ⟨0,a7,none⟩) a8 5]⟩)]⟩)]⟩ h=>(match Nat.beq g 21 with | true=>some (⟨a0,a1,a2,a3,a4,a5,a6,a7,a8⟩,h) | false=>none)
  | _=>none
def alt21 (x:A21)(h:Hp):AT:=.br (F21_ok x.a0 x.a1 x.a2 x.a3 x.a4 x.a5 x.a6 x.a7 x.a8) (.leaf (.ret (.tuple ⟨[(.int .i64 (F21_0 x.a0 x.a1 x.a2 x.a3 x.a4 x.a5 x.a6 x.a7 x.a8)),(.int .i64 (F21_1 x.a0 x.a1 x.a2 x.a3 x.a4 x.a5 x.a6 x.a7 x.a8)),(.int .i64 (F21_2 x.a0 x.a1 x.a2 x.a3 x.a4 x.a5 x.a6 x.a7 x.a8))]⟩) h)) .no
def p21:Ans:=fnAns dec21 alt21
theorem ha21:∀(x:A21) (h:Hp)(o:Out),(alt21 x h).out=some o→∃r,(rt21 x.a0 x.a1 x.a2 x.a3 x.a4 x.a5 x.a6 x.a7 x.a8).val=some r∧o=.ret (en21 r) h:=by
  intro x h o e
  unfold alt21 at e
  simp only [AT.out]at e
  obtain ⟨g,e⟩:=cond_some e
  unfold F21_ok at g
  obtain ⟨r,hF⟩:=Option.isSome_iff_exists.1 g
  have hv:F21 x.a0 x.a1 x.a2 x.a3 x.a4 x.a5 x.a6 x.a7 x.a8=(rt21 x.a0 x.a1 x.a2 x.a3 x.a4 x.a5 x.a6 x.a7 x.a8).val:=by delta F21;exact rfl
  refine ⟨r,hv.symm.trans hF,?_⟩
  simp only [Option.some.injEq]at e
  rw [← e]
  have k0:F21_0 x.a0 x.a1 x.a2 x.a3 x.a4 x.a5 x.a6 x.a7 x.a8=r.r0:=by
    show (match F21 x.a0 x.a1 x.a2 x.a3 x.a4 x.a5 x.a6 x.a7 x.a8 with | some r=>r.r0 | none=>0)=r.r0
    rw [hF]
  have k1:F21_1 x.a0 x.a1 x.a2 x.a3 x.a4 x.a5 x.a6 x.a7 x.a8=r.r1:=by
    show (match F21 x.a0 x.a1 x.a2 x.a3 x.a4 x.a5 x.a6 x.a7 x.a8 with | some r=>r.r1 | none=>0)=r.r1
    rw [hF]
  have k2:F21_2 x.a0 x.a1 x.a2 x.a3 x.a4 x.a5 x.a6 x.a7 x.a8=r.r2:=by
    show (match F21 x.a0 x.a1 x.a2 x.a3 x.a4 x.a5 x.a6 x.a7 x.a8 with | some r=>r.r2 | none=>0)=r.r2
    rw [hF]
  rw [k0,k1,k2]<;>rfl
theorem hd21:∀(t:Task) (x:A21)(h:Hp),dec21 t=some (x,h)→t=.call 21 ⟨[(.agg ⟨[(.int .i64 x.a0),(.int .i64 x.a1),(.int .i64 x.a2),(lstV x.a3 x.a4 x.a5 6),(lstV x.a6 x.a7 x.a8 5)]⟩)]⟩ h:=by
  intro t x h e
  unfold dec21 at e
  split at e
  case h_2=>cases e
  split at e
  case h_2=>cases e
  rename_i hg
  simp only [Option.some.injEq,Prod.mk.injEq]at e
  obtain ⟨rfl,rfl⟩:=e
  rw [Nat.eq_of_beq_eq_true hg]
theorem known21:Known Try.prog p21:=by
  obtain ⟨J0,hJ0⟩:=kl21_0
  obtain ⟨J1,hJ1⟩:=kl21_1
  exact Known.fn noNG mixed (Known.or known61 (Known.or known62 (Known.or known63 (Known.or known64 (Known.or hJ0 hJ1))))) (n:=60) (zs:=[0,0,0]) 21 (fun x:A21=>[(.agg ⟨[(.int .i64 x.a0),(.int .i64 x.a1),(.int .i64 x.a2),(lstV x.a3 x.a4 x.a5 6),(lstV x.a6 x.a7 x.a8 5)]⟩)]) (fun x=>rt21 x.a0 x.a1 x.a2 x.a3 x.a4 x.a5 x.a6 x.a7 x.a8) en21 (fun x=>T21 J0 J1 x.a0 x.a1 x.a2 x.a3 x.a4 x.a5 x.a6 x.a7 x.a8) (fun x=>rfl) dec21 alt21 hd21 ha21
end
end Go.Proofs.Ytmppkpdoonljpaa
namespace Go.Proofs.Ytmppkpdoonljpaa
open Go.Gi Go.RowKit
noncomputable section
set_option maxRecDepth 100000
set_option maxHeartbeats 1000000
def inB (n lo hi:Int):Bool:=decide (lo≤n)&&decide (n≤hi)
theorem F58_of (n lo hi:Int):F58_ok n lo hi=true∧F58_0 n lo hi=inB n lo hi:=by
  have q:F58 n lo hi=some ⟨inB n lo hi⟩:=by
    unfold F58 rt58 inB
    by_cases h:lo≤n<;>simp [RT.val,h]
  exact ⟨by simp only [F58_ok,q];rfl,by simp only [F58_0,q]⟩
theorem F62_of (n lo hi:Int):F62_ok n lo hi=true∧F62_0 n lo hi=inB n lo hi:=by
  have q:F62 n lo hi=some ⟨inB n lo hi⟩:=by
    unfold F62 rt62 inB
    by_cases h:lo≤n<;>simp [RT.val,h]
  exact ⟨by simp only [F62_ok,q];rfl,by simp only [F62_0,q]⟩
theorem F61_of (n:Int):F61_ok n=true∧F61_0 n=inB n 0 100000:=by
  have q:F61 n=some ⟨inB n 0 100000⟩:=by
    unfold F61 rt61 inB
    by_cases h:(0:Int)≤n<;>simp [RT.val,h]
  exact ⟨by simp only [F61_ok,q];rfl,by simp only [F61_0,q]⟩
theorem F57_of (n:Int):F57_ok n=true∧F57_0 n=inB n 0 100000:=by
  have q:F57 n=some ⟨inB n 0 100000⟩:=by
    unfold F57 rt57
    simp only [RT.val,(F58_of _ _ _).1,(F58_of _ _ _).2,cond_true]
  exact ⟨by simp only [F57_ok,q];rfl,by simp only [F57_0,q]⟩
theorem F97_of (n:Int):F97_ok n=true∧F97_0 n=inB n (-100000000) 100000000:=by
  have q:F97 n=some ⟨inB n (-100000000) 100000000⟩:=by
    unfold F97 rt97
    simp only [RT.val,(F58_of _ _ _).1,(F58_of _ _ _).2,cond_true]
  exact ⟨by simp only [F97_ok,q];rfl,by simp only [F97_0,q]⟩
theorem F98_of (n:Int):F98_ok n=true∧F98_0 n=inB n (-2000000000) 2000000000:=by
  have q:F98 n=some ⟨inB n (-2000000000) 2000000000⟩:=by
    unfold F98 rt98
    simp only [RT.val,(F58_of _ _ _).1,(F58_of _ _ _).2,cond_true]
  exact ⟨by simp only [F98_ok,q];rfl,by simp only [F98_0,q]⟩
theorem rd_and {c:Array Value}{l:Leaf}{L:List Leaf}{i:Nat}(h:rdOk c (l::L) i=true):(rdLeaf c l i).1=true∧rdOk c L (i+1)=true:=by
  simpa only [rdOk,Bool.and_eq_true] using h
theorem dbS {S D:Type}(u v a b:Int) (s:S) (d:D):cond (decide (u=a)) (cond (decide (v=b)) (some (Sum.inr d)) (some (Sum.inl s))) (some (Sum.inl s))=some (if (if u=a then (if v=b then (5:Int) else 0) else 0)=0 then Sum.inl s else Sum.inr d):=by
  by_cases q1:u=a<;>by_cases q2:v=b<;>simp [q1,q2]
def S6:List Leaf:=[Leaf.str,(Leaf.int .i64),(Leaf.int .i64),(Leaf.int .i64),(Leaf.int .i64),(Leaf.int .i64)]
def I5:List Leaf:=[(Leaf.int .i64),(Leaf.int .i64),(Leaf.int .i64),(Leaf.int .i64),(Leaf.int .i64)]
theorem srow6 {c:Array Value}{n k:Nat}(h:GL S6 6 c n) (hk:k<n):rdOk c S6 (0+k*6)=true:=h.good.2 k hk
theorem row5 {c:Array Value}{n k:Nat}(h:GL I5 5 c n) (hk:k<n):rdOk c I5 (0+k*5)=true:=h.good.2 k hk
def twE (c:Array Value)(s:ByteArray)(j:Nat):Int:=if strEq (getStr c (0+j*6)) s=true then 5 else 0
def dbE (c:Array Value)(u v:Int)(j:Nat):Int:=if getInt c (0+j*5)=u then (if getInt c (0+j*5+1)=v then 5 else 0) else 0
def trN (a b c e f:Int):Bool:=inB a (-100000000) 100000000&&(inB b (-100000000) 100000000&&(inB c 0 10000000&&(inB e 0 10000&&inB f 0 600)))
def trK (c:Array Value)(k:Nat):Int :=
  if nmB (getStr c (0+k*6))=true then (if (fst1 (twE c (getStr c (0+k*6))) k 0).isSome=true then 5 else
    (if trN (getInt c (0+k*6+1)) (getInt c (0+k*6+1+1)) (getInt c (0+k*6+1+1+1)) (getInt c (0+k*6+1+1+1+1)) (getInt c (0+k*6+1+1+1+1+1))=true then 0 else 7)) else 6
def plK (w t:Int)(c:Array Value)(k:Nat):Int :=
  if inB (getInt c (0+k*5)) 0 w=true then
    (if (inB (getInt c (0+k*5+1)) t 100000&&(inB (getInt c (0+k*5+1+1)) (-2000000000) 2000000000&&(inB (getInt c (0+k*5+1+1+1)) (-2000000000) 2000000000&&inB (getInt c (0+k*5+1+1+1+1)) (-2000000000) 2000000000)))=true then
      (if (fst1 (dbE c (getInt c (0+k*5)) (getInt c (0+k*5+1))) k 0).isSome=true then 5 else 0) else 7) else 4
section
variable {ca cp:Array Value}{na np k:Nat}{t0 g1 g2:Int}{s:ByteArray}{a1 a2 a3 a4 a5:Int}
theorem step59 (g:GL S6 6 ca na)(few:na≤1000)(hkn:k≤na)(j:Nat)(hj:j<k):(rd59_0 ⟨ca,0,k,(k:Int),(j:Int),s,a1,a2,a3,a4,a5⟩).val =
    some (if twE ca s j=0 then .inl ⟨ca,0,k,(k:Int),((j+1:Nat):Int),s,a1,a2,a3,a4,a5⟩ else .inr (.k0 5 s a1 a2 a3 a4 a5)):=by
  have hji:(j:Int)<(k:Int):=by omega
  have h0:(0:Int)≤(j:Int):=by omega
  have h3:IntKind.wrap .i64 ((j:Int)+1)=((j+1:Nat):Int):=by rw [wrap64_id (by omega) (by omega)];omega
  have hr:rdOk ca S6 (0+j*6)=true:=srow6 g (by omega)
  unfold S6 at hr
  unfold twE
  simp only [rd59_0,RT.val,hji,h0,h3,hr,Int.toNat_natCast,Int.ofNat_eq_natCast,decide_true,Bool.and_self,cond_true]
  cases strEq (getStr ca (0+j*6)) s<;>rfl
theorem step63 (g:GL S6 6 ca na)(few:na≤1000)(hkn:k<na)(j:Nat)(hj:j<k):(rd63_0 ⟨(k:Int),(j:Int),t0,g1,g2,ca,0,na,cp,0,np,s,a1,a2,a3,a4,a5⟩).val =
    some (if twE ca s j=0 then .inl ⟨(k:Int),((j+1:Nat):Int),t0,g1,g2,ca,0,na,cp,0,np,s,a1,a2,a3,a4,a5⟩ else .inr (.k0 5 t0 g1 g2 ca 0 na cp 0 np s a1 a2 a3 a4 a5)):=by
  have hji:(j:Int)<(k:Int):=by omega
  have hjn:(j:Int)<(na:Int):=by omega
  have h0:(0:Int)≤(j:Int):=by omega
  have h3:IntKind.wrap .i64 ((j:Int)+1)=((j+1:Nat):Int):=by rw [wrap64_id (by omega) (by omega)];omega
  have hr:rdOk ca S6 (0+j*6)=true:=srow6 g (by omega)
  unfold S6 at hr
  have hi:isStr ca (0+j*6)=true:=(rd_and hr).1
  unfold twE
  simp only [rd63_0,RT.val,hji,hjn,h0,h3,hi,Int.toNat_natCast,Int.ofNat_eq_natCast,Nat.add_zero,decide_true,Bool.and_self,cond_true]
  cases strEq (getStr ca (0+j*6)) s<;>rfl
theorem step60 (g:GL I5 5 cp np)(few:np≤1000)(hkn:k≤np)(j:Nat)(hj:j<k):(rd60_0 ⟨cp,0,k,(k:Int),(j:Int),t0,g1,g2,ca,0,na,cp,0,np,a1,a2,a3,a4,a5⟩).val =
    some (if dbE cp a1 a2 j=0 then .inl ⟨cp,0,k,(k:Int),((j+1:Nat):Int),t0,g1,g2,ca,0,na,cp,0,np,a1,a2,a3,a4,a5⟩ else .inr (.k0 5 t0 g1 g2 ca 0 na cp 0 np a1 a2 a3 a4 a5)):=by
  have hji:(j:Int)<(k:Int):=by omega
  have h0:(0:Int)≤(j:Int):=by omega
  have h3:IntKind.wrap .i64 ((j:Int)+1)=((j+1:Nat):Int):=by rw [wrap64_id (by omega) (by omega)];omega
  have hr:rdOk cp I5 (0+j*5)=true:=row5 g (by omega)
  unfold I5 at hr
  unfold dbE
  simp only [rd60_0,RT.val,hji,h0,h3,hr,Int.toNat_natCast,Int.ofNat_eq_natCast,decide_true,Bool.and_self,cond_true]
  exact dbS _ _ _ _ _ _
theorem step64 (g:GL I5 5 cp np)(few:np≤1000)(hkn:k<np)(j:Nat)(hj:j<k):(rd64_0 ⟨(k:Int),(j:Int),t0,g1,g2,ca,0,na,cp,0,np,a1,a2,a3,a4,a5⟩).val =
    some (if dbE cp a1 a2 j=0 then .inl ⟨(k:Int),((j+1:Nat):Int),t0,g1,g2,ca,0,na,cp,0,np,a1,a2,a3,a4,a5⟩ else .inr (.k0 5 t0 g1 g2 ca 0 na cp 0 np a1 a2 a3 a4 a5)):=by
  have hji:(j:Int)<(k:Int):=by omega
  have hjn:(j:Int)<(np:Int):=by omega
  have h0:(0:Int)≤(j:Int):=by omega
  have h3:IntKind.wrap .i64 ((j:Int)+1)=((j+1:Nat):Int):=by rw [wrap64_id (by omega) (by omega)];omega
  have hr:rdOk cp I5 (0+j*5)=true:=row5 g (by omega)
  unfold I5 at hr
  have i1:isInt .i64 cp (0+j*5)=true:=(rd_and hr).1
  have i2:isInt .i64 cp (0+j*5+1)=true:=(rd_and (rd_and hr).2).1
  unfold dbE
  simp only [rd64_0,RT.val,hji,hjn,h0,h3,i1,i2,Int.toNat_natCast,Int.ofNat_eq_natCast,Nat.add_zero,decide_true,Bool.and_self,cond_true]
  exact dbS _ _ _ _ _ _
end
end
end Go.Proofs.Ytmppkpdoonljpaa
namespace Go.Proofs.Ytmppkpdoonljpaa
open Go.ChangeShapes Go.WideShapes Go.ChangeAt Go.RowKit Go.Gi
set_option maxRecDepth 100000
theorem own:ownKnob Try.prog.godebug=none:=by kernel_rfl
theorem laidOut:laidOutB Try.prog=true:=by kernel_rfl
theorem flat95:flatT Try.prog 18 95=true:=by kernel_rfl
theorem leaves95:leaves Try.prog false 18 95=S6:=by kernel_rfl
theorem cells95:Try.prog.cellsOf 95=6:=by kernel_rfl
theorem flat87:flatT Try.prog 18 87=true:=by kernel_rfl
theorem leaves87:leaves Try.prog false 18 87=I5:=by kernel_rfl
theorem cells87:Try.prog.cellsOf 87=5:=by kernel_rfl
theorem tyB25:tyB Try.prog 20 25=true:=by kernel_rfl
def Tsk (abs:List Value):Prop:=∃t0 g1 g2 ca na cp np,abs=[.int .i64 t0,.int .i64 g1,.int .i64 g2,lstV ca 0 na 6,lstV cp 0 np 5]∧GL S6 6 ca na∧GL I5 5 cp np
theorem tsk {abs:List Value}(h:Ty Try.prog 20 25 abs):Tsk abs:=by
  obtain ⟨p0,p1,p2,p3,p4,rfl,h0,h1,h2,h3,h4⟩:=tyS5 Try.underlying25 h
  obtain ⟨t0,rfl,_⟩:=tyI Try.underlying3 h0
  obtain ⟨g1,rfl,_⟩:=tyI Try.underlying3 h1
  obtain ⟨g2,rfl,_⟩:=tyI Try.underlying3 h2
  obtain ⟨ca,na,rfl,q1⟩:=tyG Try.underlying22 flat95 cells95 leaves95 rfl (by decide) h3
  obtain ⟨cp,np,rfl,q2⟩:=tyG Try.underlying23 flat87 cells87 leaves87 rfl (by decide) h4
  exact ⟨t0,g1,g2,ca,na,cp,np,rfl,q1,q2⟩
section
variable {H:Type}{enc:TypeId×Value→H}{w:World}{r:Reach}{b0:Nat}{v:Value}{dd:DataW H}{p:List MemPlace}
theorem tskArg (hval:Value.okWide Try.prog w r b0 25 v)(h:DataW.Trod enc Try.prog w 0 (fun _=>true) true 25 v dd p):∃abs,VR (zAll w) (.agg ⟨abs⟩) v∧Tsk abs:=by
  obtain ⟨abs,h1,h2⟩:=argS Try.underlying25 tyB25 hval h
  exact ⟨abs,h1,tsk h2⟩
end
end Go.Proofs.Ytmppkpdoonljpaa
namespace Go.Gi
open Go.RowKit
noncomputable section
def AnyOk (P:Program)(os:Array Oper) (s s':St):Prop :=
  s.h.base≤s.h.bl.length→Pres s.h s'.h∧∀(K:Nat→Prop) (w0:World) (φ:Phi) (w:World) (a:Act) (F:Fence) (n:Nat) (rd:Option Nat) (Q:Exit→Act→World→Prop),
    Inv K w0 φ s.h.bl w→VRs φ s.t.toArray a.tmps→DRs φ s.d a.defers→FenceOk φ rd F→(∀x a w',CodeR K w0 φ .normal s' x a w'→Q x a w')→wpAnyIn F n P .any os Q os.size (Array.replicate os.size false) a { w with drawn:=w.drawn+1 }
theorem drawn_any {P:Program}{self:Self}(hN:NoNG P) (hs:SelfOk P self) {rd:Option Nat}{id:Nat}{os:Array Oper}{s:St}{o:Out}(h:drawn P self rd id os s=some o):∃s',o=.ex .normal s'∧AnyOk P os s s':=by
  unfold drawn at h
  split at h
  case isFalse=>cases h
  rename_i hp
  split at h
  case h_2=>cases h
  rename_i recs T h1 hr
  split at h
  case isFalse=>cases h
  rename_i hc
  simp only [Option.some.injEq]at h
  subst h
  have p:=plan_of hp hr hc
  refine ⟨_,rfl,fun hb=>⟨(p.tr.pres hs hb).1,?_⟩⟩
  intro K w0 φ w a F n rd Q hI ht hd hF hQ
  have h0:∀j,(Array.replicate os.size false).getD j false=false:=fun j=>by
    simp only [Array.getD_eq_getD_getElem?,Array.getElem?_replicate]
    split<;>rfl
  refine p.run hN hs hb os.size _ (List.range os.size) φ a _ (by simp) ?_ ?_ (by simp) ?_ ?_ hd hF hQ
  · intro j k hj;simp only [h0]at hj;cases hj
  · intro i hi _;exact List.mem_range.2 hi
  · rw [HD_none _ fun r _ _=>h0 r.i];exact hI.drew
  · rw [TD_none _ fun r _=>h0 r.i];exact ht
theorem drawnF_any {P:Program}{self:Self}(hN:NoNG P) (hs:SelfOk P self) {rd:Option Nat}{id:Nat}{os:Array Oper}{s:St}{o:Out}(h:drawnF P self rd id os s=some o):∃s',o=.ex .normal s'∧AnyOk P os s s':=by
  unfold drawnF at h
  split at h
  case isFalse=>cases h
  rename_i hp
  split at h
  case h_2=>cases h
  rename_i recs T h1 hr
  split at h
  case isFalse=>cases h
  rename_i hc
  simp only [Option.some.injEq]at h
  subst h
  simp only [Bool.and_eq_true]at hc
  have p:=planF_of hp hr hc.1 hc.2.1
  have hdl:∀r∈recs,r.loud=true→isAl r.o=true→∀t,r.o.dst=some t→t<s.t.length:=by
    intro r hr hl ha t ht
    have:=hc.2.2
    rw [List.all_eq_true]at this
    have:=this r hr
    rw [hl,ha,ht]at this
    simpa using this
  refine ⟨_,rfl,fun hb=>⟨(p.tr.pres hs hb).1,?_⟩⟩
  intro K w0 φ w a F n rd Q hI ht hd hF hQ
  have h0:∀j,(Array.replicate os.size false).getD j false=false:=fun j=>by
    simp only [Array.getD_eq_getD_getElem?,Array.getElem?_replicate]
    split<;>rfl
  have hnf:∀r,¬IsFl recs (fun j=>(Array.replicate os.size false).getD j false) (fun _=>false) r:=fun r hr=>by have:=hr.2.2.2.1;simp only [h0]at this;cases this
  have hI':=hI.drew
  refine p.run hN hs hb hdl os.size _ (List.range os.size) (fun _=>false) (fun _=>0) φ s.t a _ (by simp) ?_ (by simp) ?_ hd hF hQ
  · intro i hi _;exact List.mem_range.2 hi
  · refine ⟨fun i hi=>by (cases hi),fun r _ hD=>by (simp only [h0]at hD;cases hD),pw_all fun _ _ _ _ _ _ h=>by (cases h),fun j k hj=>by (simp only [h0]at hj;cases hj),rfl,fun t _=>?_,ht,?_,?_,fun r hr=>(hnf r hr).elim,fun r _ hr=>(hnf r hr).elim,fun r hr=>(hnf r hr).elim⟩
    · rw [TD_none _ fun r _=>rfl]
    · rw [HD_none _ fun r _ _=>rfl]
      refine hI'.rebase.weaken ?_
      rintro k (hk | ⟨r,hr,_⟩)
      · exact hk
      · exact (hnf r hr).elim
    · exact ⟨hI'.keep,hI'.klt,hI'.size,hI'.os,hI'.tape,hI'.output⟩
theorem drawnX_any {P:Program}{self:Self}(hN:NoNG P) (hs:SelfOk P self) {rd:Option Nat}{id:Nat}{os:Array Oper}{s:St}{o:Out}(h:drawnX P self rd id os s=some o):∃s',o=.ex .normal s'∧AnyOk P os s s':=by
  unfold drawnX at h
  split at h
  · exact drawnF_any hN hs h
  · exact drawn_any hN hs h
theorem blt_lt {a b:Nat}(h:Nat.blt a b=true):a<b:=by rwa [Nat.blt_eq]at h
def depsAt (os:Array Oper)(i:Nat):List Nat:=((os[i]?).map depsOf).getD []
def depsAsc (os:Array Oper):Bool:=(List.range os.size).all fun i=>(depsAt os i).all fun d=>Nat.blt d i
def guardsIn (os:Array Oper)(m:Nat):Bool:=(List.range m).all fun i=>match (os[i]?).bind (·.guard) with
  | none=>true
  | some (j,_)=>Nat.blt j m
def ancs (os:Array Oper):Nat→List Nat→List Nat
  | 0,s=>s
  | f+1,s=>ancs os f (s++((s.flatMap (depsAt os)).filter fun d=>!s.contains d).eraseDups)
def waits (os:Array Oper)(m:Nat):Bool:=depsAsc os&&(guardsIn os m&&(List.range m).all fun j=>(ancs os m (depsAt os m)).contains j)
theorem dep_mem {os:Array Oper}{i:Nat}{o:Oper}(ho:os[i]?=some o) {d:Nat}:d∈depsAt os i↔∃e∈o.after,Region.binds .any e=true∧e.on=d:=by
  unfold depsAt depsOf
  rw [ho]
  simp only [Option.map_some,Option.getD_some,List.mem_map,List.mem_filter,Array.mem_toList_iff,and_assoc]
def ShutL (os:Array Oper)(D:Nat→Prop):Prop:=∀i,D i→∀d∈depsAt os i,D d
theorem ancs_ok {os:Array Oper}{D:Nat→Prop}(hs:ShutL os D):∀(f:Nat) (s:List Nat),(∀i∈s,D i)→∀i∈ancs os f s,D i
  | 0,s,h=>h
  | f+1,s,h=>by
    refine ancs_ok hs f _ fun i hi=>?_
    rcases List.mem_append.1 hi with hi | hi
    · exact h i hi
    · rw [List.mem_eraseDups]at hi
      obtain ⟨hi,_⟩:=List.mem_filter.1 hi
      obtain ⟨j,hj,hij⟩:=List.mem_flatMap.1 hi
      exact hs j (h j hj) i hij
section
variable {P:Program}{F:Fence}{n:Nat}{Q:Exit→Act→World→Prop}
theorem upon_q {o:Oper}{a:Act}{K:Act→World→Prop} {Q':Exit→Act→World→Prop}(hq:∀c a w,Q' (.panic c) a w→Q (.panic c) a w) (hl:LetsOut Q'→LetsOut Q) {r:Result Next}(h:o.uponIn F n P a K Q' r):o.uponIn F n P a K Q r:=by
  cases r with
  | ok x w' =>
    cases x<;>simp only [Oper.uponIn]at h ⊢ <;>
      first
        | exact h
        | exact ⟨h.1,CallsIn.mono h.2 (fun e w'' he=>by cases e<;>first | exact he | exact hq _ _ _ he | exact hl he)⟩
        | exact ⟨h.1,RowsIn.mono h.2 (fun _ _ he=>he)⟩
        | exact ⟨h.1,RoundIn.mono h.2 (fun e w'' he=>by cases e<;>first | exact he | exact hq _ _ _ he | exact hl he)⟩
  | halt x w'=>cases x<;>simp only [Oper.uponIn]at h ⊢<;>first | exact h | exact hq _ _ _ h
theorem any_full {os:Array Oper}{a:Act}{w:World}:∀(fuel:Nat) (listed:Array Bool),(∀j,j<os.size→listed.getD j true=true)→Q .normal a w→wpAnyIn F n P .any os Q fuel listed a w:=by
  intro fuel listed hl hq
  have hr:Region.ready .any os listed=[]:=by
    rw [List.eq_nil_iff_forall_not_mem]
    intro i hi
    rw [mem_ready]at hi
    obtain ⟨h1,o,h2,_⟩:=hi
    rw [hl i (Array.getElem?_eq_some_iff.1 h2).1]at h1;cases h1
  cases fuel with
  | zero=>exact ⟨hr,hq⟩
  | succ fuel=>exact ⟨fun _=>hq,fun i hi=>by rw [hr]at hi;cases hi⟩
theorem getD_tf {l:Array Bool}{j:Nat}(h:j<l.size):l.getD j true=l.getD j false:=by
  simp only [Array.getD_eq_getD_getElem?,Array.getElem?_eq_getElem h,Option.getD_some]
def behind (F:Fence)(n:Nat)(P:Program)(os:Array Oper)(m:Nat)(Q:Exit→Act→World→Prop):Exit→Act→World→Prop
  | .normal,a,w=>wpOpsIn F n P os Q [m] a w
  | e,a,w=>Q e a w
theorem any_last {os:Array Oper}{m:Nat}(hsz:os.size=m+1) (hw:waits os m=true):∀(fuel:Nat) (listed:Array Bool) (a:Act) (w:World),listed.size=m+1→listed.getD m false=false →
    ShutL os (fun j=>listed.getD j false=true)→wpAnyIn F n P .any os.pop (behind F n P os m Q) fuel listed.pop a w→wpAnyIn F n P .any os Q (fuel+1) listed a w:=by
  simp only [waits,Bool.and_eq_true]at hw
  obtain ⟨hasc,hgu,hanc⟩:=hw
  have hpop:∀j,j<m→os.pop[j]?=os[j]?:=fun j hj=>by
    rw [Array.getElem?_pop]
    rw [if_pos (by omega)]
  have hlp:∀(l:Array Bool),l.size=m+1→∀j d,j<m→l.pop.getD j d=l.getD j d:=fun l hl j d hj=>by
    simp only [Array.getD_eq_getD_getElem?,Array.getElem?_pop]
    rw [if_pos (by omega)]
  have hdep:∀i,i<m+1→∀d∈depsAt os i,d<i:=fun i hi d hd=>by
    simp only [depsAsc,List.all_eq_true,List.mem_range,hsz]at hasc
    exact blt_lt (hasc i hi d hd)
  have hready:∀(listed:Array Bool),listed.size=m+1→∀i,i<m→(i∈Region.ready .any os.pop listed.pop↔i∈Region.ready .any os listed):=by
    intro listed hl i hi
    rw [mem_ready,mem_ready,hpop i hi,hlp listed hl i true hi]
    constructor
    · rintro ⟨h1,o,h2,h3⟩
      refine ⟨h1,o,h2,fun e he hb=>?_⟩
      have:=h3 e he hb
      rwa [hlp listed hl e.on false (by have:=hdep i (by omega) e.on ((dep_mem h2).2 ⟨e,he,hb,rfl⟩);omega)]at this
    · rintro ⟨h1,o,h2,h3⟩
      refine ⟨h1,o,h2,fun e he hb=>?_⟩
      rw [hlp listed hl e.on false (by have:=hdep i (by omega) e.on ((dep_mem h2).2 ⟨e,he,hb,rfl⟩);omega)]
      exact h3 e he hb
  have hlast:∀(listed:Array Bool),listed.size=m+1→ShutL os (fun j=>listed.getD j false=true)→m∈Region.ready .any os listed→∀j,j<m→listed.getD j false=true:=by
    intro listed hl hs hm j hj
    rw [mem_ready]at hm
    obtain ⟨_,o,ho,h3⟩:=hm
    simp only [List.all_eq_true,List.mem_range]at hanc
    have:=hanc j hj
    rw [List.contains_iff_mem]at this
    refine ancs_ok hs m _ (fun d hd=>?_) j this
    obtain ⟨e,he,hb,rfl⟩:=(dep_mem ho).1 hd
    exact h3 e he hb
  have hnone:∀(listed:Array Bool),listed.size=m+1→Region.ready .any os.pop listed.pop=[]→∀j,j<m→listed.getD j false=true:=by
    intro listed hl hr j
    induction j using Nat.strongRecOn with
    | _ j ih =>
      intro hj
      cases hc:listed.getD j false with
      | true=>rfl
      | false =>
        exfalso
        have hlt:j<os.size:=by omega
        have ho:os[j]?=some os[j]:=Array.getElem?_eq_getElem hlt
        have:j∈Region.ready .any os.pop listed.pop:=by
          rw [hready listed hl j hj,mem_ready]
          refine ⟨by rw [getD_tf (by omega)];exact hc,_,ho,fun e he hb=>?_⟩
          have hd:=hdep j (by omega) e.on ((dep_mem ho).2 ⟨e,he,hb,rfl⟩)
          exact ih e.on hd (by omega)
        rw [hr]at this;cases this
  have hall:∀(listed:Array Bool),listed.size=m+1→(∀j,j<m→listed.getD j false=true)→∀j,j<os.size→(listed.setIfInBounds m true).getD j true=true:=by
    intro listed hl h j hj
    by_cases hjm:j=m
    · subst hjm;simp [Array.getD_eq_getD_getElem?,hl]
    · rw [getD_set_ne true (Ne.symm hjm),getD_tf (by omega)]
      exact h j (by omega)
  have hend:∀(fuel:Nat) (listed:Array Bool) (a:Act) (w:World),listed.size=m+1→listed.getD m false=false→ShutL os (fun j=>listed.getD j false=true)→(∀j,j<m→listed.getD j false=true)→wpOpsIn F n P os Q [m] a w→wpAnyIn F n P .any os Q (fuel+1) listed a w:=by
    intro fuel listed a w hl hlm hs h hq
    have hms:m<os.size:=by omega
    have ho:os[m]?=some os[m]:=Array.getElem?_eq_getElem hms
    have hmr:m∈Region.ready .any os listed:=by
      rw [mem_ready]
      refine ⟨by rw [getD_tf (by omega)];exact hlm,_,ho,fun e he hb=>?_⟩
      exact h e.on (hdep m (by omega) e.on ((dep_mem ho).2 ⟨e,he,hb,rfl⟩))
    refine ⟨fun hr=>(by rw [hr]at hmr;cases hmr),fun i hi=>?_⟩
    have him:i=m:=by
      rw [mem_ready]at hi
      obtain ⟨h1,o,h2,_⟩:=hi
      have hi2:i<os.size:=(Array.getElem?_eq_some_iff.1 h2).1
      by_cases hlt:i<m
      · rw [getD_tf (by omega),h i hlt]at h1;cases h1
      · omega
    subst him
    rw [wpOpsIn_cons]at hq
    refine wpOpIn_mono (fun a w hk=>?_) hq
    exact any_full _ _ (hall listed hl h) hk
  intro fuel
  induction fuel with
  | zero =>
    intro listed a w hl hlm hs hh
    have hr:=hh.1
    have hq:=hh.2
    exact hend 0 listed a w hl hlm hs (hnone listed hl hr) hq
  | succ fuel ih =>
    intro listed a w hl hlm hs hh
    obtain ⟨hq,hi'⟩:=hh
    cases hr:Region.ready .any os.pop listed.pop with
    | nil=>exact hend (fuel+1) listed a w hl hlm hs (hnone listed hl hr) (hq hr)
    | cons x xs =>
      have hxm:∀i,i∈Region.ready .any os.pop listed.pop→i<m:=fun i hi=>by
        rw [mem_ready]at hi
        obtain ⟨_,o,h2,_⟩:=hi
        have:=(Array.getElem?_eq_some_iff.1 h2).1
        simp at this;omega
      have hx:x∈Region.ready .any os.pop listed.pop:=by rw [hr];simp
      have hxl:=(hready listed hl x (hxm x hx)).1 hx
      refine ⟨fun h=>(by rw [h]at hxl;cases hxl),fun i hi=>?_⟩
      by_cases him:i=m
      · subst him
        have:=hlast listed hl hs hi x (hxm x hx)
        rw [mem_ready]at hxl
        rw [getD_tf (by have:=hxm x hx;omega),this]at hxl
        cases hxl.1
      · have hilt:i<m:=by
          rw [mem_ready]at hi
          obtain ⟨_,o,h2,_⟩:=hi
          have:=(Array.getElem?_eq_some_iff.1 h2).1
          omega
        have h1:=hi' i ((hready listed hl i hilt).2 hi)
        have hlo:(listed.setIfInBounds i true).pop=listed.pop.setIfInBounds i true:=by
          apply Array.ext_getElem?
          intro j
          simp only [Array.getElem?_pop,Array.getElem?_setIfInBounds,Array.size_setIfInBounds,Array.size_pop]
          by_cases hj:j<listed.size-1
          · simp only [if_pos hj]
            by_cases hij:i=j
            · subst hij;simp [hj];omega
            · simp [hij]
          · simp only [if_neg hj]
            by_cases hij:i=j
            · subst hij;omega
            · simp [hij]
        have hrec:∀(a:Act) (w:World),wpAnyIn F n P .any os.pop (behind F n P os m Q) fuel (listed.pop.setIfInBounds i true) a w→wpAnyIn F n P .any os Q (fuel+1) (listed.setIfInBounds i true) a w:=by
          intro a w hk
          refine ih _ a w (by simp [hl]) ?_ ?_ (by rw [hlo];exact hk)
          · rw [getD_set_ne false him];exact hlm
          · intro j hj d hd
            have hi2:=hi
            rw [mem_ready]at hi2
            obtain ⟨_,o,h2,h3⟩:=hi2
            by_cases hji:j=i
            · subst hji
              obtain ⟨e,he,hb,rfl⟩:=(dep_mem h2).1 hd
              exact getD_set_true (h3 e he hb)
            · rw [getD_set_ne false (Ne.symm hji)]at hj
              exact getD_set_true (hs j hj d hd)
        have ho:=hpop i hilt
        unfold wpOpIn at h1 ⊢
        rw [ho]at h1
        split at h1
        · rename_i he;exact hrec a w h1
        · rename_i o he
          have hwant:Region.wanted o (yielded os.pop a.tmps)=Region.wanted o (yielded os a.tmps):=by
            unfold Region.wanted
            split
            · rfl
            · rename_i j want hg
              have:j<m:=by
                simp only [guardsIn,List.all_eq_true,List.mem_range]at hgu
                have:=hgu i hilt
                rw [he]at this
                simp only [Option.bind_some,hg]at this
                exact blt_lt this
              unfold yielded
              rw [hpop j this]
          rw [hwant]at h1
          split at h1
          · rename_i hwt
            rw [if_pos hwt]
            refine Oper.wpIn_mono (fun a w hk=>hrec a w hk) ⟨h1.1,upon_q (fun _ _ _ h=>h) (fun h=>h) h1.2⟩
          · rename_i hwt
            rw [if_neg hwt]
            exact ⟨h1.1,hrec _ _ h1.2⟩
end
def drawnW (P:Program)(self:Self)(rd:Option Nat)(id:Nat)(os:Array Oper)(s:St):Option Out :=
  match waits os (os.size-1)&&Nat.blt 0 os.size with
  | true=>(match drawnX P self rd id os.pop s with
    | some (.ex .normal s')=>runOps P self rd os [os.size-1] s'
    | _=>none)
  | false=>drawnX P self rd id os s
theorem drawnW_ok {P:Program}(hN:NoNG P) (hm:P.follows .mixedOrders=true):DrawnOk P drawnW:=by
  intro self hs rd id os s o h
  unfold drawnW at h
  split at h
  · rename_i hw
    rw [Bool.and_eq_true]at hw
    obtain ⟨hw,hz⟩:=hw
    have hz:0<os.size:=blt_lt hz
    obtain ⟨m,hm1⟩:∃m,os.size=m+1:=⟨os.size-1,by omega⟩
    rw [hm1,Nat.add_sub_cancel]at h hw
    split at h
    case h_2=>cases h
    rename_i s' hd1
    obtain ⟨s2,he,hA⟩:=drawnX_any hN hs hd1
    cases he
    by_cases hb:s.h.base≤s.h.bl.length
    · obtain ⟨hp,hA⟩:=hA hb
      have hb':s'.h.base≤s'.h.bl.length:=by rw [hp.base];exact Nat.le_trans hb hp.len
      obtain ⟨e,s3,rfl,hp2,hh⟩:=runOps_sound hN hs _ s' o h hb'
      refine fun _=>⟨hp.trans hp2,?_⟩
      intro K w0 φ w a F n hI ht hd hF
      refine wpIn_region_any hm ?_
      rw [hm1]
      have hrep:∀j,(Array.replicate (m+1) false).getD j false=false:=fun j=>by
        simp only [Array.getD_eq_getD_getElem?,Array.getElem?_replicate]
        split<;>rfl
      refine any_last hm1 hw m _ a _ (by simp) (hrep m) (fun i hi=>by have hi:(Array.replicate (m+1) false).getD i false=true:=hi;rw [hrep]at hi;cases hi) ?_
      have:=hA K w0 φ w a F n rd (behind F n P os m (CodeR K w0 φ e s3)) hI ht hd hF (fun x a w' hc=>?_)
      · have e1:(Array.replicate (m+1) false).pop=Array.replicate os.pop.size false:=by
          apply Array.ext_getElem?
          intro j
          simp only [Array.getElem?_pop,Array.getElem?_replicate,Array.size_replicate,Array.size_pop,hm1]
          by_cases hj:j<m
          · simp [hj];omega
          · simp [hj]
        have e2:os.pop.size=m:=by simp [hm1]
        rw [e1]
        rw [e2]at this ⊢
        exact this
      · obtain ⟨φ',hle,hx,hT,hD,hI'⟩:=hc
        cases hx
        exact hh K w0 φ' w' a F n _ hI' hT hD (hF.mono hle) (fun x a w' hq=>hq.mono hle)
    · obtain ⟨e,s3,rfl⟩:=step_ok.runOps_ex _ _ _ h
      exact fun h=>absurd h hb
  · exact drawnX_ok hN hm self hs rd id os s o h
abbrev vT:Value:=.bool true
abbrev vI (n:Nat):Value:=.int .i64 (.ofNat n)
abbrev vJ (n:Nat):Value:=.int .i64 (.negSucc n)
structure CF where
  g:Nat
  args:List Value
  u:Value
def CF.Ok (P:Program)(c:CF):Prop:=∀h,Fact P (.call c.g ⟨c.args⟩ h) (.ret c.u h)
def lookCF (f:Nat)(vs:List Value)(h:Hp):List CF→Option AT
  | []=>none
  | c::r=>match Nat.beq f c.g with
    | true=>(match eqLs (eqVn 8) vs c.args with
      | true=>some (.leaf (.ret c.u h))
      | false=>lookCF f vs h r)
    | false=>lookCF f vs h r
def tabA (l:List CF):Ans:=fun t=>match t with
  | .call f vs h=>lookCF f vs.toList h l
  | _=>none
inductive CFs (P:Program):List CF→Prop
  | nil:CFs P []
  | cons {c:CF} {l:List CF} (h:c.Ok P) (r:CFs P l):CFs P (c::l)
theorem lookCF_ok {P:Program}{f:Nat}{vs:List Value}{h:Hp}:∀{l:List CF},CFs P l→∀{x:AT}{o:Out},lookCF f vs h l=some x→x.out=some o→Fact P (.call f ⟨vs⟩ h) o
  | [],_,x,o,hx,_=>by cases hx
  | c::r,hl,x,o,hx,ho=>by
    cases hl with
    | cons hc hr =>
      unfold lookCF at hx
      split at hx
      · rename_i hf
        split at hx
        · rename_i ha
          simp only [Option.some.injEq]at hx
          subst hx
          simp only [AT.out,Option.some.injEq]at ho
          subst ho
          rw [Nat.eq_of_beq_eq_true hf,eqLs_eq (fun _ _ h=>eqVn_eq h) ha]
          exact hc h
        · exact lookCF_ok hr hx ho
      · exact lookCF_ok hr hx ho
theorem tabA_ok {P:Program}{l:List CF}(hl:CFs P l):Known P (tabA l):=by
  intro t x o h ho
  unfold tabA at h
  split at h
  · rename_i f vs hh
    exact lookCF_ok hl h ho
  · cases h
def frDs (f:Value→Option Value):List Value→Option (List Value)
  | []=>some []
  | v::r=>match f v with
    | some u=>(match frDs f r with
      | some l=>some (u::l)
      | none=>none)
    | none=>none
def frC (f:Value→Option Value)(v:Value):Option Value:=match v with
  | .slice none 0 0=>some (lstV ⟨[]⟩ 0 0 1)
  | v=>f v
def frD (bl:List Ob):Nat→Value→Option Value
  | 0,_=>none
  | n+1,v=>match v with
    | .slice (some ⟨b,off,none⟩) len sz=>(match nthO bl b with
      | some (.cells c false)=>(match frDs (frC (frD bl n)) c.toList with
        | some l=>if off+len*sz≤c.size then some (lstV ⟨l⟩ off len sz) else none
        | none=>none)
      | _=>none)
    | .pointer (some ⟨b,off,none⟩)=>(match nthO bl b with
      | some (.cells c false)=>(match frDs (frC (frD bl n)) c.toList with
        | some l=>some (dptV ⟨l⟩ off)
        | none=>none)
      | _=>none)
    | .agg ⟨l⟩=>(match frDs (frD bl n) l with
      | some l=>some (.agg ⟨l⟩)
      | none=>none)
    | .iface t v=>(match frD bl n v with
      | some v=>some (.iface t v)
      | none=>none)
    | .func (.func g) ⟨l⟩ ⟨m⟩=>(match frDs (frD bl n) l,frDs (frD bl n) m with
      | some l,some m=>some (.func (.func g) ⟨l⟩ ⟨m⟩)
      | _,_=>none)
    | v=>if fz0 v then some v else none
def frDV (bl:List Ob)(v:Value):Option Value:=match v with
  | .tuple ⟨x::l⟩=>(match frDs (frD bl 8) (x::l) with
    | some l=>some (.tuple ⟨l⟩)
    | none=>none)
  | v=>frD bl 8 v
def frDK:Kn
  | .ret v h=>(match frDV h.bl v with
    | some v=>some (.ret v ⟨[],0,[]⟩)
    | none=>none)
  | _=>none
section
variable {K:Nat→Prop}{w0 w:World} {φ:Phi}{X:List Ob}{z:Nat→Option Obj}
theorem frDs_ok {f:Value→Option Value}(hf:∀v u v',f v=some u→VR φ v v'→FR z u v'):∀{l us l':List Value},frDs f l=some us→VRl φ l l'→FRl z us l'
  | [],us,_,h,hv=>by
    cases hv
    simp only [frDs,Option.some.injEq]at h
    subst h;exact .nil
  | v::r,us,_,h,hv=>by
    cases hv with
    | cons h1 h2 =>
      simp only [frDs]at h
      split at h
      · rename_i u hu
        split at h
        · rename_i l hl
          simp only [Option.some.injEq]at h
          subst h
          exact .cons (hf _ _ _ hu h1) (frDs_ok hf hl h2)
        · cases h
      · cases h
theorem FRl.fn {z:Nat→Option Obj} {l l' m m':List Value}(g:FuncId) (h:FRl z l l') (h2:FRl z m m'):FR z (.func (.func g) ⟨l⟩ ⟨m⟩) (.func (.func g) ⟨l'⟩ ⟨m'⟩):=by
  have hh:∀{us ys:List Value},FRl z us ys→(⟨us⟩:Array Value).size=(⟨ys⟩:Array Value).size∧∀i,i<(⟨us⟩:Array Value).size→FR z ((⟨us⟩:Array Value).getD i undef) ((⟨ys⟩:Array Value).getD i undef):=by
    intro us ys hf
    refine ⟨by simpa using hf.agg.1,fun i hi=>?_⟩
    rcases hf.agg.2 i with h5 | h5
    · exact h5
    · simp at hi;omega
  exact .fn (hh h).1 (hh h).2 (hh h2).1 (hh h2).2
theorem cells_frl {c C:Array Value}{base:Nat}(hC:base+c.size≤C.size) (h2:∀(i:Nat) (v:Value),c[i]?=some v→∃v',C[base+i]?=some v'∧VR φ v v'):VRl φ c.toList ((C.toList.drop base).take c.size):=by
  have key:∀(l:List Value) (m:List Value),l.length=m.length→(∀(i:Nat) (v:Value),l[i]?=some v→∃v',m[i]?=some v'∧VR φ v v')→VRl φ l m:=by
    intro l
    induction l with
    | nil=>intro m hl _;cases m with
      | nil=>exact .nil
      | cons _ _=>simp at hl
    | cons x r ih=>intro m hl hh;cases m with
      | nil=>simp at hl
      | cons y s =>
        refine .cons ?_ (ih s (by simpa using hl) fun i v hv=>by simpa using hh (i+1) v (by simpa using hv))
        obtain ⟨v',h3,h4⟩:=hh 0 x rfl
        simp only [List.getElem?_cons_zero,Option.some.injEq]at h3
        rw [h3];exact h4
  refine key _ _ (by simp;omega) fun i v hv=>?_
  have hv2:c[i]?=some v:=by rw [← Array.getElem?_toList];exact hv
  obtain ⟨v',h3,h4⟩:=h2 i v hv2
  refine ⟨v',?_,h4⟩
  have hi:i<c.size:=by rw [Array.getElem?_eq_some_iff]at hv2;exact hv2.1
  rw [List.getElem?_take,if_pos hi,List.getElem?_drop,Array.getElem?_toList]
  exact h3
theorem FRl.cells {l:List Value}{C:Array Value}{base n:Nat}(h:FRl z l ((C.toList.drop base).take n)) (hC:base+n≤C.size):l.length=n∧∀i,i<(⟨l⟩:Array Value).size→FR z ((⟨l⟩:Array Value).getD i undef) (C.getD (base+i) undef):=by
  have hn:l.length=n:=by rw [h.agg.1];simp;omega
  refine ⟨hn,fun i hi=>?_⟩
  have hi':i<n:=by simpa [hn] using hi
  rcases h.agg.2 i with h1 | h1
  · have e:(⟨(C.toList.drop base).take n⟩:Array Value).getD i undef=C.getD (base+i) undef:=by
      rw [Array.getD_eq_getD_getElem?,Array.getD_eq_getD_getElem?]
      have:(⟨(C.toList.drop base).take n⟩:Array Value)[i]?=C[base+i]?:=by
        rw [← Array.getElem?_toList,List.getElem?_take,if_pos hi',List.getElem?_drop,Array.getElem?_toList]
      rw [this]
    rw [← e];exact h1
  · omega
theorem frC_ok {f:Value→Option Value}(hf:∀v u v',f v=some u→VR φ v v'→FR z u v'):∀v u v',frC f v=some u→VR φ v v'→FR z u v':=by
  intro v u v' h hv
  unfold frC at h
  split at h
  · cases h;cases hv;exact .lstZ _ _ _ _
  · exact hf _ _ _ h hv
theorem frD_ok (h:Made 0 z φ X w):∀{n:Nat} {v u v':Value},frD X n v=some u→VR φ v v'→FR z u v'
  | 0,_,_,_,hk,_=>by cases hk
  | n+1,v,u,v',hk,hv=>by
    have ih:∀v u v',frD X n v=some u→VR φ v v'→FR z u v':=fun v u v' h1 h2=>frD_ok h h1 h2
    unfold frD at hk
    split at hk
    · rename_i b off len sz
      rw [nthO_eq]at hk
      split at hk
      · rename_i c hb
        split at hk
        · rename_i l hl
          split at hk
          · rename_i hle
            simp only [Option.some.injEq]at hk
            subst hk
            obtain ⟨B,base,tot,C,el,fr,h3,hz,h8,h6⟩:=h.obs b _ hb (Nat.zero_le _)
            cases hv with
            | sliceZ _ a' k'=>exact .lstZ _ _ _ _
            | slice hφ hl1 hc =>
              rw [h3]at hφ;cases hφ
              obtain ⟨k1,k2⟩:=(frDs_ok (frC_ok ih) hl (cells_frl h8 h6)).cells h8
              exact .lst hz (by simpa [k1] using h8) k2 hl1 (by simpa [k1] using hle)
          · cases hk
        · cases hk
      · cases hk
    · rename_i b off
      rw [nthO_eq]at hk
      split at hk
      · rename_i c hb
        split at hk
        · rename_i l hl
          simp only [Option.some.injEq]at hk
          subst hk
          obtain ⟨B,base,tot,C,el,fr,h3,hz,h8,h6⟩:=h.obs b _ hb (Nat.zero_le _)
          cases hv with
          | ptr hφ =>
            rw [h3]at hφ;cases hφ
            obtain ⟨k1,k2⟩:=(frDs_ok (frC_ok ih) hl (cells_frl h8 h6)).cells h8
            exact .dpt hz (by simpa [k1] using h8) k2
        · cases hk
      · cases hk
    · rename_i l
      split at hk
      · rename_i us hl
        simp only [Option.some.injEq]at hk
        subst hk
        obtain ⟨⟨ys⟩,rfl,hs⟩:=hv.agg_inv
        exact (frDs_ok ih hl hs.toList).fr
      · cases hk
    · rename_i t x
      split at hk
      · rename_i y hy
        simp only [Option.some.injEq]at hk
        subst hk
        cases hv with
        | iface _ hv=>exact .iface _ (ih _ _ _ hy hv)
      · cases hk
    · rename_i g l m
      split at hk
      · rename_i us ws hl hm
        simp only [Option.some.injEq]at hk
        subst hk
        cases hv with
        | @fn _ _ first' _ cap' hg h1 h2 h3 h4 =>
          obtain ⟨first'⟩:=first'
          obtain ⟨cap'⟩:=cap'
          exact FRl.fn g (frDs_ok ih hl (VRs.toList (VRs.of h1 h2))) (frDs_ok ih hm (VRs.toList (VRs.of h3 h4)))
      · cases hk
    · split at hk
      · rename_i hf
        simp only [Option.some.injEq]at hk
        subst hk
        exact fz0_fr h hf hv
      · cases hk
theorem FRl.vrl {ψ:Phi} {l l':List Value}(h:FRl ψ.z l l'):VRl ψ l l':=by
  induction h with
  | nil=>exact .nil
  | cons h _ ih=>exact .cons h.vr ih
theorem frDV_ok {ψ:Phi}(h:Made 0 ψ.z φ X w) {v u v':Value}(hk:frDV X v=some u) (hv:VR φ v v'):VR ψ u v':=by
  unfold frDV at hk
  split at hk
  · rename_i x l
    split at hk
    · rename_i us hl
      simp only [Option.some.injEq]at hk
      subst hk
      obtain ⟨⟨ys⟩,rfl,hs⟩:=hv.tuple_inv rfl
      exact (frDs_ok (fun _ _ _ h1 h2=>frD_ok h h1 h2) hl hs.toList).vrl.vrs.tuple
    · cases hk
  · exact (frD_ok h hk hv).vr
end
section
variable {P:Program}
theorem Fact.liftD {f:FuncId}{args:Array Value}{v u:Value}{h1:Hp}(hf:Fact P (.call f args ⟨[],0,[]⟩) (.ret v h1)) (hfz:frDV h1.bl v=some u)
    (ha:args.toList.all pureA=true) (h:Hp):Fact P (.call f args h) (.ret u h):=by
  obtain ⟨_,hh⟩:=hf.1 (Nat.le_refl _)
  refine ⟨fun hb=>⟨Pres.refl _,?_⟩,trivial⟩
  intro K w0 φ w args' n hI hA
  have hI':Inv K w0 φ ([]++h.bl) w:=hI
  have hN:=hI'.narrow (H0:=[]) (fun b ob h=>by simp at h)
  have hA1:VRs (cut φ ([]:List Ob).length) args args':=VRs.of hA.size fun i hi=>scT_cut (all_getD (p:=pureA) ha hi) (hA.getD i)
  refine (hh _ w _ w args' n hN hA1).mono ?_
  intro e w' he
  cases e with
  | returned v' =>
    obtain ⟨φ',hle,hv',hF⟩:=he
    have hZ:=hF.freeze (H1:=[]) (k:=0) (fun b ob h=>by simp at h)
    have k1:=frDV_ok (ψ:=⟨fun b=>if b<([]:List Ob).length+0 then φ' b else none,zF φ' h1.bl 0 w'⟩) (zF_made hF 0) hfz hv'
    have hle2:le (cut φ ([]:List Ob).length) ⟨fun b=>if b<([]:List Ob).length+0 then φ' b else none,zF φ' h1.bl 0 w'⟩:=by
      refine ⟨fun b x hx=>?_,fun B o hB=>(zF_made hF 0).le B o (hle.zz B o hB)⟩
      rw [cut_ge (show ([]:List Ob).length≤b from Nat.zero_le b)]at hx;cases hx
    obtain ⟨φ'',q1,q2,q3⟩:=hI'.widen (H1:=[]) (X:=[]) hZ hle2 .nil
    refine ⟨φ'',q1,?_,q3⟩
    have hc:cut ⟨fun b=>if b<([]:List Ob).length+0 then φ' b else none,zF φ' h1.bl ([]:List Ob).length w'⟩ ([]:List Ob).length=⟨fun b=>if b<([]:List Ob).length+0 then φ' b else none,zF φ' h1.bl 0 w'⟩:=by
      unfold cut
      simp
    rw [hc]at q2
    exact k1.mono q2
  | panicked ch=>exact he.elim
  | outgrown=>exact he.elim
end
def hasApp (os:Array Oper):Bool:=os.toList.any fun o=>match o.op with
  | .call { callee:=.builtin b,.. }=>(match b with | .append | .copy=>true | _=>false)
  | _=>false
def forceK (k:Kn):Kn:=fun o=>match o with
  | .ex e s=>forceE s.h.bl fun bl=>k (.ex e ⟨s.t,s.d,⟨bl,s.h.base,s.h.wr⟩⟩)
  | o=>k o
theorem forceK_eq (k:Kn):forceK k=k:=by
  funext o
  cases o with
  | ex e s=>simp only [forceK,forceE_eq]
  | _=>rfl
def catL:List Value→Nat→Nat→List Value→List Value
  | [],_,_,m=>m
  | x::r,off,n,m=>match off with
    | o+1=>catL r o n m
    | 0=>(match n with
      | k+1=>x::catL r 0 k m
      | 0=>m)
theorem catL_eq:∀(l:List Value) (off n:Nat) (m:List Value),catL l off n m=(l.drop off).take n++m
  | [],off,n,m=>by simp [catL]
  | x::r,0,0,m=>by simp [catL]
  | x::r,0,k+1,m=>by simp [catL,catL_eq r 0 k m]
  | x::r,o+1,n,m=>by simp [catL,catL_eq r o n m]
theorem catA_eq (c:Array Value)(off n:Nat)(m:Array Value):(⟨catL c.toList off n m.toList⟩:Array Value)=c.extract off (off+n)++m:=by
  apply Array.ext'
  rw [catL_eq,Array.toList_append,Array.toList_extract,List.extract]
  simp
def appendZ (P:Program)(h:Hp)(ts tx:TypeId)(s x:Value)(k:Value→Hp→Option Out):Option Out :=
  match P.underlying ts,P.underlying tx with
  | some (.slice e),some d =>
    if intB d=true then none else
    match P.info? e,zeroB P e with
    | some inf,some z =>
      natF inf.size fun isz=>natF inf.bytes fun iby =>
      match s,lenB x with
      | .slice base sl sz,some n =>
        natF n fun n =>
        cond (decide (n=0)) (k (.slice base sl sz) h)
        (newC h.bl isz n x fun news =>
          cond (decide (news.size=n*isz)&&(oneAll news&&decide (z.cells.size=isz))) (cond (decide ((sl+n)*iby≤140737488355328)&&decide (sl+n≤4611686018427387904))
            (match base with
            | none=>cond (decide (sl=0)) (k (.slice (some ⟨h.bl.length,0,none⟩) n isz) (h.push (.cells news false))) none
            | some ⟨b,off,none⟩ =>
              match nthO h.bl b with
              | some (.cells c false) =>
                cond (decide (sz=isz)) (cond (decide (off+sl*isz≤c.size))
                  (k (.slice (some ⟨h.bl.length,0,none⟩) (sl+n) isz) ((h.put b .dead).push (.cells ⟨catL c.toList off (sl*isz) news.toList⟩ false))) none) none
              | _=>none
            | _=>none) none) none)
      | _,_=>none
    | _,_=>none
  | _,_=>none
theorem appendZ_eq:appendZ=appendC:=by
  funext P h ts tx s x k
  simp only [appendZ,appendC,catA_eq]
  rfl
def loudZ (P:Program) (ρ:Operand→Value)(h:Hp)(o:Oper)(k:Ends):Option Out :=
  match o.op with
  | .call { callee:=.builtin .append,args,argTypes } =>
    match args.toList,argTypes.toList with
    | [s,x],[ts,tx]=>if okO s&&okO x then appendZ P h ts tx (ρ s) (ρ x) k.val else none
    | _,_=>none
  | _=>loudC P ρ h o k
theorem loudZ_eq:loudZ=loudC:=by
  funext P ρ h o k
  unfold loudZ
  split
  · rename_i args ts ho
    unfold loudC
    simp only [ho,appendZ_eq]
    rfl
  · rfl
def opDZ (P:Program)(self:SelfC)(T:List Value)(h:Hp)(o:Oper)(k:Value→Hp→Bool→Option Out):Option Out :=
  match o.op with
  | .pick c a b=>if okO c&&okO a&&okO b then (match evalT T c with | .bool t=>cond t (k (evalT T a) h false) (k (evalT T b) h false) | _=>none) else none
  | _ =>
    match symR P (evalT T) h.bl o with
    | some (b,v)=>cond b (k v h false) none
    | none=>match aread P (evalT T) h.bl o with
      | some v=>k v h false
      | none=>loudZ P (evalT T) h o {
        val:=fun v h'=>heapK h' fun h'=>k v h' true
        enter:=fun f args=>headsK args fun args=>self (.call f ⟨args⟩ h) fun | .ret v h'=>k v h' true | _=>none
        yield:=fun l args=>headsK args fun args=>self (.round l ⟨args⟩ h) fun | .ret v h'=>k v h' true | _=>none
        defer:=fun _=>none
        panic:=fun _=>none }
theorem opDZ_eq:opDZ=opD:=by
  funext P self T h o k
  simp only [opDZ,loudZ_eq]
  rfl
def drunZ (P:Program)(self:SelfC)(os:Array Oper):List Nat→List Value→Hp→(List Rec→List Value→Hp→Option Out)→Option Out
  | [],T,h,k=>k [] T h
  | i::r,T,h,k =>
    match os[i]? with
    | none=>none
    | some o =>
      guardC os o T
        (fun T=>opDZ P self T h o fun v h' loud=>headK v fun v=>setK' T o.dst v fun T'=>drunZ P self os r T' h' fun l T2 h2=>k (⟨i,o,T,v,h,h',loud⟩::l) T2 h2)
        (fun T=>setK' T o.dst undef fun T'=>drunZ P self os r T' h fun l T2 h2=>k (⟨i,o,T,undef,h,h,false⟩::l) T2 h2)
theorem drunZ_eq (P:Program)(self:SelfC)(os:Array Oper):∀l,drunZ P self os l=drunC P self os l
  | []=>rfl
  | i::r=>by
    funext T h k
    simp only [drunZ,drunC,drunZ_eq P self os r,opDZ_eq]
    rfl
def drawnFZ (P:Program)(self:SelfC)(os:Array Oper)(s:St)(k:Ex→St→Option Out):Option Out :=
  if planOk os (late os) (mkClo os (late os) (List.replicate os.size 0)) then
    drunZ P self os (late os) s.t s.h fun recs T h =>
      if floatOk (mkClo os (late os) (List.replicate os.size 0)) [] recs&&recs.all fun r=>!(r.loud&&isAl r.o)||r.o.dst.all fun t=>decide (t<s.t.length) then
        fchkC P os (mkClo os (late os) (List.replicate os.size 0)) recs (k .normal { t:=T,d:=s.d,h:=h })
      else none
  else none
def drawnNZ (P:Program)(self:SelfC)(os:Array Oper)(s:St)(k:Ex→St→Option Out):Option Out :=
  if planOk os (Region.linearise .any os 0) (mkClo os (Region.linearise .any os 0) (List.replicate os.size 0)) then
    drunZ P self os (Region.linearise .any os 0) s.t s.h fun recs T h =>
      chkC P os (mkClo os (Region.linearise .any os 0) (List.replicate os.size 0)) recs (k .normal { t:=T,d:=s.d,h:=h })
  else none
def drawnXZ (P:Program)(self:SelfC)(os:Array Oper)(s:St)(k:Ex→St→Option Out):Option Out :=
  match floaty os (mkClo os (Region.linearise .any os 0) (List.replicate os.size 0)) with
  | true=>drawnFZ P self os s k
  | false=>drawnNZ P self os s k
theorem drawnXZ_eq:drawnXZ=drawnXC:=by
  funext P self os s k
  simp only [drawnXZ,drawnXC,drawnFZ,drawnFC,drawnNZ,drawnC,drunZ_eq]
  rfl
def opZ (P:Program) (ρ:Operand→Value)(h:Hp)(o:Oper)(k:Ends):Option Out :=
  match o.op with
  | .pick c a b=>if okO c&&okO a&&okO b then (match ρ c with | .bool t=>cond t (k.val (ρ a) h) (k.val (ρ b) h) | _=>none) else none
  | _ =>
    match symR P ρ h.bl o with
    | some (b,v)=>cond b (k.val v h) none
    | none=>match aread P ρ h.bl o with
      | some v=>k.val v h
      | none=>loudZ P ρ h o k.heap
theorem opZ_eq:opZ=opC:=by
  funext P ρ h o k
  simp only [opZ,loudZ_eq]
  rfl
def runOpsZ (P:Program)(self:SelfC)(rd:Option Nat)(os:Array Oper):List Nat→St→(Ex→St→Option Out)→Option Out
  | [],s,k=>k .normal s
  | i::r,s,k =>
    match os[i]? with
    | none=>runOpsZ P self rd os r s k
    | some o =>
      guardC os o s.t
        (fun t=>opZ P (evalT t) s.h o {
          val:=fun v h=>setK' t o.dst v fun t=>runOpsZ P self rd os r { t:=t,d:=s.d,h:=h } k
          enter:=fun f args=>headsK args fun args=>self (.call f ⟨args⟩ s.h) fun
            | .ret v h=>setK' t o.dst v fun t=>runOpsZ P self rd os r { t:=t,d:=s.d,h:=h } k
            | .pan v h=>k (.panic v) { t:=t,d:=s.d,h:=h }
            | _=>none
          yield:=fun l args=>headsK args fun args=>self (.round l ⟨args⟩ s.h) fun
            | .ret v h=>setK' t o.dst v fun t=>runOpsZ P self rd os r { t:=t,d:=s.d,h:=h } k
            | _=>none
          defer:=fun d=>if rd.isNone then setK' t o.dst undef fun t=>runOpsZ P self rd os r { t:=t,d:=d::s.d,h:=s.h } k else none
          panic:=fun v=>k (.panic v) { t:=t,d:=s.d,h:=s.h } })
        (fun t=>setK' t o.dst undef fun t=>runOpsZ P self rd os r { t:=t,d:=s.d,h:=s.h } k)
theorem runOpsZ_eq (P:Program)(self:SelfC)(rd:Option Nat)(os:Array Oper):∀l,runOpsZ P self rd os l=runOpsC P self rd os l
  | []=>rfl
  | i::r=>by
    funext s k
    simp only [runOpsZ,runOpsC,runOpsZ_eq P self rd os r,opZ_eq]
    rfl
def drawnWZ (P:Program)(self:SelfC)(rd:Option Nat)(os:Array Oper)(s:St)(k:Ex→St→Option Out):Option Out :=
  match waits os (os.size-1)&&Nat.blt 0 os.size with
  | true=>drawnXZ P self os.pop s fun e s'=>(match e with
    | .normal=>runOpsZ P self rd os [os.size-1] s' k
    | _=>none)
  | false=>drawnXZ P self os s k
theorem drawnWZ_ok {P:Program}{self:SelfC}{sd:Self}(hs:CpsOk self sd) {rd:Option Nat}{id:Nat}{os:Array Oper}{s:St}{k:Ex→St→Option Out}{r:Out}(hc:drawnWZ P self rd os s k=some r) :
    ∃e s',drawnW P sd rd id os s=some (.ex e s')∧k e s'=some r:=by
  unfold drawnWZ at hc
  unfold drawnW
  by_cases hw:(waits os (os.size-1)&&Nat.blt 0 os.size)=true
  · rw [hw]at hc ⊢
    simp only [drawnXZ_eq]at hc
    obtain ⟨e,s',h1,h2⟩:=drawnXC_ok (rd:=rd) (id:=id) hs hc
    simp only [h1]
    cases e with
    | normal =>
      simp only at h2 ⊢
      rw [runOpsZ_eq]at h2
      exact runOpsC_ok hs h2
    | _=>cases h2
  · rw [Bool.eq_false_iff.2 hw]at hc ⊢
    simp only [drawnXZ_eq]at hc
    exact drawnXC_ok hs hc
def stepZ (P:Program)(self:SelfC):SelfC:=fun t k=>match t with
  | .code rd (.region id os dr) s=>(match dr with
    | true=>drawnWZ P self rd os s fun e s'=>(match hasApp os with
      | true=>forceK k (.ex e s')
      | false=>k (.ex e s'))
    | false=>(match hasApp os with
      | true=>runOpsZ P self rd os (List.range os.size) s fun e s'=>forceK k (.ex e s')
      | false=>stepC P self (.code rd (.region id os false) s) k))
  | t=>stepC P self t k
theorem stepF_drawn {P:Program}{sd:Self}{t:Task}{d1 d2:Program→Self→Option Nat→Nat→Array Oper→St→Option Out}(h:∀rd id os s,t≠.code rd (.region id os true) s):stepF d1 P sd t=stepF d2 P sd t:=by
  cases t with
  | code rd c s =>
    cases c with
    | region id os dr =>
      cases dr with
      | true=>exact (h rd id os s rfl).elim
      | false=>rfl
    | _=>rfl
  | _=>rfl
theorem stepZ_ok {P:Program}{self:SelfC}{sd:Self}(hs:CpsOk self sd):CpsOk (stepZ P self) (stepF drawnW P sd):=by
  intro t k r hc
  unfold stepZ at hc
  split at hc
  · rename_i rd id os dr s
    cases dr with
    | true =>
      simp only at hc
      obtain ⟨e,s',h1,h2⟩:=drawnWZ_ok (id:=id) hs hc
      refine ⟨.ex e s',by simpa only [stepF,if_true] using h1,?_⟩
      split at h2
      · rw [forceK_eq]at h2;exact h2
      · exact h2
    | false =>
      simp only at hc
      split at hc
      · rw [runOpsZ_eq,forceK_eq]at hc
        obtain ⟨o,h1,h2⟩:=stepC_ok hs (.code rd (.region id os false) s) k r hc
        exact ⟨o,(stepF_drawn (fun _ _ _ _ h=>by cases h)).trans h1,h2⟩
      · obtain ⟨o,h1,h2⟩:=stepC_ok hs (.code rd (.region id os false) s) k r hc
        exact ⟨o,(stepF_drawn (fun _ _ _ _ h=>by cases h)).trans h1,h2⟩
  · rename_i hn
    obtain ⟨o,h1,h2⟩:=stepC_ok hs _ k r hc
    exact ⟨o,(stepF_drawn (fun rd id os s h=>hn rd id os true s h)).trans h1,h2⟩
def evZ (P:Program)(oc:Task→Kn→Option (Option Out)):Nat→SelfC
  | 0,_,_=>none
  | n+1,t,k=>match oc t k with
    | some r=>r
    | none=>stepZ P (evZ P oc n) t k
theorem evZ_ok {P:Program}{oc:Task→Kn→Option (Option Out)}{orc:Self}(ho:OcOk oc orc):∀n,CpsOk (evZ P oc n) (iterO orc drawnW P n)
  | 0=>fun _ _ _ h=>by cases h
  | n+1=>by
    intro t k r h
    simp only [evZ]at h
    simp only [iterO]
    split at h
    · rename_i r' hr
      subst h
      obtain ⟨o,h1,h2⟩:=ho.1 _ _ _ hr
      rw [h1];exact ⟨_,rfl,h2⟩
    · rename_i hr
      rw [ho.2 _ _ hr]
      exact stepZ_ok (evZ_ok ho n) t k r h
theorem Known.factZ {P:Program}(hN:NoNG P) (hm:P.follows .mixedOrders=true) {a:Ans}(hk:Known P a) {n:Nat}{t:Task}{k:Kn}{r:Out}(h:evZ P a.c n t k=some r):∃o,k o=some r∧Fact P t o:=by
  obtain ⟨o',h1,h2⟩:=evZ_ok (P:=P) a.oc n t k r h
  have hh:=iterO_ok (drawn:=drawnW) hN (drawnW_ok hN hm) hk.selfOk hk.loopOk n
  refine ⟨o',h2,hh.1 _ _ h1,?_⟩
  unfold LoopFact
  split
  · exact fun hb=>hh.2 _ _ _ _ _ h1 hb
  · trivial
def CF.chk (P:Program)(l:List CF)(n:Nat)(c:CF):Bool:=match evZ P (tabA l).c n (.call c.g ⟨c.args⟩ ⟨[],0,[]⟩) frDK with
  | some (.ret u ⟨[],0,[]⟩)=>(match eqVn 12 u c.u with
    | true=>c.args.all pureA
    | false=>false)
  | _=>false
section
variable {P:Program}(hN:NoNG P) (hm:P.follows .mixedOrders=true)
include hN hm
theorem CF.of2 {l:List CF}(hl:CFs P l) (n:Nat) {c:CF}(h:c.chk P l n=true):c.Ok P:=by
  unfold CF.chk at h
  split at h
  · rename_i u he
    split at h
    · rename_i hu
      have e:=eqVn_eq hu
      subst e
      intro hp
      obtain ⟨o,h3,hf⟩:=(tabA_ok hl).factZ hN hm he
      cases o with
      | ret v h' =>
        simp only [frDK]at h3
        split at h3
        · rename_i u hu
          simp only [Option.some.injEq,Out.ret.injEq,and_true]at h3
          subst h3
          exact hf.liftD hu h hp
        · cases h3
      | _=>cases h3
    · cases h
  · cases h
end
structure HF where
  g:Nat
  args:List Value
  h:Hp
  u:Value
  h':Hp
def HF.Ok (P:Program)(c:HF):Prop:=Fact P (.call c.g ⟨c.args⟩ c.h) (.ret c.u c.h')
def eqMs:List (Value×Value)→List (Value×Value)→Bool
  | [],l=>(match l with | []=>true | _::_=>false)
  | (a,b)::l,m=>(match m with | []=>false | (c,d)::m=>(match eqVn 8 a c with | true=>(match eqVn 8 b d with | true=>eqMs l m | false=>false) | false=>false))
theorem eqMs_eq:∀{l m:List (Value×Value)},eqMs l m=true→l=m
  | [],[],_=>rfl
  | [],_::_,h=>by cases h
  | _::_,[],h=>by cases h
  | (a,b)::l,(c,d)::m,h=>by
    simp only [eqMs]at h
    split at h
    · rename_i h1
      split at h
      · rename_i h2
        rw [eqVn_eq h1,eqVn_eq h2,eqMs_eq h]
      · cases h
    · cases h
def eqOb (x y:Ob):Bool:=match x with
  | .dead=>(match y with | .dead=>true | _=>false)
  | .cells c r=>(match y with | .cells d q=>(match eqLs (eqVn 8) c.toList d.toList with | true=>r == q | false=>false) | _=>false)
  | .map es=>(match y with | .map fs=>eqMs es fs | _=>false)
  | .dfr a=>(match y with | .dfr b=>a == b | _=>false)
  | _=>false
theorem eqOb_eq {x y:Ob}(h:eqOb x y=true):x=y:=by
  unfold eqOb at h
  split at h
  · split at h
    · rfl
    · cases h
  · split at h
    · split at h
      · rename_i h1
        rw [Array.ext' (eqLs_eq (fun _ _ h=>eqVn_eq h) h1),eq_of_beq h]
      · cases h
    · cases h
  · split at h
    · rw [eqMs_eq h]
    · cases h
  · split at h
    · rw [eq_of_beq h]
    · cases h
  · cases h
def eqObs:List Ob→List Ob→Bool
  | [],l=>(match l with | []=>true | _::_=>false)
  | a::l,m=>(match m with | []=>false | b::m=>(match eqOb a b with | true=>eqObs l m | false=>false))
theorem eqObs_eq:∀{l m:List Ob},eqObs l m=true→l=m
  | [],[],_=>rfl
  | [],_::_,h=>by cases h
  | _::_,[],h=>by cases h
  | a::l,b::m,h=>by
    simp only [eqObs]at h
    split at h
    · rename_i h1
      rw [eqOb_eq h1,eqObs_eq h]
    · cases h
def eqNs:List Nat→List Nat→Bool
  | [],l=>(match l with | []=>true | _::_=>false)
  | a::l,m=>(match m with | []=>false | b::m=>(match Nat.beq a b with | true=>eqNs l m | false=>false))
theorem eqNs_eq:∀{l m:List Nat},eqNs l m=true→l=m
  | [],[],_=>rfl
  | [],_::_,h=>by cases h
  | _::_,[],h=>by cases h
  | a::l,b::m,h=>by
    simp only [eqNs]at h
    split at h
    · rename_i h1
      rw [Nat.eq_of_beq_eq_true h1,eqNs_eq h]
    · cases h
def eqHp (a b:Hp):Bool:=match Nat.beq a.base b.base with
  | true=>(match eqNs a.wr b.wr with | true=>eqObs a.bl b.bl | false=>false)
  | false=>false
theorem eqHp_eq {a b:Hp}(h:eqHp a b=true):a=b:=by
  unfold eqHp at h
  split at h
  · rename_i h1
    split at h
    · rename_i h2
      obtain ⟨a1,a2,a3⟩:=a
      obtain ⟨b1,b2,b3⟩:=b
      simp only at h1 h2 h
      rw [Nat.eq_of_beq_eq_true h1,eqNs_eq h2,eqObs_eq h]
    · cases h
  · cases h
def lookHF (f:Nat)(vs:List Value)(h:Hp):List HF→Option AT
  | []=>none
  | c::r=>match Nat.beq f c.g with
    | true=>(match eqLs (eqVn 8) vs c.args with
      | true=>(match eqHp h c.h with
        | true=>some (.leaf (.ret c.u c.h'))
        | false=>lookHF f vs h r)
      | false=>lookHF f vs h r)
    | false=>lookHF f vs h r
def tabH (l:List HF):Ans:=fun t=>match t with
  | .call f vs h=>lookHF f vs.toList h l
  | _=>none
inductive HFs (P:Program):List HF→Prop
  | nil:HFs P []
  | cons {c:HF} {l:List HF} (h:c.Ok P) (r:HFs P l):HFs P (c::l)
theorem lookHF_ok {P:Program}{f:Nat}{vs:List Value}{h:Hp}:∀{l:List HF},HFs P l→∀{x:AT}{o:Out},lookHF f vs h l=some x→x.out=some o→Fact P (.call f ⟨vs⟩ h) o
  | [],_,x,o,hx,_=>by cases hx
  | c::r,hl,x,o,hx,ho=>by
    cases hl with
    | cons hc hr =>
      unfold lookHF at hx
      split at hx
      · rename_i hf
        split at hx
        · rename_i ha
          split at hx
          · rename_i hh
            simp only [Option.some.injEq]at hx
            subst hx
            simp only [AT.out,Option.some.injEq]at ho
            subst ho
            rw [Nat.eq_of_beq_eq_true hf,eqLs_eq (fun _ _ h=>eqVn_eq h) ha,eqHp_eq hh]
            exact hc
          · exact lookHF_ok hr hx ho
        · exact lookHF_ok hr hx ho
      · exact lookHF_ok hr hx ho
theorem tabH_ok {P:Program}{l:List HF}(hl:HFs P l):Known P (tabH l):=by
  intro t x o h ho
  unfold tabH at h
  split at h
  · rename_i f vs hh
    exact lookHF_ok hl h ho
  · cases h
def deadO (o:Ob):Ob:=match o with
  | .loop _ _ _ _ _ _ _=>.dead
  | .dfr _=>.dead
  | o=>o
def deadF:Nat→List Ob→List Ob
  | _,[]=>[]
  | 0,o::r=>deadO o::deadF 0 r
  | m+1,o::r=>o::deadF m r
theorem deadF_len:∀(m:Nat) (l:List Ob),(deadF m l).length=l.length
  | 0,[]=>rfl
  | _+1,[]=>rfl
  | 0,o::r=>by simp [deadF,deadF_len 0 r]
  | m+1,o::r=>by simp [deadF,deadF_len m r]
theorem deadF_get:∀{m:Nat}{l:List Ob}{b:Nat}{ob:Ob},(deadF m l)[b]?=some ob→ob.live=true→l[b]?=some ob
  | 0,[],b,ob,h,_=>by simp [deadF]at h
  | _+1,[],b,ob,h,_=>by simp [deadF]at h
  | 0,o::r,0,ob,h,hl=>by
    simp only [deadF,List.getElem?_cons_zero,Option.some.injEq]at h ⊢
    subst h
    cases o<;>first | rfl | cases hl
  | 0,o::r,b+1,ob,h,hl=>by
    simp only [deadF,List.getElem?_cons_succ]at h ⊢
    exact deadF_get h hl
  | m+1,o::r,0,ob,h,hl=>by
    simp only [deadF,List.getElem?_cons_zero]at h ⊢
    exact h
  | m+1,o::r,b+1,ob,h,hl=>by
    simp only [deadF,List.getElem?_cons_succ]at h ⊢
    exact deadF_get h hl
theorem deadF_lt:∀{m:Nat}{l:List Ob}{b:Nat},b<m→(deadF m l)[b]?=l[b]?
  | _+1,[],_,_=>by simp [deadF]
  | m+1,o::r,0,_=>by simp [deadF]
  | m+1,o::r,b+1,h=>by
    simp only [deadF,List.getElem?_cons_succ]
    exact deadF_lt (by omega)
theorem Inv.sub {K:Nat→Prop}{w0 w:World} {φ:Phi} {H H':List Ob}(h:Inv K w0 φ H w) (hl:H'.length=H.length) (hs:∀(b:Nat) (ob:Ob),H'[b]?=some ob→ob.live=true→H[b]?=some ob):Inv K w0 φ H' w :=
  ⟨fun b ob hb hlv=>h.obs b ob (hs b ob hb hlv) hlv,fun b b' ob ob' x y hne hb hb' hr hlv hx hy=>h.sep b b' ob ob' x y hne (hs b ob hb (Ob.live_of_rw hr)) (hs b' ob' hb' hlv) hr hlv hx hy,
    fun b ob x hb hr hx=>h.prot b ob x (hs b ob hb (Ob.live_of_rw hr)) hr hx,h.keep,h.klt,h.size,h.os,h.tape,h.output,fun b hb=>h.top b (by omega),h.frz,
    fun b ob x hb hr hx=>h.zsep b ob x (hs b ob hb (Ob.live_of_rw hr)) hr hx,h.zk⟩
theorem Fact.dead {P:Program}{f:FuncId}{args:Array Value}{h h1:Hp}{v:Value}(hf:Fact P (.call f args h) (.ret v h1)):Fact P (.call f args h) (.ret v ⟨deadF h.bl.length h1.bl,h1.base,h1.wr⟩):=by
  refine ⟨fun hb=>?_,trivial⟩
  obtain ⟨hp,hh⟩:=hf.1 hb
  refine ⟨⟨hp.base,by rw [deadF_len];exact hp.len,fun b hlt hn=>?_,fun b ob hbo hl hr=>hp.ro b ob (deadF_get hbo hl) hl hr⟩,?_⟩
  · obtain ⟨h2,h3⟩:=hp.same b hlt hn
    exact ⟨h2,(deadF_lt (by omega)).trans h3⟩
  · intro K w0 φ w args' n hI hA
    refine (hh K w0 φ w args' n hI hA).mono ?_
    intro e w' he
    cases e with
    | returned v' =>
      obtain ⟨φ',hle,hv,hI'⟩:=he
      exact ⟨φ',hle,hv,hI'.sub (deadF_len _ _) (fun _ _=>deadF_get)⟩
    | panicked ch=>exact he.elim
    | outgrown=>exact he.elim
def deadK (m:Nat):Kn
  | .ret v h=>some (.ret v ⟨deadF m h.bl,h.base,h.wr⟩)
  | _=>none
def HF.chk (P:Program)(hs:List HF)(l:List CF)(n:Nat)(c:HF):Bool:=match evZ P ((tabH hs).or (tabA l)).c n (.call c.g ⟨c.args⟩ c.h) (deadK c.h.bl.length) with
  | some (.ret u h')=>(match eqVn 12 u c.u with
    | true=>eqHp h' c.h'
    | false=>false)
  | _=>false
def CF.chkH (P:Program)(hs:List HF)(l:List CF)(n:Nat)(c:CF):Bool:=match evZ P ((tabH hs).or (tabA l)).c n (.call c.g ⟨c.args⟩ ⟨[],0,[]⟩) frDK with
  | some (.ret u ⟨[],0,[]⟩)=>(match eqVn 12 u c.u with
    | true=>c.args.all pureA
    | false=>false)
  | _=>false
section
variable {P:Program}(hN:NoNG P) (hm:P.follows .mixedOrders=true)
include hN hm
theorem HF.of {hs:List HF}(hh:HFs P hs) {l:List CF}(hl:CFs P l) (n:Nat) {c:HF}(h:c.chk P hs l n=true):c.Ok P:=by
  unfold HF.chk at h
  split at h
  · rename_i u h' he
    split at h
    · rename_i hu
      have e1:=eqVn_eq hu
      have e2:=eqHp_eq h
      subst e1
      obtain ⟨o,h3,hf⟩:=((tabH_ok hh).or (tabA_ok hl)).factZ hN hm he
      cases o with
      | ret v h1 =>
        simp only [deadK,Option.some.injEq,Out.ret.injEq]at h3
        obtain ⟨rfl,h4⟩:=h3
        have:=hf.dead
        unfold HF.Ok
        rw [← e2,← h4]
        exact this
      | _=>cases h3
    · cases h
  · cases h
theorem CF.ofH {hs:List HF}(hh:HFs P hs) {l:List CF}(hl:CFs P l) (n:Nat) {c:CF}(h:c.chkH P hs l n=true):c.Ok P:=by
  unfold CF.chkH at h
  split at h
  · rename_i u he
    split at h
    · rename_i hu
      have e:=eqVn_eq hu
      subst e
      intro hp
      obtain ⟨o,h3,hf⟩:=((tabH_ok hh).or (tabA_ok hl)).factZ hN hm he
      cases o with
      | ret v h' =>
        simp only [frDK]at h3
        split at h3
        · rename_i u hu
          simp only [Option.some.injEq,Out.ret.injEq,and_true]at h3
          subst h3
          exact hf.liftD hu h hp
        · cases h3
      | _=>cases h3
    · cases h
  · cases h
end
end
end Go.Gi
