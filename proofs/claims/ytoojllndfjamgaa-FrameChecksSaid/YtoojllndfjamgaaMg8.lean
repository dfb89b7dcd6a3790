/- Part 8 of the texts below the claim. Conditions: none. -/
import Derived.Test.YtoojllndfjamgaaMg7
set_option linter.unusedVariables false
set_option linter.unusedSimpArgs false
namespace Go.Proofs.Ytoojllndfjamgaa
open Go.Gi Go.RowKit Go.Proofs.Ytoojllndfjamgaa.Old
noncomputable section
set_option maxRecDepth 100000
set_option maxHeartbeats 4000000
structure X44_103x0a where
  hb:Nat
  hw:List Nat
  v0:Array Value
  v1:Nat
  v2:Nat
  v3:Int
  v4:Int
  v5:ByteArray
  v6:Int
  v7:Int
  v8:Array Value
  v9:Nat
  v10:Nat
  v11:ByteArray
  v12:Int
  v13:Int
  v14:Int
inductive D44_103x0a where
  | k0 (d0:Int) (d1:ByteArray) (d2:Int) (d3:Int) (d4:Array Value) (d5:Nat) (d6:Nat) (d7:ByteArray) (d8:Int) (d9:Int) (d10:Int)
  | k1 (d0:ByteArray) (d1:Int) (d2:Int) (d3:Array Value) (d4:Nat) (d5:Nat) (d6:ByteArray) (d7:Int) (d8:Int) (d9:Int)
def Lp44_103x0a:LoopS X44_103x0a D44_103x0a where
  c:=(theLoop Try.prog 103 0)
  N:=19
  M:=2
  S:=[0,1,7,8]
  Bs:=[]
  q:=none
  sz:=0
  z:=0
  own:=fun x=>none
  sl:=fun x=>[(lstV x.v0 x.v1 x.v2 4),(.func (.func 81) ⟨[]⟩ ⟨[(Value.pointer (Option.some (Addr.mk 1 0 Option.none)))]⟩),(.int .i64 x.v3),(.int .i64 x.v4)]
  hp:=fun x w=>[.cells ⟨[(.string x.v5),(.int .i64 x.v6),(.int .i64 x.v7),(lstV x.v8 x.v9 x.v10 4)]⟩ false,.cells ⟨[(.string x.v11),(.int .i64 x.v12),(.int .i64 x.v13),(.int .i64 x.v14)]⟩ false]
  ex:=fun d=>match d with | .k0 ..=>.ret | .k1 ..=>.exit 0
  pick:=fun e=>match e with | .ret=>[4] | .exit 0=>[] | _=>[]
  dv:=fun d=>match d with | .k0 d0 d1 d2 d3 d4 d5 d6 d7 d8 d9 d10=>[(.int .i64 d0)] | .k1 d0 d1 d2 d3 d4 d5 d6 d7 d8 d9=>[]
  dh:=fun d=>match d with | .k0 d0 d1 d2 d3 d4 d5 d6 d7 d8 d9 d10=>[.cells ⟨[(.string d1),(.int .i64 d2),(.int .i64 d3),(lstV d4 d5 d6 4)]⟩ false,.cells ⟨[(.string d7),(.int .i64 d8),(.int .i64 d9),(.int .i64 d10)]⟩ false] | .k1 d0 d1 d2 d3 d4 d5 d6 d7 d8 d9=>[.cells ⟨[(.string d0),(.int .i64 d1),(.int .i64 d2),(lstV d3 d4 d5 4)]⟩ false,.cells ⟨[(.string d6),(.int .i64 d7),(.int .i64 d8),(.int .i64 d9)]⟩ false]
theorem ok44_103x0a:Lp44_103x0a.OkS:=⟨fun x=>rfl,fun x=>rfl,fun x w=>rfl,fun x=>(fun _=>rfl),fun x w=>rfl,fun x w=>rfl,(fun q j h=>by cases h),fun d=>by cases d<;>rfl,fun d=>by cases d<;>rfl,fun d=>match d with | .k0 d0 d1 d2 d3 d4 d5 d6 d7 d8 d9 d10=>(fun _=>rfl) | .k1 d0 d1 d2 d3 d4 d5 d6 d7 d8 d9=>(fun _=>rfl),fun d=>by cases d<;>(intro h;cases h),fun d=>by cases d<;>rfl,fun d=>by cases d<;>rfl,by decide,by decide⟩
def rd44_103x0a (x:X44_103x0a):RT (Sum X44_103x0a D44_103x0a):=match x with
  | ⟨hb,hw,v0,v1,v2,v3,v4,v5,v6,v7,v8,v9,v10,v11,v12,v13,v14⟩ =>
     .br (decide (v4<v3)) (.br (and (decide ((0:Int)≤v4)) (decide (v4<(Int.ofNat v2)))) (.br (rdOk v0 [Leaf.str,(Leaf.int .i64),(Leaf.int .i64),(Leaf.int .i64)] (v1+((Int.toNat v4)*4))) (.br (strEq (getStr v0 (v1+((Int.toNat v4)*4))) v11) (.leaf (.inr (.k0 (v4) (v5) (v6) (v7) (v8) (v9) (v10) (v11) (v12) (v13) (v14)))) (.leaf (.inl ⟨hb,hw,v0,v1,v2,v3,(IntKind.wrap .i64 (v4+(1:Int))),v5,v6,v7,v8,v9,v10,v11,v12,v13,v14⟩))) (.no)) (.no)) (.leaf (.inr (.k1 (v5) (v6) (v7) (v8) (v9) (v10) (v11) (v12) (v13) (v14))))
theorem T44_103x0an  (y:List Value) (hb:Nat) (hw:List Nat) (v0:Array Value) (v1:Nat) (v2:Nat) (v3:Int) (v4:Int) (v5:ByteArray) (v6:Int) (v7:Int) (v8:Array Value) (v9:Nat) (v10:Nat) (v11:ByteArray) (v12:Int) (v13:Int) (v14:Int):evC Try.prog (Ans.c (p42.or (p79.or p82))) 60 (.code none (theLoop Try.prog 103 0) ⟨sets (junkF 19 y) [(0,(lstV v0 v1 v2 4)),(1,(.func (.func 81) ⟨[]⟩ ⟨[(Value.pointer (Option.some (Addr.mk 1 0 Option.none)))]⟩)),(7,(.int .i64 v3)),(8,(.int .i64 v4))],[],⟨[.cells ⟨[(.string v5),(.int .i64 v6),(.int .i64 v7),(lstV v8 v9 v10 4)]⟩ false,.cells ⟨[(.string v11),(.int .i64 v12),(.int .i64 v13),(.int .i64 v14)]⟩ false],0,[]⟩⟩) (kS 19 2 [0,1,7,8] Lp44_103x0a.pick [] 0 none)=(rd44_103x0a ⟨hb,hw,v0,v1,v2,v3,v4,v5,v6,v7,v8,v9,v10,v11,v12,v13,v14⟩).out Lp44_103x0a.encS:=by kernel_rfl
theorem T44_103x0a  (x:X44_103x0a) (y:List Value):evC Try.prog (Ans.c (p42.or (p79.or p82))) 60 (Lp44_103x0a.headS x y) (kS Lp44_103x0a.N Lp44_103x0a.M Lp44_103x0a.S Lp44_103x0a.pick Lp44_103x0a.Bs Lp44_103x0a.z Lp44_103x0a.q)=(rd44_103x0a x).out Lp44_103x0a.encS:=by
  obtain ⟨hb,hw,v0,v1,v2,v3,v4,v5,v6,v7,v8,v9,v10,v11,v12,v13,v14⟩:=x
  exact T44_103x0an  y hb hw v0 v1 v2 v3 v4 v5 v6 v7 v8 v9 v10 v11 v12 v13 v14
def L44_103x0a (x:X44_103x0a):Option D44_103x0a:=loopR rd44_103x0a x
def L44_103x0a_k0 (x:X44_103x0a):Bool:=match L44_103x0a x with | some (.k0 ..)=>true | _=>false
def L44_103x0a_k0_0 (x:X44_103x0a):Int:=match L44_103x0a x with | some (.k0 d _ _ _ _ _ _ _ _ _ _)=>d | _=>0
def L44_103x0a_k0_1 (x:X44_103x0a):ByteArray:=match L44_103x0a x with | some (.k0 _ d _ _ _ _ _ _ _ _ _)=>d | _=>ByteArray.empty
def L44_103x0a_k0_2 (x:X44_103x0a):Int:=match L44_103x0a x with | some (.k0 _ _ d _ _ _ _ _ _ _ _)=>d | _=>0
def L44_103x0a_k0_3 (x:X44_103x0a):Int:=match L44_103x0a x with | some (.k0 _ _ _ d _ _ _ _ _ _ _)=>d | _=>0
def L44_103x0a_k0_4 (x:X44_103x0a):Array Value:=match L44_103x0a x with | some (.k0 _ _ _ _ d _ _ _ _ _ _)=>d | _=>#[]
def L44_103x0a_k0_5 (x:X44_103x0a):Nat:=match L44_103x0a x with | some (.k0 _ _ _ _ _ d _ _ _ _ _)=>d | _=>0
def L44_103x0a_k0_6 (x:X44_103x0a):Nat:=match L44_103x0a x with | some (.k0 _ _ _ _ _ _ d _ _ _ _)=>d | _=>0
def L44_103x0a_k0_7 (x:X44_103x0a):ByteArray:=match L44_103x0a x with | some (.k0 _ _ _ _ _ _ _ d _ _ _)=>d | _=>ByteArray.empty
def L44_103x0a_k0_8 (x:X44_103x0a):Int:=match L44_103x0a x with | some (.k0 _ _ _ _ _ _ _ _ d _ _)=>d | _=>0
def L44_103x0a_k0_9 (x:X44_103x0a):Int:=match L44_103x0a x with | some (.k0 _ _ _ _ _ _ _ _ _ d _)=>d | _=>0
def L44_103x0a_k0_10 (x:X44_103x0a):Int:=match L44_103x0a x with | some (.k0 _ _ _ _ _ _ _ _ _ _ d)=>d | _=>0
def L44_103x0a_k1 (x:X44_103x0a):Bool:=match L44_103x0a x with | some (.k1 ..)=>true | _=>false
def L44_103x0a_k1_0 (x:X44_103x0a):ByteArray:=match L44_103x0a x with | some (.k1 d _ _ _ _ _ _ _ _ _)=>d | _=>ByteArray.empty
def L44_103x0a_k1_1 (x:X44_103x0a):Int:=match L44_103x0a x with | some (.k1 _ d _ _ _ _ _ _ _ _)=>d | _=>0
def L44_103x0a_k1_2 (x:X44_103x0a):Int:=match L44_103x0a x with | some (.k1 _ _ d _ _ _ _ _ _ _)=>d | _=>0
def L44_103x0a_k1_3 (x:X44_103x0a):Array Value:=match L44_103x0a x with | some (.k1 _ _ _ d _ _ _ _ _ _)=>d | _=>#[]
def L44_103x0a_k1_4 (x:X44_103x0a):Nat:=match L44_103x0a x with | some (.k1 _ _ _ _ d _ _ _ _ _)=>d | _=>0
def L44_103x0a_k1_5 (x:X44_103x0a):Nat:=match L44_103x0a x with | some (.k1 _ _ _ _ _ d _ _ _ _)=>d | _=>0
def L44_103x0a_k1_6 (x:X44_103x0a):ByteArray:=match L44_103x0a x with | some (.k1 _ _ _ _ _ _ d _ _ _)=>d | _=>ByteArray.empty
def L44_103x0a_k1_7 (x:X44_103x0a):Int:=match L44_103x0a x with | some (.k1 _ _ _ _ _ _ _ d _ _)=>d | _=>0
def L44_103x0a_k1_8 (x:X44_103x0a):Int:=match L44_103x0a x with | some (.k1 _ _ _ _ _ _ _ _ d _)=>d | _=>0
def L44_103x0a_k1_9 (x:X44_103x0a):Int:=match L44_103x0a x with | some (.k1 _ _ _ _ _ _ _ _ _ d)=>d | _=>0
def dec44_103x0a:Task→Option (Code×X44_103x0a)
  | .code none (.loop code) ⟨t,[],⟨[b0,b1],hb,hw⟩⟩ =>
    (match Nat.beq (firstReg code) 2,lenIs t 19 with
    | true,true=>((dLs 4 (lget t 0)).bind fun q0=>(fun v0 v1 v2=>(dFn 81 (lget t 1)).bind fun q1=>match q1.1,q1.2 with | [],[z1b0]=>((dPt 1 0 z1b0).bind fun _=>(dI .i64 (lget t 7)).bind fun v3=>(dI .i64 (lget t 8)).bind fun v4=>(dCe b0).bind fun l5=>match l5 with | [y5_0,y5_1,y5_2,y5_3]=>((dSt y5_0).bind fun v5=>(dI .i64 y5_1).bind fun v6=>(dI .i64 y5_2).bind fun v7=>(dLs 4 y5_3).bind fun q9=>(fun v8 v9 v10=>(dCe b1).bind fun l10=>match l10 with | [y10_0,y10_1,y10_2,y10_3]=>((dSt y10_0).bind fun v11=>(dI .i64 y10_1).bind fun v12=>(dI .i64 y10_2).bind fun v13=>(dI .i64 y10_3).bind fun v14=>some (code,⟨hb,hw,v0,v1,v2,v3,v4,v5,v6,v7,v8,v9,v10,v11,v12,v13,v14⟩)) | _=>none) q9.1 q9.2.1 q9.2.2) | _=>none) | _,_=>none) q0.1 q0.2.1 q0.2.2)
    | _,_=>none)
  | _=>none
def alt44_103x0a (x:X44_103x0a)(j:List Value):AT:=.br (L44_103x0a_k0 x) (loopEnd 19 (.ret) [(4,(.int .i64 (L44_103x0a_k0_0 x)))] ⟨[.cells ⟨[(.string (L44_103x0a_k0_1 x)),(.int .i64 (L44_103x0a_k0_2 x)),(.int .i64 (L44_103x0a_k0_3 x)),(lstV (L44_103x0a_k0_4 x) (L44_103x0a_k0_5 x) (L44_103x0a_k0_6 x) 4)]⟩ false,.cells ⟨[(.string (L44_103x0a_k0_7 x)),(.int .i64 (L44_103x0a_k0_8 x)),(.int .i64 (L44_103x0a_k0_9 x)),(.int .i64 (L44_103x0a_k0_10 x))]⟩ false],x.hb,0::1::x.hw⟩ j) (.br (L44_103x0a_k1 x) (loopEnd 19 (.exit 0) [] ⟨[.cells ⟨[(.string (L44_103x0a_k1_0 x)),(.int .i64 (L44_103x0a_k1_1 x)),(.int .i64 (L44_103x0a_k1_2 x)),(lstV (L44_103x0a_k1_3 x) (L44_103x0a_k1_4 x) (L44_103x0a_k1_5 x) 4)]⟩ false,.cells ⟨[(.string (L44_103x0a_k1_6 x)),(.int .i64 (L44_103x0a_k1_7 x)),(.int .i64 (L44_103x0a_k1_8 x)),(.int .i64 (L44_103x0a_k1_9 x))]⟩ false],x.hb,0::1::x.hw⟩ j) (.no))
def la44_103x0a (J:Task→List Value):Ans:=loopAns Lp44_103x0a.c dec44_103x0a alt44_103x0a J
theorem ha44_103x0a:∀(x:X44_103x0a) (j:List Value)(o:Out),(alt44_103x0a x j).out=some o→Lp44_103x0a.good x∧∃d,loopR rd44_103x0a x=some d∧o=Lp44_103x0a.tailB x d j x.hb x.hw:=by
  intro x j o h
  simp only [alt44_103x0a,AT.out]at h
  refine ⟨⟨rfl,fun a l e=>(by cases e)⟩,?_⟩
  cases hL:L44_103x0a x with
  | none=>simp only [L44_103x0a_k0,L44_103x0a_k0_0,L44_103x0a_k0_1,L44_103x0a_k0_2,L44_103x0a_k0_3,L44_103x0a_k0_4,L44_103x0a_k0_5,L44_103x0a_k0_6,L44_103x0a_k0_7,L44_103x0a_k0_8,L44_103x0a_k0_9,L44_103x0a_k0_10,L44_103x0a_k1,L44_103x0a_k1_0,L44_103x0a_k1_1,L44_103x0a_k1_2,L44_103x0a_k1_3,L44_103x0a_k1_4,L44_103x0a_k1_5,L44_103x0a_k1_6,L44_103x0a_k1_7,L44_103x0a_k1_8,L44_103x0a_k1_9,hL,AT.out,cond_false]at h;cases h
  | some d =>
    refine ⟨d,hL,?_⟩
    cases d<;>(simp only [L44_103x0a_k0,L44_103x0a_k0_0,L44_103x0a_k0_1,L44_103x0a_k0_2,L44_103x0a_k0_3,L44_103x0a_k0_4,L44_103x0a_k0_5,L44_103x0a_k0_6,L44_103x0a_k0_7,L44_103x0a_k0_8,L44_103x0a_k0_9,L44_103x0a_k0_10,L44_103x0a_k1,L44_103x0a_k1_0,L44_103x0a_k1_1,L44_103x0a_k1_2,L44_103x0a_k1_3,L44_103x0a_k1_4,L44_103x0a_k1_5,L44_103x0a_k1_6,L44_103x0a_k1_7,L44_103x0a_k1_8,L44_103x0a_k1_9,hL,AT.out,loopEnd,cond_true,cond_false,Option.some.injEq]at h;rw [← h];rfl)
theorem hd44_103x0a:∀(t:Task) (c:Code)(x:X44_103x0a),dec44_103x0a t=some (c,x)→c=Lp44_103x0a.c→∃T H',t=.code none (.loop Lp44_103x0a.c) ⟨T,[],⟨H',x.hb,x.hw⟩⟩∧Forgets H' (Lp44_103x0a.H x)∧T.length=Lp44_103x0a.N∧∀kv∈Lp44_103x0a.S.zip (Lp44_103x0a.sl x),lget T kv.1=kv.2:=by
  intro t c x h hc
  unfold dec44_103x0a at h
  split at h
  · split at h
    case h_2=>cases h
    rename_i hreg hlen
    have e2:=Option.bind_eq_some_iff.1 h
    clear h
    obtain ⟨_,hh,h⟩:=e2
    have hh:=dLs_eq hh
    have e2:=Option.bind_eq_some_iff.1 h
    clear h
    obtain ⟨⟨_,_⟩,hh,h⟩:=e2
    dsimp only at hh h
    have hh:=dFn_eq hh
    split at h
    case h_2=>cases h
    have e2:=Option.bind_eq_some_iff.1 h
    clear h
    obtain ⟨_,hh,h⟩:=e2
    obtain rfl:=dPt_eq hh
    clear hh
    have e2:=Option.bind_eq_some_iff.1 h
    clear h
    obtain ⟨_,hh,h⟩:=e2
    have hh:=dI_eq hh
    have e2:=Option.bind_eq_some_iff.1 h
    clear h
    obtain ⟨_,hh,h⟩:=e2
    have hh:=dI_eq hh
    have e2:=Option.bind_eq_some_iff.1 h
    clear h
    obtain ⟨_,hh,h⟩:=e2
    obtain rfl:=dCe_eq hh
    clear hh
    split at h
    case h_2=>cases h
    have e2:=Option.bind_eq_some_iff.1 h
    clear h
    obtain ⟨_,hh,h⟩:=e2
    obtain rfl:=dSt_eq hh
    clear hh
    have e2:=Option.bind_eq_some_iff.1 h
    clear h
    obtain ⟨_,hh,h⟩:=e2
    obtain rfl:=dI_eq hh
    clear hh
    have e2:=Option.bind_eq_some_iff.1 h
    clear h
    obtain ⟨_,hh,h⟩:=e2
    obtain rfl:=dI_eq hh
    clear hh
    have e2:=Option.bind_eq_some_iff.1 h
    clear h
    obtain ⟨_,hh,h⟩:=e2
    obtain rfl:=dLs_eq hh
    clear hh
    have e2:=Option.bind_eq_some_iff.1 h
    clear h
    obtain ⟨_,hh,h⟩:=e2
    obtain rfl:=dCe_eq hh
    clear hh
    split at h
    case h_2=>cases h
    have e2:=Option.bind_eq_some_iff.1 h
    clear h
    obtain ⟨_,hh,h⟩:=e2
    obtain rfl:=dSt_eq hh
    clear hh
    have e2:=Option.bind_eq_some_iff.1 h
    clear h
    obtain ⟨_,hh,h⟩:=e2
    obtain rfl:=dI_eq hh
    clear hh
    have e2:=Option.bind_eq_some_iff.1 h
    clear h
    obtain ⟨_,hh,h⟩:=e2
    obtain rfl:=dI_eq hh
    clear hh
    have e2:=Option.bind_eq_some_iff.1 h
    clear h
    obtain ⟨_,hh,h⟩:=e2
    obtain rfl:=dI_eq hh
    clear hh
    simp only [Option.some.injEq,Prod.mk.injEq]at h
    obtain ⟨rfl,rfl⟩:=h
    subst hc
    refine ⟨_,_,rfl,(Forgets.refl _),lenIs_eq _ _ hlen,?_⟩
    intro kv hk
    simp only [Lp44_103x0a,List.zip_cons_cons,List.zip_nil_right,List.mem_cons,List.not_mem_nil,or_false]at hk
    rcases hk with rfl | rfl | rfl | rfl<;>assumption
  · cases h
theorem kl44_103x0a:∃J,Known Try.prog (la44_103x0a J):=by
  exact LoopS.knownB noNG mixed ok44_103x0a (Known.or known42 (Known.or known79 known82)) (n:=60) (rd:=rd44_103x0a) (fun x j _=>T44_103x0a  x j) (fun x=>x.hb) (fun x=>x.hw) dec44_103x0a alt44_103x0a hd44_103x0a ha44_103x0a
structure X44_103x0b where
  hb:Nat
  hw:List Nat
  v0:Array Value
  v1:Nat
  v2:Nat
  v3:Int
  v4:Int
  v5:ByteArray
  v6:Int
  v7:Int
  v8:Array Value
  v9:Nat
  v10:Nat
  v11:ByteArray
  v12:Int
  v13:Int
  v14:Int
inductive D44_103x0b where
  | k0 (d0:Int) (d1:ByteArray) (d2:Int) (d3:Int) (d4:Array Value) (d5:Nat) (d6:Nat) (d7:ByteArray) (d8:Int) (d9:Int) (d10:Int)
  | k1 (d0:ByteArray) (d1:Int) (d2:Int) (d3:Array Value) (d4:Nat) (d5:Nat) (d6:ByteArray) (d7:Int) (d8:Int) (d9:Int)
def Lp44_103x0b:LoopS X44_103x0b D44_103x0b where
  c:=(theLoop Try.prog 103 0)
  N:=19
  M:=2
  S:=[0,1,7,8]
  Bs:=[]
  q:=none
  sz:=0
  z:=0
  own:=fun x=>none
  sl:=fun x=>[(lstV x.v0 x.v1 x.v2 4),(.func (.func 83) ⟨[]⟩ ⟨[(Value.pointer (Option.some (Addr.mk 1 0 Option.none)))]⟩),(.int .i64 x.v3),(.int .i64 x.v4)]
  hp:=fun x w=>[.cells ⟨[(.string x.v5),(.int .i64 x.v6),(.int .i64 x.v7),(lstV x.v8 x.v9 x.v10 4)]⟩ false,.cells ⟨[(.string x.v11),(.int .i64 x.v12),(.int .i64 x.v13),(.int .i64 x.v14)]⟩ false]
  ex:=fun d=>match d with | .k0 ..=>.ret | .k1 ..=>.exit 0
  pick:=fun e=>match e with | .ret=>[4] | .exit 0=>[] | _=>[]
  dv:=fun d=>match d with | .k0 d0 d1 d2 d3 d4 d5 d6 d7 d8 d9 d10=>[(.int .i64 d0)] | .k1 d0 d1 d2 d3 d4 d5 d6 d7 d8 d9=>[]
  dh:=fun d=>match d with | .k0 d0 d1 d2 d3 d4 d5 d6 d7 d8 d9 d10=>[.cells ⟨[(.string d1),(.int .i64 d2),(.int .i64 d3),(lstV d4 d5 d6 4)]⟩ false,.cells ⟨[(.string d7),(.int .i64 d8),(.int .i64 d9),(.int .i64 d10)]⟩ false] | .k1 d0 d1 d2 d3 d4 d5 d6 d7 d8 d9=>[.cells ⟨[(.string d0),(.int .i64 d1),(.int .i64 d2),(lstV d3 d4 d5 4)]⟩ false,.cells ⟨[(.string d6),(.int .i64 d7),(.int .i64 d8),(.int .i64 d9)]⟩ false]
theorem ok44_103x0b:Lp44_103x0b.OkS:=⟨fun x=>rfl,fun x=>rfl,fun x w=>rfl,fun x=>(fun _=>rfl),fun x w=>rfl,fun x w=>rfl,(fun q j h=>by cases h),fun d=>by cases d<;>rfl,fun d=>by cases d<;>rfl,fun d=>match d with | .k0 d0 d1 d2 d3 d4 d5 d6 d7 d8 d9 d10=>(fun _=>rfl) | .k1 d0 d1 d2 d3 d4 d5 d6 d7 d8 d9=>(fun _=>rfl),fun d=>by cases d<;>(intro h;cases h),fun d=>by cases d<;>rfl,fun d=>by cases d<;>rfl,by decide,by decide⟩
def rd44_103x0b (x:X44_103x0b):RT (Sum X44_103x0b D44_103x0b):=match x with
  | ⟨hb,hw,v0,v1,v2,v3,v4,v5,v6,v7,v8,v9,v10,v11,v12,v13,v14⟩ =>
     .br (decide (v4<v3)) (.br (and (decide ((0:Int)≤v4)) (decide (v4<(Int.ofNat v2)))) (.br (rdOk v0 [Leaf.str,(Leaf.int .i64),(Leaf.int .i64),(Leaf.int .i64)] (v1+((Int.toNat v4)*4))) (.br (decide ((getInt v0 ((v1+((Int.toNat v4)*4))+1))=v12)) (.br (not (decide ((min (getInt v0 (((v1+((Int.toNat v4)*4))+1)+1)) v13)=(0:Int)))) (.br (not (decide ((min (getInt v0 (((v1+((Int.toNat v4)*4))+1)+1)) v13)=(0:Int))))
     (.br (decide ((Int.tmod (getInt v0 ((((v1+((Int.toNat v4)*4))+1)+1)+1)) (min (getInt v0 (((v1+((Int.toNat v4)*4))+1)+1)) v13))=(Int.tmod v14 (min (getInt v0 (((v1+((Int.toNat v4)*4))+1)+1)) v13)))) (.leaf (.inr (.k0 (v4) (v5) (v6) (v7) (v8) (v9) (v10) (v11) (v12) (v13) (v14)))) (.leaf (.inl ⟨hb,hw,v0,v1,v2,v3,(IntKind.wrap .i64 (v4+(1:Int))),v5,v6,v7,v8,v9,v10,v11,v12,v13,v14⟩))) (.no)) (.no)) (.leaf (.inl ⟨hb,hw,v0,v1,v2,v3,(IntKind.wrap .i64 (v4+(1:Int))),v5,v6,v7,v8,v9,v10,v11,v12,v13,v14⟩))) (.no)) (.no)) (.leaf (.inr (.k1 (v5) (v6) (v7) (v8) (v9) (v10) (v11) (v12) (v13) (v14))))
theorem T44_103x0bn  (y:List Value) (hb:Nat) (hw:List Nat) (v0:Array Value) (v1:Nat) (v2:Nat) (v3:Int) (v4:Int) (v5:ByteArray) (v6:Int) (v7:Int) (v8:Array Value) (v9:Nat) (v10:Nat) (v11:ByteArray) (v12:Int) (v13:Int) (v14:Int):evC Try.prog (Ans.c (p42.or (p79.or p82))) 60 (.code none (theLoop Try.prog 103 0) ⟨sets (junkF 19 y) [(0,(lstV v0 v1 v2 4)),(1,(.func (.func 83) ⟨[]⟩ ⟨[(Value.pointer (Option.some (Addr.mk 1 0 Option.none)))]⟩)),(7,(.int .i64 v3)),(8,(.int .i64 v4))],[],⟨[.cells ⟨[(.string v5),(.int .i64 v6),(.int .i64 v7),(lstV v8 v9 v10 4)]⟩ false,.cells ⟨[(.string v11),(.int .i64 v12),(.int .i64 v13),(.int .i64 v14)]⟩ false],0,[]⟩⟩) (kS 19 2 [0,1,7,8] Lp44_103x0b.pick [] 0 none)=(rd44_103x0b ⟨hb,hw,v0,v1,v2,v3,v4,v5,v6,v7,v8,v9,v10,v11,v12,v13,v14⟩).out Lp44_103x0b.encS:=by kernel_rfl
theorem T44_103x0b  (x:X44_103x0b) (y:List Value):evC Try.prog (Ans.c (p42.or (p79.or p82))) 60 (Lp44_103x0b.headS x y) (kS Lp44_103x0b.N Lp44_103x0b.M Lp44_103x0b.S Lp44_103x0b.pick Lp44_103x0b.Bs Lp44_103x0b.z Lp44_103x0b.q)=(rd44_103x0b x).out Lp44_103x0b.encS:=by
  obtain ⟨hb,hw,v0,v1,v2,v3,v4,v5,v6,v7,v8,v9,v10,v11,v12,v13,v14⟩:=x
  exact T44_103x0bn  y hb hw v0 v1 v2 v3 v4 v5 v6 v7 v8 v9 v10 v11 v12 v13 v14
def L44_103x0b (x:X44_103x0b):Option D44_103x0b:=loopR rd44_103x0b x
def L44_103x0b_k0 (x:X44_103x0b):Bool:=match L44_103x0b x with | some (.k0 ..)=>true | _=>false
def L44_103x0b_k0_0 (x:X44_103x0b):Int:=match L44_103x0b x with | some (.k0 d _ _ _ _ _ _ _ _ _ _)=>d | _=>0
def L44_103x0b_k0_1 (x:X44_103x0b):ByteArray:=match L44_103x0b x with | some (.k0 _ d _ _ _ _ _ _ _ _ _)=>d | _=>ByteArray.empty
def L44_103x0b_k0_2 (x:X44_103x0b):Int:=match L44_103x0b x with | some (.k0 _ _ d _ _ _ _ _ _ _ _)=>d | _=>0
def L44_103x0b_k0_3 (x:X44_103x0b):Int:=match L44_103x0b x with | some (.k0 _ _ _ d _ _ _ _ _ _ _)=>d | _=>0
def L44_103x0b_k0_4 (x:X44_103x0b):Array Value:=match L44_103x0b x with | some (.k0 _ _ _ _ d _ _ _ _ _ _)=>d | _=>#[]
def L44_103x0b_k0_5 (x:X44_103x0b):Nat:=match L44_103x0b x with | some (.k0 _ _ _ _ _ d _ _ _ _ _)=>d | _=>0
def L44_103x0b_k0_6 (x:X44_103x0b):Nat:=match L44_103x0b x with | some (.k0 _ _ _ _ _ _ d _ _ _ _)=>d | _=>0
def L44_103x0b_k0_7 (x:X44_103x0b):ByteArray:=match L44_103x0b x with | some (.k0 _ _ _ _ _ _ _ d _ _ _)=>d | _=>ByteArray.empty
def L44_103x0b_k0_8 (x:X44_103x0b):Int:=match L44_103x0b x with | some (.k0 _ _ _ _ _ _ _ _ d _ _)=>d | _=>0
def L44_103x0b_k0_9 (x:X44_103x0b):Int:=match L44_103x0b x with | some (.k0 _ _ _ _ _ _ _ _ _ d _)=>d | _=>0
def L44_103x0b_k0_10 (x:X44_103x0b):Int:=match L44_103x0b x with | some (.k0 _ _ _ _ _ _ _ _ _ _ d)=>d | _=>0
def L44_103x0b_k1 (x:X44_103x0b):Bool:=match L44_103x0b x with | some (.k1 ..)=>true | _=>false
def L44_103x0b_k1_0 (x:X44_103x0b):ByteArray:=match L44_103x0b x with | some (.k1 d _ _ _ _ _ _ _ _ _)=>d | _=>ByteArray.empty
def L44_103x0b_k1_1 (x:X44_103x0b):Int:=match L44_103x0b x with | some (.k1 _ d _ _ _ _ _ _ _ _)=>d | _=>0
def L44_103x0b_k1_2 (x:X44_103x0b):Int:=match L44_103x0b x with | some (.k1 _ _ d _ _ _ _ _ _ _)=>d | _=>0
def L44_103x0b_k1_3 (x:X44_103x0b):Array Value:=match L44_103x0b x with | some (.k1 _ _ _ d _ _ _ _ _ _)=>d | _=>#[]
def L44_103x0b_k1_4 (x:X44_103x0b):Nat:=match L44_103x0b x with | some (.k1 _ _ _ _ d _ _ _ _ _)=>d | _=>0
def L44_103x0b_k1_5 (x:X44_103x0b):Nat:=match L44_103x0b x with | some (.k1 _ _ _ _ _ d _ _ _ _)=>d | _=>0
def L44_103x0b_k1_6 (x:X44_103x0b):ByteArray:=match L44_103x0b x with | some (.k1 _ _ _ _ _ _ d _ _ _)=>d | _=>ByteArray.empty
def L44_103x0b_k1_7 (x:X44_103x0b):Int:=match L44_103x0b x with | some (.k1 _ _ _ _ _ _ _ d _ _)=>d | _=>0
def L44_103x0b_k1_8 (x:X44_103x0b):Int:=match L44_103x0b x with | some (.k1 _ _ _ _ _ _ _ _ d _)=>d | _=>0
def L44_103x0b_k1_9 (x:X44_103x0b):Int:=match L44_103x0b x with | some (.k1 _ _ _ _ _ _ _ _ _ d)=>d | _=>0
def dec44_103x0b:Task→Option (Code×X44_103x0b)
  | .code none (.loop code) ⟨t,[],⟨[b0,b1],hb,hw⟩⟩ =>
    (match Nat.beq (firstReg code) 2,lenIs t 19 with
    | true,true=>((dLs 4 (lget t 0)).bind fun q0=>(fun v0 v1 v2=>(dFn 83 (lget t 1)).bind fun q1=>match q1.1,q1.2 with | [],[z1b0]=>((dPt 1 0 z1b0).bind fun _=>(dI .i64 (lget t 7)).bind fun v3=>(dI .i64 (lget t 8)).bind fun v4=>(dCe b0).bind fun l5=>match l5 with | [y5_0,y5_1,y5_2,y5_3]=>((dSt y5_0).bind fun v5=>(dI .i64 y5_1).bind fun v6=>(dI .i64 y5_2).bind fun v7=>(dLs 4 y5_3).bind fun q9=>(fun v8 v9 v10=>(dCe b1).bind fun l10=>match l10 with | [y10_0,y10_1,y10_2,y10_3]=>((dSt y10_0).bind fun v11=>(dI .i64 y10_1).bind fun v12=>(dI .i64 y10_2).bind fun v13=>(dI .i64 y10_3).bind fun v14=>some (code,⟨hb,hw,v0,v1,v2,v3,v4,v5,v6,v7,v8,v9,v10,v11,v12,v13,v14⟩)) | _=>none) q9.1 q9.2.1 q9.2.2) | _=>none) | _,_=>none) q0.1 q0.2.1 q0.2.2)
    | _,_=>none)
  | _=>none
def alt44_103x0b (x:X44_103x0b)(j:List Value):AT:=.br (L44_103x0b_k0 x) (loopEnd 19 (.ret) [(4,(.int .i64 (L44_103x0b_k0_0 x)))] ⟨[.cells ⟨[(.string (L44_103x0b_k0_1 x)),(.int .i64 (L44_103x0b_k0_2 x)),(.int .i64 (L44_103x0b_k0_3 x)),(lstV (L44_103x0b_k0_4 x) (L44_103x0b_k0_5 x) (L44_103x0b_k0_6 x) 4)]⟩ false,.cells ⟨[(.string (L44_103x0b_k0_7 x)),(.int .i64 (L44_103x0b_k0_8 x)),(.int .i64 (L44_103x0b_k0_9 x)),(.int .i64 (L44_103x0b_k0_10 x))]⟩ false],x.hb,0::1::x.hw⟩ j) (.br (L44_103x0b_k1 x) (loopEnd 19 (.exit 0) [] ⟨[.cells ⟨[(.string (L44_103x0b_k1_0 x)),(.int .i64 (L44_103x0b_k1_1 x)),(.int .i64 (L44_103x0b_k1_2 x)),(lstV (L44_103x0b_k1_3 x) (L44_103x0b_k1_4 x) (L44_103x0b_k1_5 x) 4)]⟩ false,.cells ⟨[(.string (L44_103x0b_k1_6 x)),(.int .i64 (L44_103x0b_k1_7 x)),(.int .i64 (L44_103x0b_k1_8 x)),(.int .i64 (L44_103x0b_k1_9 x))]⟩ false],x.hb,0::1::x.hw⟩ j) (.no))
def la44_103x0b (J:Task→List Value):Ans:=loopAns Lp44_103x0b.c dec44_103x0b alt44_103x0b J
theorem ha44_103x0b:∀(x:X44_103x0b) (j:List Value)(o:Out),(alt44_103x0b x j).out=some o→Lp44_103x0b.good x∧∃d,loopR rd44_103x0b x=some d∧o=Lp44_103x0b.tailB x d j x.hb x.hw:=by
  intro x j o h
  simp only [alt44_103x0b,AT.out]at h
  refine ⟨⟨rfl,fun a l e=>(by cases e)⟩,?_⟩
  cases hL:L44_103x0b x with
  | none=>simp only [L44_103x0b_k0,L44_103x0b_k0_0,L44_103x0b_k0_1,L44_103x0b_k0_2,L44_103x0b_k0_3,L44_103x0b_k0_4,L44_103x0b_k0_5,L44_103x0b_k0_6,L44_103x0b_k0_7,L44_103x0b_k0_8,L44_103x0b_k0_9,L44_103x0b_k0_10,L44_103x0b_k1,L44_103x0b_k1_0,L44_103x0b_k1_1,L44_103x0b_k1_2,L44_103x0b_k1_3,L44_103x0b_k1_4,L44_103x0b_k1_5,L44_103x0b_k1_6,L44_103x0b_k1_7,L44_103x0b_k1_8,L44_103x0b_k1_9,hL,AT.out,cond_false]at h;cases h
  | some d =>
    refine ⟨d,hL,?_⟩
    cases d<;>(simp only [L44_103x0b_k0,L44_103x0b_k0_0,L44_103x0b_k0_1,L44_103x0b_k0_2,L44_103x0b_k0_3,L44_103x0b_k0_4,L44_103x0b_k0_5,L44_103x0b_k0_6,L44_103x0b_k0_7,L44_103x0b_k0_8,L44_103x0b_k0_9,L44_103x0b_k0_10,L44_103x0b_k1,L44_103x0b_k1_0,L44_103x0b_k1_1,L44_103x0b_k1_2,L44_103x0b_k1_3,L44_103x0b_k1_4,L44_103x0b_k1_5,L44_103x0b_k1_6,L44_103x0b_k1_7,L44_103x0b_k1_8,L44_103x0b_k1_9,hL,AT.out,loopEnd,cond_true,cond_false,Option.some.injEq]at h;rw [← h];rfl)
theorem hd44_103x0b:∀(t:Task) (c:Code)(x:X44_103x0b),dec44_103x0b t=some (c,x)→c=Lp44_103x0b.c→∃T H',t=.code none (.loop Lp44_103x0b.c) ⟨T,[],⟨H',x.hb,x.hw⟩⟩∧Forgets H' (Lp44_103x0b.H x)∧T.length=Lp44_103x0b.N∧∀kv∈Lp44_103x0b.S.zip (Lp44_103x0b.sl x),lget T kv.1=kv.2:=by
  intro t c x h hc
  unfold dec44_103x0b at h
  split at h
  · split at h
    case h_2=>cases h
    rename_i hreg hlen
    have e2:=Option.bind_eq_some_iff.1 h
    clear h
    obtain ⟨_,hh,h⟩:=e2
    have hh:=dLs_eq hh
    have e2:=Option.bind_eq_some_iff.1 h
    clear h
    obtain ⟨⟨_,_⟩,hh,h⟩:=e2
    dsimp only at hh h
    have hh:=dFn_eq hh
    split at h
    case h_2=>cases h
    have e2:=Option.bind_eq_some_iff.1 h
    clear h
    obtain ⟨_,hh,h⟩:=e2
    obtain rfl:=dPt_eq hh
    clear hh
    have e2:=Option.bind_eq_some_iff.1 h
    clear h
    obtain ⟨_,hh,h⟩:=e2
    have hh:=dI_eq hh
    have e2:=Option.bind_eq_some_iff.1 h
    clear h
    obtain ⟨_,hh,h⟩:=e2
    have hh:=dI_eq hh
    have e2:=Option.bind_eq_some_iff.1 h
    clear h
    obtain ⟨_,hh,h⟩:=e2
    obtain rfl:=dCe_eq hh
    clear hh
    split at h
    case h_2=>cases h
    have e2:=Option.bind_eq_some_iff.1 h
    clear h
    obtain ⟨_,hh,h⟩:=e2
    obtain rfl:=dSt_eq hh
    clear hh
    have e2:=Option.bind_eq_some_iff.1 h
    clear h
    obtain ⟨_,hh,h⟩:=e2
    obtain rfl:=dI_eq hh
    clear hh
    have e2:=Option.bind_eq_some_iff.1 h
    clear h
    obtain ⟨_,hh,h⟩:=e2
    obtain rfl:=dI_eq hh
    clear hh
    have e2:=Option.bind_eq_some_iff.1 h
    clear h
    obtain ⟨_,hh,h⟩:=e2
    obtain rfl:=dLs_eq hh
    clear hh
    have e2:=Option.bind_eq_some_iff.1 h
    clear h
    obtain ⟨_,hh,h⟩:=e2
    obtain rfl:=dCe_eq hh
    clear hh
    split at h
    case h_2=>cases h
    have e2:=Option.bind_eq_some_iff.1 h
    clear h
    obtain ⟨_,hh,h⟩:=e2
    obtain rfl:=dSt_eq hh
    clear hh
    have e2:=Option.bind_eq_some_iff.1 h
    clear h
    obtain ⟨_,hh,h⟩:=e2
    obtain rfl:=dI_eq hh
    clear hh
    have e2:=Option.bind_eq_some_iff.1 h
    clear h
    obtain ⟨_,hh,h⟩:=e2
    obtain rfl:=dI_eq hh
    clear hh
    have e2:=Option.bind_eq_some_iff.1 h
    clear h
    obtain ⟨_,hh,h⟩:=e2
    obtain rfl:=dI_eq hh
    clear hh
    simp only [Option.some.injEq,Prod.mk.injEq]at h
    obtain ⟨rfl,rfl⟩:=h
    subst hc
    refine ⟨_,_,rfl,(Forgets.refl _),lenIs_eq _ _ hlen,?_⟩
    intro kv hk
    simp only [Lp44_103x0b,List.zip_cons_cons,List.zip_nil_right,List.mem_cons,List.not_mem_nil,or_false]at hk
    rcases hk with rfl | rfl | rfl | rfl<;>assumption
  · cases h
theorem kl44_103x0b:∃J,Known Try.prog (la44_103x0b J):=by
  exact LoopS.knownB noNG mixed ok44_103x0b (Known.or known42 (Known.or known79 known82)) (n:=60) (rd:=rd44_103x0b) (fun x j _=>T44_103x0b  x j) (fun x=>x.hb) (fun x=>x.hw) dec44_103x0b alt44_103x0b hd44_103x0b ha44_103x0b
structure R44 where
  r0:Int
structure A44 where
  a0:ByteArray
  a1:Int
  a2:Int
  a3:Array Value
  a4:Nat
  a5:Nat
  a6:ByteArray
  a7:Int
  a8:Int
  a9:Int
  a10:Array Value
  a11:Nat
  a12:Nat
def rt44 (a0:ByteArray)(a1:Int)(a2:Int)(a3:Array Value)(a4:Nat)(a5:Nat)(a6:ByteArray)(a7:Int)(a8:Int)(a9:Int)(a10:Array Value)(a11:Nat)(a12:Nat):RT R44 :=
  .br (F79_ok a6) (.br (not (F79_0 a6)) (.leaf ⟨(6:Int)⟩)
   (.sw (eqCode (Lp44_103x0a.c) (Lp44_103x0a.c)) true (by simp only [eqCode_self,arrEq_self]) (.br (L44_103x0a_k0 (X44_103x0a.mk 2 [] (a10) a11 a12 (Int.ofNat a12) (0:Int) a0 a1 a2 (a3) a4 a5 a6 a7 a8 a9)) (.br (decide ((0:Int)≤(L44_103x0a_k0_0 (X44_103x0a.mk 2 [] (a10) a11 a12 (Int.ofNat a12) (0:Int) a0 a1 a2 (a3) a4 a5 a6 a7 a8 a9)))) (.leaf ⟨(5:Int)⟩) (.br (F42_ok (L44_103x0a_k0_8 (X44_103x0a.mk 2 [] (a10) a11 a12 (Int.ofNat a12) (0:Int) a0 a1 a2 (a3) a4 a5 a6 a7 a8 a9)) (0:Int) (IntKind.wrap .i64 ((L44_103x0a_k0_2 (X44_103x0a.mk 2 [] (a10) a11 a12 (Int.ofNat a12) (0:Int) a0 a1 a2 (a3) a4 a5 a6 a7 a8 a9))-(1:Int)))) (.br (not (F42_0 (L44_103x0a_k0_8 (X44_103x0a.mk 2 [] (a10) a11 a12 (Int.ofNat a12) (0:Int) a0 a1 a2 (a3) a4 a5 a6 a7 a8 a9)) (0:Int) (IntKind.wrap .i64 ((L44_103x0a_k0_2 (X44_103x0a.mk 2 [] (a10) a11 a12 (Int.ofNat a12) (0:Int) a0 a1 a2 (a3) a4 a5 a6 a7 a8 a9))-(1:Int))))) (.leaf ⟨(7:Int)⟩)
     (.br (F82_ok (L44_103x0a_k0_9 (X44_103x0a.mk 2 [] (a10) a11 a12 (Int.ofNat a12) (0:Int) a0 a1 a2 (a3) a4 a5 a6 a7 a8 a9)) (L44_103x0a_k0_3 (X44_103x0a.mk 2 [] (a10) a11 a12 (Int.ofNat a12) (0:Int) a0 a1 a2 (a3) a4 a5 a6 a7 a8 a9))) (.br (not (F82_0 (L44_103x0a_k0_9 (X44_103x0a.mk 2 [] (a10) a11 a12 (Int.ofNat a12) (0:Int) a0 a1 a2 (a3) a4 a5 a6 a7 a8 a9)) (L44_103x0a_k0_3 (X44_103x0a.mk 2 [] (a10) a11 a12 (Int.ofNat a12) (0:Int) a0 a1 a2 (a3) a4 a5 a6 a7 a8 a9)))) (.leaf ⟨(7:Int)⟩) (.br (F42_ok (L44_103x0a_k0_10 (X44_103x0a.mk 2 [] (a10) a11 a12 (Int.ofNat a12) (0:Int) a0 a1 a2 (a3) a4 a5 a6 a7 a8 a9)) (0:Int) (IntKind.wrap .i64 ((L44_103x0a_k0_9 (X44_103x0a.mk 2 [] (a10) a11 a12 (Int.ofNat a12) (0:Int) a0 a1 a2 (a3) a4 a5 a6 a7 a8 a9))-(1:Int))))
     (.br (not (F42_0 (L44_103x0a_k0_10 (X44_103x0a.mk 2 [] (a10) a11 a12 (Int.ofNat a12) (0:Int) a0 a1 a2 (a3) a4 a5 a6 a7 a8 a9)) (0:Int) (IntKind.wrap .i64 ((L44_103x0a_k0_9 (X44_103x0a.mk 2 [] (a10) a11 a12 (Int.ofNat a12) (0:Int) a0 a1 a2 (a3) a4 a5 a6 a7 a8 a9))-(1:Int))))) (.leaf ⟨(7:Int)⟩)
            (.sw (eqCode (Lp44_103x0b.c) (Lp44_103x0b.c)) true (by simp only [eqCode_self,arrEq_self])
     (.br (L44_103x0b_k0 (X44_103x0b.mk 2 [] (a10) a11 a12 (Int.ofNat a12) (0:Int) (L44_103x0a_k0_1 (X44_103x0a.mk 2 [] (a10) a11 a12 (Int.ofNat a12) (0:Int) a0 a1 a2 (a3) a4 a5 a6 a7 a8 a9)) (L44_103x0a_k0_2 (X44_103x0a.mk 2 [] (a10) a11 a12 (Int.ofNat a12) (0:Int) a0 a1 a2 (a3) a4 a5 a6 a7 a8 a9)) (L44_103x0a_k0_3 (X44_103x0a.mk 2 [] (a10) a11 a12 (Int.ofNat a12) (0:Int) a0 a1 a2 (a3) a4 a5 a6 a7 a8 a9)) (L44_103x0a_k0_4 (X44_103x0a.mk 2 [] (a10) a11 a12 (Int.ofNat a12) (0:Int) a0 a1 a2 (a3) a4 a5 a6 a7 a8 a9)) (L44_103x0a_k0_5 (X44_103x0a.mk 2 [] (a10) a11 a12 (Int.ofNat a12) (0:Int) a0 a1 a2 (a3) a4 a5 a6 a7 a8 a9)) (L44_103x0a_k0_6 (X44_103x0a.mk 2 [] (a10) a11 a12 (Int.ofNat a12) (0:Int) a0 a1 a2 (a3) a4 a5 a6 a7 a8 a9)) (L44_103x0a_k0_7 (X44_103x0a.mk 2 [] (a10) a11 a12 (Int.ofNat a12) (0:Int) a0 a1 a2 (a3) a4 a5 a6 a7 a8 a9)) (L44_103x0a_k0_8 (X44_103x0a.mk 2 [] (a10) a11 a12 (Int.ofNat a12) (0:Int) a0 a1 a2 (a3) a4 a5 a6 a7 a8 a9)) (L44_103x0a_k0_9 (X44_103x0a.mk 2 [] (a10) a11 a12 (Int.ofNat a12) (0:Int) a0 a1 a2 (a3) a4 a5 a6 a7 a8 a9)) (L44_103x0a_k0_10 (X44_103x0a.mk 2 [] (a10) a11 a12 (Int.ofNat a12) (0:Int) a0 a1 a2 (a3) a4 a5 a6 a7 a8 a9))))
     (.br (decide ((0:Int)≤(L44_103x0b_k0_0 (X44_103x0b.mk 2 [] (a10) a11 a12 (Int.ofNat a12) (0:Int) (L44_103x0a_k0_1 (X44_103x0a.mk 2 [] (a10) a11 a12 (Int.ofNat a12) (0:Int) a0 a1 a2 (a3) a4 a5 a6 a7 a8 a9)) (L44_103x0a_k0_2 (X44_103x0a.mk 2 [] (a10) a11 a12 (Int.ofNat a12) (0:Int) a0 a1 a2 (a3) a4 a5 a6 a7 a8 a9)) (L44_103x0a_k0_3 (X44_103x0a.mk 2 [] (a10) a11 a12 (Int.ofNat a12) (0:Int) a0 a1 a2 (a3) a4 a5 a6 a7 a8 a9)) (L44_103x0a_k0_4 (X44_103x0a.mk 2 [] (a10) a11 a12 (Int.ofNat a12) (0:Int) a0 a1 a2 (a3) a4 a5 a6 a7 a8 a9)) (L44_103x0a_k0_5 (X44_103x0a.mk 2 [] (a10) a11 a12 (Int.ofNat a12) (0:Int) a0 a1 a2 (a3) a4 a5 a6 a7 a8 a9)) (L44_103x0a_k0_6 (X44_103x0a.mk 2 [] (a10) a11 a12 (Int.ofNat a12) (0:Int) a0 a1 a2 (a3) a4 a5 a6 a7 a8 a9)) (L44_103x0a_k0_7 (X44_103x0a.mk 2 [] (a10) a11 a12 (Int.ofNat a12) (0:Int) a0 a1 a2 (a3) a4 a5 a6 a7 a8 a9)) (L44_103x0a_k0_8 (X44_103x0a.mk 2 [] (a10) a11 a12 (Int.ofNat a12) (0:Int) a0 a1 a2 (a3) a4 a5 a6 a7 a8 a9)) (L44_103x0a_k0_9 (X44_103x0a.mk 2 [] (a10) a11 a12 (Int.ofNat a12) (0:Int) a0 a1 a2 (a3) a4 a5 a6 a7 a8 a9)) (L44_103x0a_k0_10 (X44_103x0a.mk 2 [] (a10) a11 a12 (Int.ofNat a12) (0:Int) a0 a1 a2 (a3) a4 a5 a6 a7 a8 a9)))))) (.leaf ⟨(2:Int)⟩) (.leaf ⟨(0:Int)⟩))
     (.br (L44_103x0b_k1 (X44_103x0b.mk 2 [] (a10) a11 a12 (Int.ofNat a12) (0:Int) (L44_103x0a_k0_1 (X44_103x0a.mk 2 [] (a10) a11 a12 (Int.ofNat a12) (0:Int) a0 a1 a2 (a3) a4 a5 a6 a7 a8 a9)) (L44_103x0a_k0_2 (X44_103x0a.mk 2 [] (a10) a11 a12 (Int.ofNat a12) (0:Int) a0 a1 a2 (a3) a4 a5 a6 a7 a8 a9)) (L44_103x0a_k0_3 (X44_103x0a.mk 2 [] (a10) a11 a12 (Int.ofNat a12) (0:Int) a0 a1 a2 (a3) a4 a5 a6 a7 a8 a9)) (L44_103x0a_k0_4 (X44_103x0a.mk 2 [] (a10) a11 a12 (Int.ofNat a12) (0:Int) a0 a1 a2 (a3) a4 a5 a6 a7 a8 a9)) (L44_103x0a_k0_5 (X44_103x0a.mk 2 [] (a10) a11 a12 (Int.ofNat a12) (0:Int) a0 a1 a2 (a3) a4 a5 a6 a7 a8 a9)) (L44_103x0a_k0_6 (X44_103x0a.mk 2 [] (a10) a11 a12 (Int.ofNat a12) (0:Int) a0 a1 a2 (a3) a4 a5 a6 a7 a8 a9)) (L44_103x0a_k0_7 (X44_103x0a.mk 2 [] (a10) a11 a12 (Int.ofNat a12) (0:Int) a0 a1 a2 (a3) a4 a5 a6 a7 a8 a9)) (L44_103x0a_k0_8 (X44_103x0a.mk 2 [] (a10) a11 a12 (Int.ofNat a12) (0:Int) a0 a1 a2 (a3) a4 a5 a6 a7 a8 a9)) (L44_103x0a_k0_9 (X44_103x0a.mk 2 [] (a10) a11 a12 (Int.ofNat a12) (0:Int) a0 a1 a2 (a3) a4 a5 a6 a7 a8 a9)) (L44_103x0a_k0_10 (X44_103x0a.mk 2 [] (a10) a11 a12 (Int.ofNat a12) (0:Int) a0 a1 a2 (a3) a4 a5 a6 a7 a8 a9)))) (.leaf ⟨(0:Int)⟩) (.no))) (.no))) (.no))) (.no))) (.no)))
     (.br (L44_103x0a_k1 (X44_103x0a.mk 2 [] (a10) a11 a12 (Int.ofNat a12) (0:Int) a0 a1 a2 (a3) a4 a5 a6 a7 a8 a9)) (.br (F42_ok (L44_103x0a_k1_7 (X44_103x0a.mk 2 [] (a10) a11 a12 (Int.ofNat a12) (0:Int) a0 a1 a2 (a3) a4 a5 a6 a7 a8 a9)) (0:Int) (IntKind.wrap .i64 ((L44_103x0a_k1_1 (X44_103x0a.mk 2 [] (a10) a11 a12 (Int.ofNat a12) (0:Int) a0 a1 a2 (a3) a4 a5 a6 a7 a8 a9))-(1:Int)))) (.br (not (F42_0 (L44_103x0a_k1_7 (X44_103x0a.mk 2 [] (a10) a11 a12 (Int.ofNat a12) (0:Int) a0 a1 a2 (a3) a4 a5 a6 a7 a8 a9)) (0:Int) (IntKind.wrap .i64 ((L44_103x0a_k1_1 (X44_103x0a.mk 2 [] (a10) a11 a12 (Int.ofNat a12) (0:Int) a0 a1 a2 (a3) a4 a5 a6 a7 a8 a9))-(1:Int))))) (.leaf ⟨(7:Int)⟩) (.br (F82_ok (L44_103x0a_k1_8 (X44_103x0a.mk 2 [] (a10) a11 a12 (Int.ofNat a12) (0:Int) a0 a1 a2 (a3) a4 a5 a6 a7 a8 a9)) (L44_103x0a_k1_2 (X44_103x0a.mk 2 [] (a10) a11 a12 (Int.ofNat a12) (0:Int) a0 a1 a2 (a3) a4 a5 a6 a7 a8 a9)))
     (.br (not (F82_0 (L44_103x0a_k1_8 (X44_103x0a.mk 2 [] (a10) a11 a12 (Int.ofNat a12) (0:Int) a0 a1 a2 (a3) a4 a5 a6 a7 a8 a9)) (L44_103x0a_k1_2 (X44_103x0a.mk 2 [] (a10) a11 a12 (Int.ofNat a12) (0:Int) a0 a1 a2 (a3) a4 a5 a6 a7 a8 a9)))) (.leaf ⟨(7:Int)⟩) (.br (F42_ok (L44_103x0a_k1_9 (X44_103x0a.mk 2 [] (a10) a11 a12 (Int.ofNat a12) (0:Int) a0 a1 a2 (a3) a4 a5 a6 a7 a8 a9)) (0:Int) (IntKind.wrap .i64 ((L44_103x0a_k1_8 (X44_103x0a.mk 2 [] (a10) a11 a12 (Int.ofNat a12) (0:Int) a0 a1 a2 (a3) a4 a5 a6 a7 a8 a9))-(1:Int)))) (.br (not (F42_0 (L44_103x0a_k1_9 (X44_103x0a.mk 2 [] (a10) a11 a12 (Int.ofNat a12) (0:Int) a0 a1 a2 (a3) a4 a5 a6 a7 a8 a9)) (0:Int) (IntKind.wrap .i64 ((L44_103x0a_k1_8 (X44_103x0a.mk 2 [] (a10) a11 a12 (Int.ofNat a12) (0:Int) a0 a1 a2 (a3) a4 a5 a6 a7 a8 a9))-(1:Int))))) (.leaf ⟨(7:Int)⟩)
            (.sw (eqCode (Lp44_103x0b.c) (Lp44_103x0b.c)) true (by simp only [eqCode_self,arrEq_self])
     (.br (L44_103x0b_k0 (X44_103x0b.mk 2 [] (a10) a11 a12 (Int.ofNat a12) (0:Int) (L44_103x0a_k1_0 (X44_103x0a.mk 2 [] (a10) a11 a12 (Int.ofNat a12) (0:Int) a0 a1 a2 (a3) a4 a5 a6 a7 a8 a9)) (L44_103x0a_k1_1 (X44_103x0a.mk 2 [] (a10) a11 a12 (Int.ofNat a12) (0:Int) a0 a1 a2 (a3) a4 a5 a6 a7 a8 a9)) (L44_103x0a_k1_2 (X44_103x0a.mk 2 [] (a10) a11 a12 (Int.ofNat a12) (0:Int) a0 a1 a2 (a3) a4 a5 a6 a7 a8 a9)) (L44_103x0a_k1_3 (X44_103x0a.mk 2 [] (a10) a11 a12 (Int.ofNat a12) (0:Int) a0 a1 a2 (a3) a4 a5 a6 a7 a8 a9)) (L44_103x0a_k1_4 (X44_103x0a.mk 2 [] (a10) a11 a12 (Int.ofNat a12) (0:Int) a0 a1 a2 (a3) a4 a5 a6 a7 a8 a9)) (L44_103x0a_k1_5 (X44_103x0a.mk 2 [] (a10) a11 a12 (Int.ofNat a12) (0:Int) a0 a1 a2 (a3) a4 a5 a6 a7 a8 a9)) (L44_103x0a_k1_6 (X44_103x0a.mk 2 [] (a10) a11 a12 (Int.ofNat a12) (0:Int) a0 a1 a2 (a3) a4 a5 a6 a7 a8 a9)) (L44_103x0a_k1_7 (X44_103x0a.mk 2 [] (a10) a11 a12 (Int.ofNat a12) (0:Int) a0 a1 a2 (a3) a4 a5 a6 a7 a8 a9)) (L44_103x0a_k1_8 (X44_103x0a.mk 2 [] (a10) a11 a12 (Int.ofNat a12) (0:Int) a0 a1 a2 (a3) a4 a5 a6 a7 a8 a9)) (L44_103x0a_k1_9 (X44_103x0a.mk 2 [] (a10) a11 a12 (Int.ofNat a12) (0:Int) a0 a1 a2 (a3) a4 a5 a6 a7 a8 a9))))
     (.br (decide ((0:Int)≤(L44_103x0b_k0_0 (X44_103x0b.mk 2 [] (a10) a11 a12 (Int.ofNat a12) (0:Int) (L44_103x0a_k1_0 (X44_103x0a.mk 2 [] (a10) a11 a12 (Int.ofNat a12) (0:Int) a0 a1 a2 (a3) a4 a5 a6 a7 a8 a9)) (L44_103x0a_k1_1 (X44_103x0a.mk 2 [] (a10) a11 a12 (Int.ofNat a12) (0:Int) a0 a1 a2 (a3) a4 a5 a6 a7 a8 a9)) (L44_103x0a_k1_2 (X44_103x0a.mk 2 [] (a10) a11 a12 (Int.ofNat a12) (0:Int) a0 a1 a2 (a3) a4 a5 a6 a7 a8 a9)) (L44_103x0a_k1_3 (X44_103x0a.mk 2 [] (a10) a11 a12 (Int.ofNat a12) (0:Int) a0 a1 a2 (a3) a4 a5 a6 a7 a8 a9)) (L44_103x0a_k1_4 (X44_103x0a.mk 2 [] (a10) a11 a12 (Int.ofNat a12) (0:Int) a0 a1 a2 (a3) a4 a5 a6 a7 a8 a9)) (L44_103x0a_k1_5 (X44_103x0a.mk 2 [] (a10) a11 a12 (Int.ofNat a12) (0:Int) a0 a1 a2 (a3) a4 a5 a6 a7 a8 a9)) (L44_103x0a_k1_6 (X44_103x0a.mk 2 [] (a10) a11 a12 (Int.ofNat a12) (0:Int) a0 a1 a2 (a3) a4 a5 a6 a7 a8 a9)) (L44_103x0a_k1_7 (X44_103x0a.mk 2 [] (a10) a11 a12 (Int.ofNat a12) (0:Int) a0 a1 a2 (a3) a4 a5 a6 a7 a8 a9)) (L44_103x0a_k1_8 (X44_103x0a.mk 2 [] (a10) a11 a12 (Int.ofNat a12) (0:Int) a0 a1 a2 (a3) a4 a5 a6 a7 a8 a9)) (L44_103x0a_k1_9 (X44_103x0a.mk 2 [] (a10) a11 a12 (Int.ofNat a12) (0:Int) a0 a1 a2 (a3) a4 a5 a6 a7 a8 a9)))))) (.leaf ⟨(2:Int)⟩) (.leaf ⟨(0:Int)⟩))
     (.br (L44_103x0b_k1 (X44_103x0b.mk 2 [] (a10) a11 a12 (Int.ofNat a12) (0:Int) (L44_103x0a_k1_0 (X44_103x0a.mk 2 [] (a10) a11 a12 (Int.ofNat a12) (0:Int) a0 a1 a2 (a3) a4 a5 a6 a7 a8 a9)) (L44_103x0a_k1_1 (X44_103x0a.mk 2 [] (a10) a11 a12 (Int.ofNat a12) (0:Int) a0 a1 a2 (a3) a4 a5 a6 a7 a8 a9)) (L44_103x0a_k1_2 (X44_103x0a.mk 2 [] (a10) a11 a12 (Int.ofNat a12) (0:Int) a0 a1 a2 (a3) a4 a5 a6 a7 a8 a9)) (L44_103x0a_k1_3 (X44_103x0a.mk 2 [] (a10) a11 a12 (Int.ofNat a12) (0:Int) a0 a1 a2 (a3) a4 a5 a6 a7 a8 a9)) (L44_103x0a_k1_4 (X44_103x0a.mk 2 [] (a10) a11 a12 (Int.ofNat a12) (0:Int) a0 a1 a2 (a3) a4 a5 a6 a7 a8 a9)) (L44_103x0a_k1_5 (X44_103x0a.mk 2 [] (a10) a11 a12 (Int.ofNat a12) (0:Int) a0 a1 a2 (a3) a4 a5 a6 a7 a8 a9)) (L44_103x0a_k1_6 (X44_103x0a.mk 2 [] (a10) a11 a12 (Int.ofNat a12) (0:Int) a0 a1 a2 (a3) a4 a5 a6 a7 a8 a9)) (L44_103x0a_k1_7 (X44_103x0a.mk 2 [] (a10) a11 a12 (Int.ofNat a12) (0:Int) a0 a1 a2 (a3) a4 a5 a6 a7 a8 a9)) (L44_103x0a_k1_8 (X44_103x0a.mk 2 [] (a10) a11 a12 (Int.ofNat a12) (0:Int) a0 a1 a2 (a3) a4 a5 a6 a7 a8 a9)) (L44_103x0a_k1_9 (X44_103x0a.mk 2 [] (a10) a11 a12 (Int.ofNat a12) (0:Int) a0 a1 a2 (a3) a4 a5 a6 a7 a8 a9)))) (.leaf ⟨(0:Int)⟩) (.no))) (.no))) (.no))) (.no))) (.no)) (.no))) (.no))) (.no)
def en44 (r:R44):Value:=(.int .i64 r.r0)
theorem T44 (J103x0a:Task→List Value)(J103x0b:Task→List Value)(a0:ByteArray)(a1:Int)(a2:Int)(a3:Array Value)(a4:Nat)(a5:Nat)(a6:ByteArray)(a7:Int)(a8:Int)(a9:Int)(a10:Array Value)(a11:Nat)(a12:Nat):evC Try.prog (Ans.c (p42.or (p79.or (p82.or ((la44_103x0a J103x0a).or (la44_103x0b J103x0b)))))) 60 (.call 44 ⟨[(.agg ⟨[(.string a0),(.int .i64 a1),(.int .i64 a2),(lstV a3 a4 a5 4)]⟩),(.agg ⟨[(.string a6),(.int .i64 a7),(.int .i64 a8),(.int .i64 a9)]⟩),(lstV a10 a11 a12 4)]⟩ ⟨[],0,[]⟩) (frzK [0])=(rt44 a0 a1 a2 a3 a4 a5 a6 a7 a8 a9 a10 a11 a12).out (fun r=>.ret (en44 r) ⟨[],0,[]⟩):=by kernel_rfl
def F44 (a0:ByteArray)(a1:Int)(a2:Int)(a3:Array Value)(a4:Nat)(a5:Nat)(a6:ByteArray)(a7:Int)(a8:Int)(a9:Int)(a10:Array Value)(a11:Nat)(a12:Nat):Option R44:=(rt44 a0 a1 a2 a3 a4 a5 a6 a7 a8 a9 a10 a11 a12).val
section
variable (a0:ByteArray) (a1:Int) (a2:Int) (a3:Array Value) (a4:Nat) (a5:Nat) (a6:ByteArray) (a7:Int) (a8:Int) (a9:Int) (a10:Array Value) (a11:Nat) (a12:Nat)
def F44_ok:Bool:=(F44 a0 a1 a2 a3 a4 a5 a6 a7 a8 a9 a10 a11 a12).isSome
def F44_0:Int:=match F44 a0 a1 a2 a3 a4 a5 a6 a7 a8 a9 a10 a11 a12 with | some r=>r.r0 | none=>0
end
def dec44:Task→Option (A44×Hp)
  | .call g ⟨[(.agg ⟨[(.string a0),(.int .i64 a1),(.int .i64 a2),(.func (.via 0 ⟨[]⟩ 0 true) a3 ⟨[.slice (some ⟨0,a4,none⟩) a5 4]⟩)]⟩),(.agg ⟨[(.string a6),(.int .i64 a7),(.int .i64 a8),(.int .i64 a9)]⟩),(.func (.via 0 ⟨[]⟩ 0 true) a10 ⟨[.slice (some ⟨0,a11,none⟩) a12 4]⟩)]⟩ h=>(match Nat.beq g 44 with | true=>some (⟨a0,a1,a2,a3,a4,a5,a6,a7,a8,a9,a10,a11,a12⟩,h) | false=>none)
  | _=>none
def alt44 (x:A44)(h:Hp):AT:=.br (F44_ok x.a0 x.a1 x.a2 x.a3 x.a4 x.a5 x.a6 x.a7 x.a8 x.a9 x.a10 x.a11 x.a12) (.leaf (.ret (.int .i64 (F44_0 x.a0 x.a1 x.a2 x.a3 x.a4 x.a5 x.a6 x.a7 x.a8 x.a9 x.a10 x.a11 x.a12)) h)) .no
def p44:Ans:=fnAns dec44 alt44
theorem ha44:∀(x:A44) (h:Hp)(o:Out),(alt44 x h).out=some o→∃r,(rt44 x.a0 x.a1 x.a2 x.a3 x.a4 x.a5 x.a6 x.a7 x.a8 x.a9 x.a10 x.a11 x.a12).val=some r∧o=.ret (en44 r) h:=by
  intro x h o e
  unfold alt44 at e
  simp only [AT.out]at e
  obtain ⟨g,e⟩:=cond_some e
  unfold F44_ok at g
  obtain ⟨r,hF⟩:=Option.isSome_iff_exists.1 g
  have hv:F44 x.a0 x.a1 x.a2 x.a3 x.a4 x.a5 x.a6 x.a7 x.a8 x.a9 x.a10 x.a11 x.a12=(rt44 x.a0 x.a1 x.a2 x.a3 x.a4 x.a5 x.a6 x.a7 x.a8 x.a9 x.a10 x.a11 x.a12).val:=by delta F44;exact rfl
  refine ⟨r,hv.symm.trans hF,?_⟩
  simp only [Option.some.injEq]at e
  rw [← e]
  have k0:F44_0 x.a0 x.a1 x.a2 x.a3 x.a4 x.a5 x.a6 x.a7 x.a8 x.a9 x.a10 x.a11 x.a12=r.r0:=by
    show (match F44 x.a0 x.a1 x.a2 x.a3 x.a4 x.a5 x.a6 x.a7 x.a8 x.a9 x.a10 x.a11 x.a12 with | some r=>r.r0 | none=>0)=r.r0
    rw [hF]
  rw [k0]<;>rfl
theorem hd44:∀(t:Task) (x:A44)(h:Hp),dec44 t=some (x,h)→t=.call 44 ⟨[(.agg ⟨[(.string x.a0),(.int .i64 x.a1),(.int .i64 x.a2),(lstV x.a3 x.a4 x.a5 4)]⟩),(.agg ⟨[(.string x.a6),(.int .i64 x.a7),(.int .i64 x.a8),(.int .i64 x.a9)]⟩),(lstV x.a10 x.a11 x.a12 4)]⟩ h:=by
  intro t x h e
  unfold dec44 at e
  split at e
  case h_2=>cases e
  split at e
  case h_2=>cases e
  rename_i hg
  simp only [Option.some.injEq,Prod.mk.injEq]at e
  obtain ⟨rfl,rfl⟩:=e
  rw [Nat.eq_of_beq_eq_true hg]
theorem known44:Known Try.prog p44:=by
  obtain ⟨J103x0a,hJ103x0a⟩:=kl44_103x0a
  obtain ⟨J103x0b,hJ103x0b⟩:=kl44_103x0b
  exact Known.fn noNG mixed (Known.or known42 (Known.or known79 (Known.or known82 (Known.or hJ103x0a hJ103x0b)))) (n:=60) (zs:=[0]) 44 (fun x:A44=>[(.agg ⟨[(.string x.a0),(.int .i64 x.a1),(.int .i64 x.a2),(lstV x.a3 x.a4 x.a5 4)]⟩),(.agg ⟨[(.string x.a6),(.int .i64 x.a7),(.int .i64 x.a8),(.int .i64 x.a9)]⟩),(lstV x.a10 x.a11 x.a12 4)]) (fun x=>rt44 x.a0 x.a1 x.a2 x.a3 x.a4 x.a5 x.a6 x.a7 x.a8 x.a9 x.a10 x.a11 x.a12) en44 (fun x=>T44 J103x0a J103x0b x.a0 x.a1 x.a2 x.a3 x.a4 x.a5 x.a6 x.a7 x.a8 x.a9 x.a10 x.a11 x.a12) (fun x=>rfl) dec44 alt44 hd44 ha44
structure X15_0 where
  v0:Array Value
  v1:Nat
  v2:Nat
  v3:Int
  v4:Int
  v5:ByteArray
  v6:Int
  v7:Int
  v8:Array Value
  v9:Nat
  v10:Nat
  v11:Int
  v12:Int
  v13:Int
  v14:Int
  v15:Int
inductive D15_0 where
  | k0 (d0:Int) (d1:Int) (d2:Int) (d3:ByteArray) (d4:Int) (d5:Int) (d6:Array Value) (d7:Nat) (d8:Nat) (d9:Int) (d10:Int) (d11:Int) (d12:Int) (d13:Int)
  | k1 (d0:ByteArray) (d1:Int) (d2:Int) (d3:Array Value) (d4:Nat) (d5:Nat) (d6:Int) (d7:Int) (d8:Int) (d9:Int) (d10:Int)
def Lp15_0:LoopOf X15_0 D15_0 where
  c:=(theLoop Try.prog 15 0)
  N:=48
  M:=2
  S:=[1,29,30,31]
  sl:=fun x=>[(Value.pointer (Option.some (Addr.mk 0 0 Option.none))),(lstV x.v0 x.v1 x.v2 4),(.int .i64 x.v3),(.int .i64 x.v4)]
  hp:=fun x=>[.cells ⟨[(.string x.v5),(.int .i64 x.v6),(.int .i64 x.v7),(lstV x.v8 x.v9 x.v10 4)]⟩ false,.cells ⟨[(.int .i64 x.v11),(.int .i64 x.v12),(.int .i64 x.v13),(.int .i64 x.v14),(.int .i64 x.v15)]⟩ false]
  ex:=fun d=>match d with | .k0 ..=>.ret | .k1 ..=>.exit 1
  pick:=fun e=>match e with | .ret=>[2,3,4] | .exit 1=>[] | _=>[]
  dv:=fun d=>match d with | .k0 d0 d1 d2 d3 d4 d5 d6 d7 d8 d9 d10 d11 d12 d13=>[(.int .i64 d0),(.int .i64 d1),(.int .i64 d2)] | .k1 d0 d1 d2 d3 d4 d5 d6 d7 d8 d9 d10=>[]
  dh:=fun d=>match d with | .k0 d0 d1 d2 d3 d4 d5 d6 d7 d8 d9 d10 d11 d12 d13=>[.cells ⟨[(.string d3),(.int .i64 d4),(.int .i64 d5),(lstV d6 d7 d8 4)]⟩ false,.cells ⟨[(.int .i64 d9),(.int .i64 d10),(.int .i64 d11),(.int .i64 d12),(.int .i64 d13)]⟩ false] | .k1 d0 d1 d2 d3 d4 d5 d6 d7 d8 d9 d10=>[.cells ⟨[(.string d0),(.int .i64 d1),(.int .i64 d2),(lstV d3 d4 d5 4)]⟩ false,.cells ⟨[(.int .i64 d6),(.int .i64 d7),(.int .i64 d8),(.int .i64 d9),(.int .i64 d10)]⟩ false]
theorem ok15_0:Lp15_0.Ok:=⟨fun x=>rfl,fun x=>rfl,fun x=>rfl,fun x=>rfl,fun d=>by cases d<;>rfl,fun d=>by cases d<;>rfl,fun d=>by cases d<;>rfl,fun d=>by cases d<;>(intro h;cases h),fun d=>by cases d<;>rfl,fun d=>by cases d<;>rfl⟩
def rd15_0 (x:X15_0):RT (Sum X15_0 D15_0):=match x with
  | ⟨v0,v1,v2,v3,v4,v5,v6,v7,v8,v9,v10,v11,v12,v13,v14,v15⟩ =>
     .br (decide (v4<v3)) (.br (and (decide ((0:Int)≤v4)) (decide (v4<(Int.ofNat v2)))) (.br (rdOk v0 [Leaf.str,(Leaf.int .i64),(Leaf.int .i64),(Leaf.int .i64)] (v1+((Int.toNat v4)*4))) (.br (and true (and (decide ((0:Int)≤v4)) (and (decide (0≤(Int.toNat v4))) (decide ((Int.toNat v4)≤v10))))) (.br (F44_ok v5 v6 v7 (v8) v9 v10 (getStr v0 (v1+((Int.toNat v4)*4))) (getInt v0 ((v1+((Int.toNat v4)*4))+1)) (getInt v0 (((v1+((Int.toNat v4)*4))+1)+1)) (getInt v0 ((((v1+((Int.toNat v4)*4))+1)+1)+1)) (v8) (v9+0) ((Int.toNat v4)-0))
     (.br (not (decide ((F44_0 v5 v6 v7 (v8) v9 v10 (getStr v0 (v1+((Int.toNat v4)*4))) (getInt v0 ((v1+((Int.toNat v4)*4))+1)) (getInt v0 (((v1+((Int.toNat v4)*4))+1)+1)) (getInt v0 ((((v1+((Int.toNat v4)*4))+1)+1)+1)) (v8) (v9+0) ((Int.toNat v4)-0))=(0:Int)))) (.leaf (.inr (.k0 ((2:Int)) (v4) ((F44_0 v5 v6 v7 (v8) v9 v10 (getStr v0 (v1+((Int.toNat v4)*4))) (getInt v0 ((v1+((Int.toNat v4)*4))+1)) (getInt v0 (((v1+((Int.toNat v4)*4))+1)+1)) (getInt v0 ((((v1+((Int.toNat v4)*4))+1)+1)+1)) (v8) (v9+0) ((Int.toNat v4)-0))) (v5) (v6) (v7) (v8) (v9) (v10) (v11) (v12) (v13) (v14) (v15)))) (.leaf (.inl ⟨v0,v1,v2,v3,(IntKind.wrap .i64 (v4+(1:Int))),v5,v6,v7,v8,v9,v10,v11,v12,v13,v14,v15⟩))) (.no)) (.no)) (.no)) (.no)) (.leaf (.inr (.k1 (v5) (v6) (v7) (v8) (v9) (v10) (v11) (v12) (v13) (v14) (v15))))
theorem T15_0  (y:List Value) (v0:Array Value) (v1:Nat) (v2:Nat) (v3:Int) (v4:Int) (v5:ByteArray) (v6:Int) (v7:Int) (v8:Array Value) (v9:Nat) (v10:Nat) (v11:Int) (v12:Int) (v13:Int) (v14:Int) (v15:Int):evC Try.prog (Ans.c (p42.or (p43.or p44))) 60 (.code none (theLoop Try.prog 15 0) ⟨sets (junkF 48 y) [(1,(Value.pointer (Option.some (Addr.mk 0 0 Option.none)))),(29,(lstV v0 v1 v2 4)),(30,(.int .i64 v3)),(31,(.int .i64 v4))],[],⟨[.cells ⟨[(.string v5),(.int .i64 v6),(.int .i64 v7),(lstV v8 v9 v10 4)]⟩ false,.cells ⟨[(.int .i64 v11),(.int .i64 v12),(.int .i64 v13),(.int .i64 v14),(.int .i64 v15)]⟩ false],0,[]⟩⟩) (sumK 2 48 Lp15_0.pk)=(rd15_0 ⟨v0,v1,v2,v3,v4,v5,v6,v7,v8,v9,v10,v11,v12,v13,v14,v15⟩).out Lp15_0.enc:=by kernel_rfl
def L15_0 (x:X15_0):Option D15_0:=loopR rd15_0 x
section
variable (x:X15_0)
def L15_0_k0:Bool:=match L15_0 x with | some (.k0 ..)=>true | _=>false
def Qc0:Int:=match L15_0 x with | some (.k0 d _ _ _ _ _ _ _ _ _ _ _ _ _)=>d | _=>0
def Qc1:Int:=match L15_0 x with | some (.k0 _ d _ _ _ _ _ _ _ _ _ _ _ _)=>d | _=>0
def Qc2:Int:=match L15_0 x with | some (.k0 _ _ d _ _ _ _ _ _ _ _ _ _ _)=>d | _=>0
def Qc3:ByteArray:=match L15_0 x with | some (.k0 _ _ _ d _ _ _ _ _ _ _ _ _ _)=>d | _=>ByteArray.empty
def Qc4:Int:=match L15_0 x with | some (.k0 _ _ _ _ d _ _ _ _ _ _ _ _ _)=>d | _=>0
def Qc5:Int:=match L15_0 x with | some (.k0 _ _ _ _ _ d _ _ _ _ _ _ _ _)=>d | _=>0
def Qc6:Array Value:=match L15_0 x with | some (.k0 _ _ _ _ _ _ d _ _ _ _ _ _ _)=>d | _=>#[]
def Qc7:Nat:=match L15_0 x with | some (.k0 _ _ _ _ _ _ _ d _ _ _ _ _ _)=>d | _=>0
def Qc8:Nat:=match L15_0 x with | some (.k0 _ _ _ _ _ _ _ _ d _ _ _ _ _)=>d | _=>0
def Qc9:Int:=match L15_0 x with | some (.k0 _ _ _ _ _ _ _ _ _ d _ _ _ _)=>d | _=>0
def Qc10:Int:=match L15_0 x with | some (.k0 _ _ _ _ _ _ _ _ _ _ d _ _ _)=>d | _=>0
def Qc11:Int:=match L15_0 x with | some (.k0 _ _ _ _ _ _ _ _ _ _ _ d _ _)=>d | _=>0
def Qc12:Int:=match L15_0 x with | some (.k0 _ _ _ _ _ _ _ _ _ _ _ _ d _)=>d | _=>0
def Qc13:Int:=match L15_0 x with | some (.k0 _ _ _ _ _ _ _ _ _ _ _ _ _ d)=>d | _=>0
def L15_0_k1:Bool:=match L15_0 x with | some (.k1 ..)=>true | _=>false
def Qd0:ByteArray:=match L15_0 x with | some (.k1 d _ _ _ _ _ _ _ _ _ _)=>d | _=>ByteArray.empty
def Qd1:Int:=match L15_0 x with | some (.k1 _ d _ _ _ _ _ _ _ _ _)=>d | _=>0
def Qd2:Int:=match L15_0 x with | some (.k1 _ _ d _ _ _ _ _ _ _ _)=>d | _=>0
def Qd3:Array Value:=match L15_0 x with | some (.k1 _ _ _ d _ _ _ _ _ _ _)=>d | _=>#[]
def Qd4:Nat:=match L15_0 x with | some (.k1 _ _ _ _ d _ _ _ _ _ _)=>d | _=>0
def Qd5:Nat:=match L15_0 x with | some (.k1 _ _ _ _ _ d _ _ _ _ _)=>d | _=>0
def Qd6:Int:=match L15_0 x with | some (.k1 _ _ _ _ _ _ d _ _ _ _)=>d | _=>0
def Qd7:Int:=match L15_0 x with | some (.k1 _ _ _ _ _ _ _ d _ _ _)=>d | _=>0
def Qd8:Int:=match L15_0 x with | some (.k1 _ _ _ _ _ _ _ _ d _ _)=>d | _=>0
def Qd9:Int:=match L15_0 x with | some (.k1 _ _ _ _ _ _ _ _ _ d _)=>d | _=>0
def Qd10:Int:=match L15_0 x with | some (.k1 _ _ _ _ _ _ _ _ _ _ d)=>d | _=>0
end
def dec15_0:Task→Option (Code×X15_0)
  | .code none (.loop code) ⟨t,[],⟨[.cells ⟨[(.string v5),(.int .i64 v6),(.int .i64 v7),(.func (.via 0 ⟨[]⟩ 0 true) v8 ⟨[.slice (some ⟨0,v9,none⟩) v10 4]⟩)]⟩ false,.cells ⟨[(.int .i64 v11),(.int .i64 v12),(.int .i64 v13),(.int .i64 v14),(.int .i64 v15)]⟩ false],0,[]⟩⟩ =>
    (match Nat.beq (firstReg code) 8,lenIs t 48,lget t 1,lget t 29,lget t 30,lget t 31 with
    | true,true,(Value.pointer (Option.some (Addr.mk 0 0 Option.none))),(.func (.via 0 ⟨[]⟩ 0 true) v0 ⟨[.slice (some ⟨0,v1,none⟩) v2 4]⟩),(.int .i64 v3),(.int .i64 v4)=>some (code,⟨v0,v1,v2,v3,v4,v5,v6,v7,v8,v9,v10,v11,v12,v13,v14,v15⟩)
    | _,_,_,_,_,_=>none)
  | _=>none
def alt15_0 (x:X15_0)(j:List Value):AT:=.br (L15_0_k0 x) (loopEnd 48 (.ret) [(2,(.int .i64 (Qc0 x))),(3,(.int .i64 (Qc1 x))),(4,(.int .i64 (Qc2 x)))] ⟨[.cells ⟨[(.string (Qc3 x)),(.int .i64 (Qc4 x)),(.int .i64 (Qc5 x)),(lstV (Qc6 x) (Qc7 x) (Qc8 x) 4)]⟩ false,.cells ⟨[(.int .i64 (Qc9 x)),(.int .i64 (Qc10 x)),(.int .i64 (Qc11 x)),(.int .i64 (Qc12 x)),(.int .i64 (Qc13 x))]⟩ false],0,[]⟩ j) (.br (L15_0_k1 x) (loopEnd 48 (.exit 1) [] ⟨[.cells ⟨[(.string (Qd0 x)),(.int .i64 (Qd1 x)),(.int .i64 (Qd2 x)),(lstV (Qd3 x) (Qd4 x) (Qd5 x) 4)]⟩ false,.cells ⟨[(.int .i64 (Qd6 x)),(.int .i64 (Qd7 x)),(.int .i64 (Qd8 x)),(.int .i64 (Qd9 x)),(.int .i64 (Qd10 x))]⟩ false],0,[]⟩ j) (.no))
def la15_0 (J:Task→List Value):Ans:=loopAns Lp15_0.c dec15_0 alt15_0 J
theorem ha15_0:∀(x:X15_0) (j:List Value)(o:Out),(alt15_0 x j).out=some o→∃d,loopR rd15_0 x=some d∧o=Lp15_0.tail d j:=by
  intro x j o h
  unfold alt15_0 at h
  cases hL:L15_0 x with
  | none=>simp [L15_0_k0,Qc0,Qc1,Qc2,Qc3,Qc4,Qc5,Qc6,Qc7,Qc8,Qc9,Qc10,Qc11,Qc12,Qc13,L15_0_k1,Qd0,Qd1,Qd2,Qd3,Qd4,Qd5,Qd6,Qd7,Qd8,Qd9,Qd10,hL,AT.out]at h
  | some d =>
    refine ⟨d,hL,?_⟩
    cases d<;>(simp only [L15_0_k0,Qc0,Qc1,Qc2,Qc3,Qc4,Qc5,Qc6,Qc7,Qc8,Qc9,Qc10,Qc11,Qc12,Qc13,L15_0_k1,Qd0,Qd1,Qd2,Qd3,Qd4,Qd5,Qd6,Qd7,Qd8,Qd9,Qd10,hL,AT.out,loopEnd,cond_true,cond_false,Option.some.injEq]at h;rw [← h];rfl)
theorem hd15_0:∀(t:Task) (c:Code)(x:X15_0),dec15_0 t=some (c,x)→c=Lp15_0.c→∃T,t=.code none (.loop Lp15_0.c) ⟨T,[],⟨Lp15_0.hp x,0,[]⟩⟩∧T.length=Lp15_0.N∧∀kv∈Lp15_0.S.zip (Lp15_0.sl x),lget T kv.1=kv.2:=by
  intro t c x h hc
  unfold dec15_0 at h
  split at h
  case h_2=>cases h
  split at h
  case h_2=>cases h
  simp only [Option.some.injEq,Prod.mk.injEq]at h
  obtain ⟨rfl,rfl⟩:=h
  subst hc
  refine ⟨_,rfl,lenIs_eq _ _ (by assumption),?_⟩
  intro kv hk
  simp only [Lp15_0,List.zip_cons_cons,List.zip_nil_right,List.mem_cons,List.not_mem_nil,or_false]at hk
  rcases hk with rfl | rfl | rfl | rfl<;>assumption
theorem kl15_0:∃J,Known Try.prog (la15_0 J):=by
  exact LoopOf.known noNG mixed ok15_0 (by decide) (by decide) (Known.or known42 (Known.or known43 known44)) (n:=60) (rd:=rd15_0) (fun x j=>T15_0  j x.v0 x.v1 x.v2 x.v3 x.v4 x.v5 x.v6 x.v7 x.v8 x.v9 x.v10 x.v11 x.v12 x.v13 x.v14 x.v15) dec15_0 alt15_0 hd15_0 ha15_0
structure R15 where
  r0:Int
  r1:Int
  r2:Int
structure A15 where
  a0:ByteArray
  a1:Int
  a2:Int
  a3:Array Value
  a4:Nat
  a5:Nat
def rt15 (a0:ByteArray)(a1:Int)(a2:Int)(a3:Array Value)(a4:Nat)(a5:Nat):RT R15 :=
  .br (F42_ok (Int.ofNat (ByteArray.size a0)) (1:Int) (4:Int)) (.br (not (F42_0 (Int.ofNat (ByteArray.size a0)) (1:Int) (4:Int))) (.leaf ⟨(1:Int),(0:Int),(3:Int)⟩) (.br (decide ((12:Int)<(Int.ofNat a5))) (.leaf ⟨(1:Int),(0:Int),(3:Int)⟩) (.br (F42_ok a1 (1:Int) (32:Int)) (.br (not (F42_0 a1 (1:Int) (32:Int))) (.leaf ⟨(1:Int),(0:Int),(7:Int)⟩) (.br (decide (a2=(1:Int)))
       (.sw (eqCode (Lp15_0.c) (Lp15_0.c)) true (by simp only [eqCode_self,arrEq_self]) (.br (L15_0_k0 (X15_0.mk a3 a4 a5 (Int.ofNat a5) (0:Int) a0 a1 a2 a3 a4 a5 (1:Int) (2:Int) (4:Int) (8:Int) (16:Int))) (.leaf ⟨(Qc0 (X15_0.mk a3 a4 a5 (Int.ofNat a5) (0:Int) a0 a1 a2 a3 a4 a5 (1:Int) (2:Int) (4:Int) (8:Int) (16:Int))),(Qc1 (X15_0.mk a3 a4 a5 (Int.ofNat a5) (0:Int) a0 a1 a2 a3 a4 a5 (1:Int) (2:Int) (4:Int) (8:Int) (16:Int))),(Qc2 (X15_0.mk a3 a4 a5 (Int.ofNat a5) (0:Int) a0 a1 a2 a3 a4 a5 (1:Int) (2:Int) (4:Int) (8:Int) (16:Int)))⟩) (.br (L15_0_k1 (X15_0.mk a3 a4 a5 (Int.ofNat a5) (0:Int) a0 a1 a2 a3 a4 a5 (1:Int) (2:Int) (4:Int) (8:Int) (16:Int))) (.leaf ⟨(0:Int),(0:Int),(0:Int)⟩) (.no))) (.no)) (.br (decide (a2=(2:Int)))
        (.sw (eqCode (Lp15_0.c) (Lp15_0.c)) true (by simp only [eqCode_self,arrEq_self]) (.br (L15_0_k0 (X15_0.mk a3 a4 a5 (Int.ofNat a5) (0:Int) a0 a1 a2 a3 a4 a5 (1:Int) (2:Int) (4:Int) (8:Int) (16:Int))) (.leaf ⟨(Qc0 (X15_0.mk a3 a4 a5 (Int.ofNat a5) (0:Int) a0 a1 a2 a3 a4 a5 (1:Int) (2:Int) (4:Int) (8:Int) (16:Int))),(Qc1 (X15_0.mk a3 a4 a5 (Int.ofNat a5) (0:Int) a0 a1 a2 a3 a4 a5 (1:Int) (2:Int) (4:Int) (8:Int) (16:Int))),(Qc2 (X15_0.mk a3 a4 a5 (Int.ofNat a5) (0:Int) a0 a1 a2 a3 a4 a5 (1:Int) (2:Int) (4:Int) (8:Int) (16:Int)))⟩) (.br (L15_0_k1 (X15_0.mk a3 a4 a5 (Int.ofNat a5) (0:Int) a0 a1 a2 a3 a4 a5 (1:Int) (2:Int) (4:Int) (8:Int) (16:Int))) (.leaf ⟨(0:Int),(0:Int),(0:Int)⟩) (.no))) (.no)) (.br (decide (a2=(4:Int)))
         (.sw (eqCode (Lp15_0.c) (Lp15_0.c)) true (by simp only [eqCode_self,arrEq_self]) (.br (L15_0_k0 (X15_0.mk a3 a4 a5 (Int.ofNat a5) (0:Int) a0 a1 a2 a3 a4 a5 (1:Int) (2:Int) (4:Int) (8:Int) (16:Int))) (.leaf ⟨(Qc0 (X15_0.mk a3 a4 a5 (Int.ofNat a5) (0:Int) a0 a1 a2 a3 a4 a5 (1:Int) (2:Int) (4:Int) (8:Int) (16:Int))),(Qc1 (X15_0.mk a3 a4 a5 (Int.ofNat a5) (0:Int) a0 a1 a2 a3 a4 a5 (1:Int) (2:Int) (4:Int) (8:Int) (16:Int))),(Qc2 (X15_0.mk a3 a4 a5 (Int.ofNat a5) (0:Int) a0 a1 a2 a3 a4 a5 (1:Int) (2:Int) (4:Int) (8:Int) (16:Int)))⟩) (.br (L15_0_k1 (X15_0.mk a3 a4 a5 (Int.ofNat a5) (0:Int) a0 a1 a2 a3 a4 a5 (1:Int) (2:Int) (4:Int) (8:Int) (16:Int))) (.leaf ⟨(0:Int),(0:Int),(0:Int)⟩) (.no))) (.no)) (.br (decide (a2=(8:Int)))
          (.sw (eqCode (Lp15_0.c) (Lp15_0.c)) true (by simp only [eqCode_self,arrEq_self]) (.br (L15_0_k0 (X15_0.mk a3 a4 a5 (Int.ofNat a5) (0:Int) a0 a1 a2 a3 a4 a5 (1:Int) (2:Int) (4:Int) (8:Int) (16:Int))) (.leaf ⟨(Qc0 (X15_0.mk a3 a4 a5 (Int.ofNat a5) (0:Int) a0 a1 a2 a3 a4 a5 (1:Int) (2:Int) (4:Int) (8:Int) (16:Int))),(Qc1 (X15_0.mk a3 a4 a5 (Int.ofNat a5) (0:Int) a0 a1 a2 a3 a4 a5 (1:Int) (2:Int) (4:Int) (8:Int) (16:Int))),(Qc2 (X15_0.mk a3 a4 a5 (Int.ofNat a5) (0:Int) a0 a1 a2 a3 a4 a5 (1:Int) (2:Int) (4:Int) (8:Int) (16:Int)))⟩) (.br (L15_0_k1 (X15_0.mk a3 a4 a5 (Int.ofNat a5) (0:Int) a0 a1 a2 a3 a4 a5 (1:Int) (2:Int) (4:Int) (8:Int) (16:Int))) (.leaf ⟨(0:Int),(0:Int),(0:Int)⟩) (.no))) (.no)) (.br (decide (a2=(16:Int)))
           (.sw (eqCode (Lp15_0.c) (Lp15_0.c)) true (by simp only [eqCode_self,arrEq_self]) (.br (L15_0_k0 (X15_0.mk a3 a4 a5 (Int.ofNat a5) (0:Int) a0 a1 a2 a3 a4 a5 (1:Int) (2:Int) (4:Int) (8:Int) (16:Int))) (.leaf ⟨(Qc0 (X15_0.mk a3 a4 a5 (Int.ofNat a5) (0:Int) a0 a1 a2 a3 a4 a5 (1:Int) (2:Int) (4:Int) (8:Int) (16:Int))),(Qc1 (X15_0.mk a3 a4 a5 (Int.ofNat a5) (0:Int) a0 a1 a2 a3 a4 a5 (1:Int) (2:Int) (4:Int) (8:Int) (16:Int))),(Qc2 (X15_0.mk a3 a4 a5 (Int.ofNat a5) (0:Int) a0 a1 a2 a3 a4 a5 (1:Int) (2:Int) (4:Int) (8:Int) (16:Int)))⟩) (.br (L15_0_k1 (X15_0.mk a3 a4 a5 (Int.ofNat a5) (0:Int) a0 a1 a2 a3 a4 a5 (1:Int) (2:Int) (4:Int) (8:Int) (16:Int))) (.leaf ⟨(0:Int),(0:Int),(0:Int)⟩) (.no))) (.no)) (.leaf ⟨(1:Int),(0:Int),(7:Int)⟩))))))) (.no)))) (.no)
def en15 (r:R15):Value:=(.tuple ⟨[(.int .i64 r.r0),(.int .i64 r.r1),(.int .i64 r.r2)]⟩)
theorem T15 (J0:Task→List Value)(a0:ByteArray)(a1:Int)(a2:Int)(a3:Array Value)(a4:Nat)(a5:Nat):evC Try.prog (Ans.c (p42.or (p43.or (p44.or (la15_0 J0))))) 60 (.call 15 ⟨[(.agg ⟨[(.string a0),(.int .i64 a1),(.int .i64 a2),(lstV a3 a4 a5 4)]⟩)]⟩ ⟨[],0,[]⟩) (frzK [0,0,0])=(rt15 a0 a1 a2 a3 a4 a5).out (fun r=>.ret (en15 r) ⟨[],0,[]⟩):=by kernel_rfl
def F15 (a0:ByteArray)(a1:Int)(a2:Int)(a3:Array Value)(a4:Nat)(a5:Nat):Option R15:=(rt15 a0 a1 a2 a3 a4 a5).val
section
variable (a0:ByteArray) (a1:Int) (a2:Int) (a3:Array Value) (a4:Nat) (a5:Nat)
def F15_ok:Bool:=(F15 a0 a1 a2 a3 a4 a5).isSome
def F15_0:Int:=match F15 a0 a1 a2 a3 a4 a5 with | some r=>r.r0 | none=>0
def F15_1:Int:=match F15 a0 a1 a2 a3 a4 a5 with | some r=>r.r1 | none=>0
def F15_2:Int:=match F15 a0 a1 a2 a3 a4 a5 with | some r=>r.r2 | none=>0
end
def dec15:Task→Option (A15×Hp)
  | .call g ⟨[(.agg ⟨[(.string a0),(.int .i64 a1),(.int .i64 a2),(.func (.via 0 ⟨[]⟩ 0 true) a3 ⟨[.slice (some ⟨0,a4,none⟩) a5 4]⟩)]⟩)]⟩ h=>(match Nat.beq g 15 with | true=>some (⟨a0,a1,a2,a3,a4,a5⟩,h) | false=>none)
  | _=>none
def alt15 (x:A15)(h:Hp):AT:=.br (F15_ok x.a0 x.a1 x.a2 x.a3 x.a4 x.a5) (.leaf (.ret (.tuple ⟨[(.int .i64 (F15_0 x.a0 x.a1 x.a2 x.a3 x.a4 x.a5)),(.int .i64 (F15_1 x.a0 x.a1 x.a2 x.a3 x.a4 x.a5)),(.int .i64 (F15_2 x.a0 x.a1 x.a2 x.a3 x.a4 x.a5))]⟩) h)) .no
def p15:Ans:=fnAns dec15 alt15
theorem ha15:∀(x:A15) (h:Hp)(o:Out),(alt15 x h).out=some o→∃r,(rt15 x.a0 x.a1 x.a2 x.a3 x.a4 x.a5).val=some r∧o=.ret (en15 r) h:=by
  intro x h o e
  unfold alt15 at e
  simp only [AT.out]at e
  obtain ⟨g,e⟩:=cond_some e
  unfold F15_ok at g
  obtain ⟨r,hF⟩:=Option.isSome_iff_exists.1 g
  have hv:F15 x.a0 x.a1 x.a2 x.a3 x.a4 x.a5=(rt15 x.a0 x.a1 x.a2 x.a3 x.a4 x.a5).val:=by delta F15;exact rfl
  refine ⟨r,hv.symm.trans hF,?_⟩
  simp only [Option.some.injEq]at e
  rw [← e]
  have k0:F15_0 x.a0 x.a1 x.a2 x.a3 x.a4 x.a5=r.r0:=by
    show (match F15 x.a0 x.a1 x.a2 x.a3 x.a4 x.a5 with | some r=>r.r0 | none=>0)=r.r0
    rw [hF]
  have k1:F15_1 x.a0 x.a1 x.a2 x.a3 x.a4 x.a5=r.r1:=by
    show (match F15 x.a0 x.a1 x.a2 x.a3 x.a4 x.a5 with | some r=>r.r1 | none=>0)=r.r1
    rw [hF]
  have k2:F15_2 x.a0 x.a1 x.a2 x.a3 x.a4 x.a5=r.r2:=by
    show (match F15 x.a0 x.a1 x.a2 x.a3 x.a4 x.a5 with | some r=>r.r2 | none=>0)=r.r2
    rw [hF]
  rw [k0,k1,k2]<;>rfl
theorem hd15:∀(t:Task) (x:A15)(h:Hp),dec15 t=some (x,h)→t=.call 15 ⟨[(.agg ⟨[(.string x.a0),(.int .i64 x.a1),(.int .i64 x.a2),(lstV x.a3 x.a4 x.a5 4)]⟩)]⟩ h:=by
  intro t x h e
  unfold dec15 at e
  split at e
  case h_2=>cases e
  split at e
  case h_2=>cases e
  rename_i hg
  simp only [Option.some.injEq,Prod.mk.injEq]at e
  obtain ⟨rfl,rfl⟩:=e
  rw [Nat.eq_of_beq_eq_true hg]
theorem known15:Known Try.prog p15:=by
  obtain ⟨J0,hJ0⟩:=kl15_0
  exact Known.fn noNG mixed (Known.or known42 (Known.or known43 (Known.or known44 hJ0))) (n:=60) (zs:=[0,0,0]) 15 (fun x:A15=>[(.agg ⟨[(.string x.a0),(.int .i64 x.a1),(.int .i64 x.a2),(lstV x.a3 x.a4 x.a5 4)]⟩)]) (fun x=>rt15 x.a0 x.a1 x.a2 x.a3 x.a4 x.a5) en15 (fun x=>T15 J0 x.a0 x.a1 x.a2 x.a3 x.a4 x.a5) (fun x=>rfl) dec15 alt15 hd15 ha15
structure R45 where
  r0:Bool
structure A45 where
  a0:Int
  a1:Int
  a2:Int
def rt45 (a0:Int)(a1:Int)(a2:Int):RT R45 :=
  .br (decide (a1≤a0)) (.leaf ⟨(decide (a0≤a2))⟩) (.leaf ⟨false⟩)
def en45 (r:R45):Value:=(.bool r.r0)
theorem T45  (a0:Int) (a1:Int) (a2:Int):evC Try.prog (Ans.c (fun _=>none:Ans)) 60 (.call 45 ⟨[(.int .i64 a0),(.int .i64 a1),(.int .i64 a2)]⟩ ⟨[],0,[]⟩) (frzK [0])=(rt45 a0 a1 a2).out (fun r=>.ret (en45 r) ⟨[],0,[]⟩):=by kernel_rfl
def F45 (a0:Int)(a1:Int)(a2:Int):Option R45:=(rt45 a0 a1 a2).val
section
variable (a0:Int) (a1:Int) (a2:Int)
def F45_ok:Bool:=(F45 a0 a1 a2).isSome
def F45_0:Bool:=match F45 a0 a1 a2 with | some r=>r.r0 | none=>false
end
def dec45:Task→Option (A45×Hp)
  | .call g ⟨[(.int .i64 a0),(.int .i64 a1),(.int .i64 a2)]⟩ h=>(match Nat.beq g 45 with | true=>some (⟨a0,a1,a2⟩,h) | false=>none)
  | _=>none
def alt45 (x:A45)(h:Hp):AT:=.br (F45_ok x.a0 x.a1 x.a2) (.leaf (.ret (.bool (F45_0 x.a0 x.a1 x.a2)) h)) .no
def p45:Ans:=fnAns dec45 alt45
theorem ha45:∀(x:A45) (h:Hp)(o:Out),(alt45 x h).out=some o→∃r,(rt45 x.a0 x.a1 x.a2).val=some r∧o=.ret (en45 r) h:=by
  intro x h o e
  unfold alt45 at e
  simp only [AT.out]at e
  obtain ⟨g,e⟩:=cond_some e
  unfold F45_ok at g
  obtain ⟨r,hF⟩:=Option.isSome_iff_exists.1 g
  have hv:F45 x.a0 x.a1 x.a2=(rt45 x.a0 x.a1 x.a2).val:=by delta F45;exact rfl
  refine ⟨r,hv.symm.trans hF,?_⟩
  simp only [Option.some.injEq]at e
  rw [← e]
  have k0:F45_0 x.a0 x.a1 x.a2=r.r0:=by
    show (match F45 x.a0 x.a1 x.a2 with | some r=>r.r0 | none=>false)=r.r0
    rw [hF]
  rw [k0]<;>rfl
theorem hd45:∀(t:Task) (x:A45)(h:Hp),dec45 t=some (x,h)→t=.call 45 ⟨[(.int .i64 x.a0),(.int .i64 x.a1),(.int .i64 x.a2)]⟩ h:=by
  intro t x h e
  unfold dec45 at e
  split at e
  case h_2=>cases e
  split at e
  case h_2=>cases e
  rename_i hg
  simp only [Option.some.injEq,Prod.mk.injEq]at e
  obtain ⟨rfl,rfl⟩:=e
  rw [Nat.eq_of_beq_eq_true hg]
theorem known45:Known Try.prog p45:=by
  exact Known.fn noNG mixed (Known.nothing Try.prog) (n:=60) (zs:=[0]) 45 (fun x:A45=>[(.int .i64 x.a0),(.int .i64 x.a1),(.int .i64 x.a2)]) (fun x=>rt45 x.a0 x.a1 x.a2) en45 (fun x=>T45  x.a0 x.a1 x.a2) (fun x=>rfl) dec45 alt45 hd45 ha45
structure X85_0 where
  v0:ByteArray
  v1:Int
inductive D85_0 where
  | k0 (d0:Bool)
  | k1
def Lp85_0:LoopOf X85_0 D85_0 where
  c:=(theLoop Try.prog 85 0)
  N:=48
  M:=0
  S:=[0,3]
  sl:=fun x=>[(.string x.v0),(.int .i64 x.v1)]
  hp:=fun x=>[]
  ex:=fun d=>match d with | .k0 ..=>.ret | .k1 ..=>.exit 0
  pick:=fun e=>match e with | .ret=>[2] | .exit 0=>[] | _=>[]
  dv:=fun d=>match d with | .k0 d0=>[(.bool d0)] | .k1 =>[]
  dh:=fun d=>match d with | .k0 d0=>[] | .k1 =>[]
theorem ok85_0:Lp85_0.Ok:=⟨fun x=>rfl,fun x=>rfl,fun x=>rfl,fun x=>rfl,fun d=>by cases d<;>rfl,fun d=>by cases d<;>rfl,fun d=>by cases d<;>rfl,fun d=>by cases d<;>(intro h;cases h),fun d=>by cases d<;>rfl,fun d=>by cases d<;>rfl⟩
def rd85_0 (x:X85_0):RT (Sum X85_0 D85_0):=match x with
  | ⟨v0,v1⟩ =>
     .br (decide (v1<(Int.ofNat (ByteArray.size v0)))) (.br (and (decide ((0:Int)≤v1)) (decide (v1<(Int.ofNat (ByteArray.size v0))))) (.br (decide ((97:Int)≤(getByte v0 (Int.toNat v1)))) (.br (not (decide ((getByte v0 (Int.toNat v1))≤(122:Int)))) (.br (decide (v1=(0:Int))) (.leaf (.inr (.k0 (false)))) (.br (decide ((48:Int)≤(getByte v0 (Int.toNat v1)))) (.br (decide ((getByte v0 (Int.toNat v1))≤(57:Int))) (.leaf (.inl ⟨v0,(IntKind.wrap .i64 (v1+(1:Int)))⟩)) (.br (not (decide ((getByte v0 (Int.toNat v1))=(45:Int)))) (.leaf (.inr (.k0 (false)))) (.leaf (.inl ⟨v0,(IntKind.wrap .i64 (v1+(1:Int)))⟩)))) (.br (not (decide ((getByte v0 (Int.toNat v1))=(45:Int)))) (.leaf (.inr (.k0 (false)))) (.leaf (.inl ⟨v0,(IntKind.wrap .i64 (v1+(1:Int)))⟩))))) (.leaf (.inl ⟨v0,(IntKind.wrap .i64 (v1+(1:Int)))⟩))) (.br (decide (v1=(0:Int))) (.leaf (.inr (.k0 (false)))) (.br (decide ((48:Int)≤(getByte v0 (Int.toNat v1))))
     (.br (decide ((getByte v0 (Int.toNat v1))≤(57:Int))) (.leaf (.inl ⟨v0,(IntKind.wrap .i64 (v1+(1:Int)))⟩)) (.br (not (decide ((getByte v0 (Int.toNat v1))=(45:Int)))) (.leaf (.inr (.k0 (false)))) (.leaf (.inl ⟨v0,(IntKind.wrap .i64 (v1+(1:Int)))⟩)))) (.br (not (decide ((getByte v0 (Int.toNat v1))=(45:Int)))) (.leaf (.inr (.k0 (false)))) (.leaf (.inl ⟨v0,(IntKind.wrap .i64 (v1+(1:Int)))⟩)))))) (.no)) (.leaf (.inr (.k1)))
theorem T85_0  (y:List Value) (v0:ByteArray) (v1:Int):evC Try.prog (Ans.c (fun _=>none:Ans)) 60 (.code none (theLoop Try.prog 85 0) ⟨sets (junkF 48 y) [(0,(.string v0)),(3,(.int .i64 v1))],[],⟨[],0,[]⟩⟩) (sumK 0 48 Lp85_0.pk)=(rd85_0 ⟨v0,v1⟩).out Lp85_0.enc:=by kernel_rfl
def L85_0 (x:X85_0):Option D85_0:=loopR rd85_0 x
section
variable (x:X85_0)
def L85_0_k0:Bool:=match L85_0 x with | some (.k0 ..)=>true | _=>false
def Qe0:Bool:=match L85_0 x with | some (.k0 d)=>d | _=>false
def L85_0_k1:Bool:=match L85_0 x with | some (.k1 ..)=>true | _=>false
end
def dec85_0:Task→Option (Code×X85_0)
  | .code none (.loop code) ⟨t,[],⟨[],0,[]⟩⟩ =>
    (match Nat.beq (firstReg code) 4,lenIs t 48,lget t 0,lget t 3 with
    | true,true,(.string v0),(.int .i64 v1)=>some (code,⟨v0,v1⟩)
    | _,_,_,_=>none)
  | _=>none
def alt85_0 (x:X85_0)(j:List Value):AT:=.br (L85_0_k0 x) (loopEnd 48 (.ret) [(2,(.bool (Qe0 x)))] ⟨[],0,[]⟩ j) (.br (L85_0_k1 x) (loopEnd 48 (.exit 0) [] ⟨[],0,[]⟩ j) (.no))
def la85_0 (J:Task→List Value):Ans:=loopAns Lp85_0.c dec85_0 alt85_0 J
theorem ha85_0:∀(x:X85_0) (j:List Value)(o:Out),(alt85_0 x j).out=some o→∃d,loopR rd85_0 x=some d∧o=Lp85_0.tail d j:=by
  intro x j o h
  unfold alt85_0 at h
  cases hL:L85_0 x with
  | none=>simp [L85_0_k0,Qe0,L85_0_k1,hL,AT.out]at h
  | some d =>
    refine ⟨d,hL,?_⟩
    cases d<;>(simp only [L85_0_k0,Qe0,L85_0_k1,hL,AT.out,loopEnd,cond_true,cond_false,Option.some.injEq]at h;rw [← h];rfl)
theorem hd85_0:∀(t:Task) (c:Code)(x:X85_0),dec85_0 t=some (c,x)→c=Lp85_0.c→∃T,t=.code none (.loop Lp85_0.c) ⟨T,[],⟨Lp85_0.hp x,0,[]⟩⟩∧T.length=Lp85_0.N∧∀kv∈Lp85_0.S.zip (Lp85_0.sl x),lget T kv.1=kv.2:=by
  intro t c x h hc
  unfold dec85_0 at h
  split at h
  case h_2=>cases h
  split at h
  case h_2=>cases h
  simp only [Option.some.injEq,Prod.mk.injEq]at h
  obtain ⟨rfl,rfl⟩:=h
  subst hc
  refine ⟨_,rfl,lenIs_eq _ _ (by assumption),?_⟩
  intro kv hk
  simp only [Lp85_0,List.zip_cons_cons,List.zip_nil_right,List.mem_cons,List.not_mem_nil,or_false]at hk
  rcases hk with rfl | rfl<;>assumption
theorem kl85_0:∃J,Known Try.prog (la85_0 J):=by
  exact LoopOf.known noNG mixed ok85_0 (by decide) (by decide) (Known.nothing Try.prog) (n:=60) (rd:=rd85_0) (fun x j=>T85_0  j x.v0 x.v1) dec85_0 alt85_0 hd85_0 ha85_0
structure R85 where
  r0:Bool
structure A85 where
  a0:ByteArray
def rt85 (a0:ByteArray):RT R85 :=
  .br (decide ((Int.ofNat (ByteArray.size a0))<(1:Int))) (.leaf ⟨false⟩) (.br (decide ((24:Int)<(Int.ofNat (ByteArray.size a0)))) (.leaf ⟨false⟩)
   (.sw (eqCode (Lp85_0.c) (Lp85_0.c)) true (by simp only [eqCode_self,arrEq_self]) (.br (L85_0_k0 (X85_0.mk a0 (0:Int))) (.leaf ⟨(Qe0 (X85_0.mk a0 (0:Int)))⟩) (.br (L85_0_k1 (X85_0.mk a0 (0:Int))) (.leaf ⟨true⟩) (.no))) (.no)))
def en85 (r:R85):Value:=(.bool r.r0)
theorem T85 (J0:Task→List Value)(a0:ByteArray):evC Try.prog (Ans.c (la85_0 J0)) 60 (.call 85 ⟨[(.string a0)]⟩ ⟨[],0,[]⟩) (frzK [0])=(rt85 a0).out (fun r=>.ret (en85 r) ⟨[],0,[]⟩):=by kernel_rfl
def F85 (a0:ByteArray):Option R85:=(rt85 a0).val
section
variable (a0:ByteArray)
def F85_ok:Bool:=(F85 a0).isSome
def F85_0:Bool:=match F85 a0 with | some r=>r.r0 | none=>false
end
def dec85:Task→Option (A85×Hp)
  | .call g ⟨[(.string a0)]⟩ h=>(match Nat.beq g 85 with | true=>some (⟨a0⟩,h) | false=>none)
  | _=>none
def alt85 (x:A85)(h:Hp):AT:=.br (F85_ok x.a0) (.leaf (.ret (.bool (F85_0 x.a0)) h)) .no
def p85:Ans:=fnAns dec85 alt85
theorem ha85:∀(x:A85) (h:Hp)(o:Out),(alt85 x h).out=some o→∃r,(rt85 x.a0).val=some r∧o=.ret (en85 r) h:=by
  intro x h o e
  unfold alt85 at e
  simp only [AT.out]at e
  obtain ⟨g,e⟩:=cond_some e
  unfold F85_ok at g
  obtain ⟨r,hF⟩:=Option.isSome_iff_exists.1 g
  have hv:F85 x.a0=(rt85 x.a0).val:=by delta F85;exact rfl
  refine ⟨r,hv.symm.trans hF,?_⟩
  simp only [Option.some.injEq]at e
  rw [← e]
  have k0:F85_0 x.a0=r.r0:=by
    show (match F85 x.a0 with | some r=>r.r0 | none=>false)=r.r0
    rw [hF]
  rw [k0]<;>rfl
theorem hd85:∀(t:Task) (x:A85)(h:Hp),dec85 t=some (x,h)→t=.call 85 ⟨[(.string x.a0)]⟩ h:=by
  intro t x h e
  unfold dec85 at e
  split at e
  case h_2=>cases e
  split at e
  case h_2=>cases e
  rename_i hg
  simp only [Option.some.injEq,Prod.mk.injEq]at e
  obtain ⟨rfl,rfl⟩:=e
  rw [Nat.eq_of_beq_eq_true hg]
theorem known85:Known Try.prog p85:=by
  obtain ⟨J0,hJ0⟩:=kl85_0
  exact Known.fn noNG mixed hJ0 (n:=60) (zs:=[0]) 85 (fun x:A85=>[(.string x.a0)]) (fun x=>rt85 x.a0) en85 (fun x=>T85 J0 x.a0) (fun x=>rfl) dec85 alt85 hd85 ha85
end
end Go.Proofs.Ytoojllndfjamgaa
