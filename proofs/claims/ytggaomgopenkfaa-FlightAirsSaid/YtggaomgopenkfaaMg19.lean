/- Part 19 of the texts below the claim. Conditions: none. -/
import Derived.Test.YtggaomgopenkfaaMg7
import Derived.Test.YtggaomgopenkfaaMg10
import Derived.Test.YtggaomgopenkfaaMg8
import Derived.Test.YtggaomgopenkfaaMg18
import Derived.Test.YtggaomgopenkfaaMg17
import Derived.Test.YtggaomgopenkfaaMg9
set_option linter.unusedVariables false
set_option linter.unusedSimpArgs false
namespace Go.Proofs.Ytggaomgopenkfaa
open Go.Gi Go.RowKit Go.Proofs.Ytggaomgopenkfaa.Old
noncomputable section
set_option maxRecDepth 100000
set_option maxHeartbeats 4000000
structure X18_55x0 where
 (hb:Nat)
 hw:List Nat
 (v0:Array Value)
 (v1 v2:Nat)
 (v3 v4:Int)
 (v5 v6:Int)
 (v7 v8:Int)
 (v9 v10:Int)
 (v11 v12:Int)
 (v13 v14:Int)
 (v15 v16 v17:Int)
inductive D18_55x0 where
 | k0 (d0:Array Value) (d1 d2:Nat) (d3 d4:Int) (d5 d6:Int) (d7 d8:Int) (d9 d10:Int) (d11 d12:Int) (d13 d14:Int) (d15 d16 d17:Int)
def Lp18_55x0:LoopS X18_55x0 D18_55x0 where
 c:=(theLoop Try.prog 55 0)
 N:=55
 M:=4
 S:=[0,2,4,6,7]
 Bs:=[]
 q:=none
 sz:=0
 z:=0
 own:=fun x=>none
 sl:=fun x=>[(lstV x.v0 x.v1 x.v2 7),(.func (.func 57) ⟨[]⟩ ⟨[]⟩),(Value.pointer (Option.some (Addr.mk 2 0 Option.none))),(Value.pointer (Option.some (Addr.mk 3 0 Option.none))),(.int .i64 x.v3)]
 hp:=fun x w=>[.cells ⟨[(.int .i64 x.v4),(.int .i64 x.v5)]⟩ false,.cells ⟨[(.int .i64 x.v6),(.int .i64 x.v7),(.int .i64 x.v8),(.int .i64 x.v9)]⟩ false,.cells ⟨[(.int .i64 x.v10),(.int .i64 x.v11)]⟩ false,.cells ⟨[(.int .i64 x.v12),(.int .i64 x.v13),(.int .i64 x.v14),(.int .i64 x.v15),(.int .i64 x.v16),(.int .i64 x.v17)]⟩ false]
 ex:=fun d=>match d with | .k0 ..=>.exit 0
 pick:=fun e=>match e with | .exit 0=>[0,2,4,6,7] | _=>[]
 dv:=fun d=>match d with | .k0 d0 d1 d2 d3 d4 d5 d6 d7 d8 d9 d10 d11 d12 d13 d14 d15 d16 d17=>[(lstV d0 d1 d2 7),(.func (.func 57) ⟨[]⟩ ⟨[]⟩),(Value.pointer (Option.some (Addr.mk 2 0 Option.none))),(Value.pointer (Option.some (Addr.mk 3 0 Option.none))),(.int .i64 d3)]
 dh:=fun d=>match d with | .k0 d0 d1 d2 d3 d4 d5 d6 d7 d8 d9 d10 d11 d12 d13 d14 d15 d16 d17=>[.cells ⟨[(.int .i64 d4),(.int .i64 d5)]⟩ false,.cells ⟨[(.int .i64 d6),(.int .i64 d7),(.int .i64 d8),(.int .i64 d9)]⟩ false,.cells ⟨[(.int .i64 d10),(.int .i64 d11)]⟩ false,.cells ⟨[(.int .i64 d12),(.int .i64 d13),(.int .i64 d14),(.int .i64 d15),(.int .i64 d16),(.int .i64 d17)]⟩ false]
theorem ok18_55x0:Lp18_55x0.OkS:=⟨fun x=>rfl,fun x=>rfl,fun x w=>rfl,fun x=>(fun _=>rfl),fun x w=>rfl,fun x w=>rfl,(fun q j h=>by cases h),fun d=>by cases d<;>rfl,fun d=>by cases d<;>rfl,fun d=>match d with | .k0 d0 d1 d2 d3 d4 d5 d6 d7 d8 d9 d10 d11 d12 d13 d14 d15 d16 d17=>(fun _=>rfl),fun d=>by cases d<;>(intro h;cases h),fun d=>by cases d<;>rfl,fun d=>by cases d<;>rfl,by decide,by decide⟩
def rd18_55x0 (x:X18_55x0):RT (Sum X18_55x0 D18_55x0):=match x with
 | ⟨hb,hw,v0,v1,v2,v3,v4,v5,v6,v7,v8,v9,v10,v11,v12,v13,v14,v15,v16,v17⟩ =>let u0:=(IntKind.wrap .i64 (v3+(1:Int)));
   .br (decide (u0<(Int.ofNat v2))) (.br (and (decide ((0:Int)≤u0)) (decide (u0<(Int.ofNat v2)))) (.br (isInt .i64 v0 ((v1+((Int.toNat u0)*7))+0)) (.br (decide ((getInt v0 ((v1+((Int.toNat u0)*7))+0))≤v10)) (.leaf (.inl ⟨hb,hw,v0,v1,v2,u0,v4,v5,v6,v7,v8,v9,v10,v11,v12,v13,v14,v15,v16,v17⟩)) (.leaf (.inr (.k0 v0 v1 v2 v3 v4 v5 v6 v7 v8 v9 v10 v11 v12 v13 v14 v15 v16 v17)))) (.no)) (.no)) (.leaf (.inr (.k0 v0 v1 v2 v3 v4 v5 v6 v7 v8 v9 v10 v11 v12 v13 v14 v15 v16 v17)))
theorem T18_55x0n  (y:List Value) (hb:Nat) (hw:List Nat) (v0:Array Value) (v1 v2:Nat) (v3 v4:Int) (v5 v6:Int) (v7 v8:Int) (v9 v10:Int) (v11 v12:Int) (v13 v14:Int) (v15 v16 v17:Int):evC Try.prog (Ans.c (p53.or (p54.or (p56.or (p57.or p58))))) 60 (.code none (theLoop Try.prog 55 0) ⟨sets (junkF 55 y) [(0,(lstV v0 v1 v2 7)),(2,(.func (.func 57) ⟨[]⟩ ⟨[]⟩)),(4,(Value.pointer (some (Addr.mk 2 0 none)))),(6,(Value.pointer (some (Addr.mk 3 0 none)))),(7,(.int .i64 v3))],[],⟨[.cells ⟨[(.int .i64 v4),(.int .i64 v5)]⟩ false,.cells ⟨[(.int .i64 v6),(.int .i64 v7),(.int .i64 v8),(.int .i64 v9)]⟩ false,.cells ⟨[(.int .i64 v10),(.int .i64 v11)]⟩ false,.cells ⟨[(.int .i64 v12),(.int .i64 v13),(.int .i64 v14),(.int .i64 v15),(.int .i64 v16),(.int .i64 v17)]⟩ false],0,[]⟩⟩) (kS 55 4 [0,2,4,6,7] Lp18_55x0.pick [] 0 none)=(rd18_55x0 ⟨hb,hw,v0,v1,v2,v3,v4,v5,v6,v7,v8,v9,v10,v11,v12,v13,v14,v15,v16,v17⟩).out Lp18_55x0.encS:=by kernel_rfl
theorem T18_55x0  (x:X18_55x0) (y:List Value):evC Try.prog (Ans.c (p53.or (p54.or (p56.or (p57.or p58))))) 60 (Lp18_55x0.headS x y) (kS Lp18_55x0.N Lp18_55x0.M Lp18_55x0.S Lp18_55x0.pick Lp18_55x0.Bs Lp18_55x0.z Lp18_55x0.q)=(rd18_55x0 x).out Lp18_55x0.encS:=by
 obtain ⟨hb,hw,v0,v1,v2,v3,v4,v5,v6,v7,v8,v9,v10,v11,v12,v13,v14,v15,v16,v17⟩:=x;exact T18_55x0n  y hb hw v0 v1 v2 v3 v4 v5 v6 v7 v8 v9 v10 v11 v12 v13 v14 v15 v16 v17
def L18_55x0 (x:X18_55x0):Option D18_55x0:=loopR rd18_55x0 x
def L18_55x0_k0 (x:X18_55x0):Bool:=match L18_55x0 x with | some (.k0 ..)=>true | _=>false
def L18_55x0_k0_0 (x:X18_55x0):Array Value:=match L18_55x0 x with | some (.k0 (d0:=d) ..)=>d | _=>#[]
def L18_55x0_k0_1 (x:X18_55x0):Nat:=match L18_55x0 x with | some (.k0 (d1:=d) ..)=>d | _=>0
def L18_55x0_k0_2 (x:X18_55x0):Nat:=match L18_55x0 x with | some (.k0 (d2:=d) ..)=>d | _=>0
def L18_55x0_k0_3 (x:X18_55x0):Int:=match L18_55x0 x with | some (.k0 (d3:=d) ..)=>d | _=>0
def L18_55x0_k0_4 (x:X18_55x0):Int:=match L18_55x0 x with | some (.k0 (d4:=d) ..)=>d | _=>0
def L18_55x0_k0_5 (x:X18_55x0):Int:=match L18_55x0 x with | some (.k0 (d5:=d) ..)=>d | _=>0
def L18_55x0_k0_6 (x:X18_55x0):Int:=match L18_55x0 x with | some (.k0 (d6:=d) ..)=>d | _=>0
def L18_55x0_k0_7 (x:X18_55x0):Int:=match L18_55x0 x with | some (.k0 (d7:=d) ..)=>d | _=>0
def L18_55x0_k0_8 (x:X18_55x0):Int:=match L18_55x0 x with | some (.k0 (d8:=d) ..)=>d | _=>0
def L18_55x0_k0_9 (x:X18_55x0):Int:=match L18_55x0 x with | some (.k0 (d9:=d) ..)=>d | _=>0
def L18_55x0_k0_10 (x:X18_55x0):Int:=match L18_55x0 x with | some (.k0 (d10:=d) ..)=>d | _=>0
def L18_55x0_k0_11 (x:X18_55x0):Int:=match L18_55x0 x with | some (.k0 (d11:=d) ..)=>d | _=>0
def L18_55x0_k0_12 (x:X18_55x0):Int:=match L18_55x0 x with | some (.k0 (d12:=d) ..)=>d | _=>0
def L18_55x0_k0_13 (x:X18_55x0):Int:=match L18_55x0 x with | some (.k0 (d13:=d) ..)=>d | _=>0
def L18_55x0_k0_14 (x:X18_55x0):Int:=match L18_55x0 x with | some (.k0 (d14:=d) ..)=>d | _=>0
def L18_55x0_k0_15 (x:X18_55x0):Int:=match L18_55x0 x with | some (.k0 (d15:=d) ..)=>d | _=>0
def L18_55x0_k0_16 (x:X18_55x0):Int:=match L18_55x0 x with | some (.k0 (d16:=d) ..)=>d | _=>0
def L18_55x0_k0_17 (x:X18_55x0):Int:=match L18_55x0 x with | some (.k0 (d17:=d) ..)=>d | _=>0
def dec18_55x0:Task→Option (Code×X18_55x0)
 | .code none (.loop code) ⟨t,[],⟨[b0,b1,b2,b3],hb,hw⟩⟩ =>
  (match Nat.beq (firstReg code) 2,lenIs t 55 with
  | true,true=>((dLs 7 (lget t 0)).bind fun q0=>(fun v0 v1 v2=>(dFn 57 (lget t 2)).bind fun q1=>match q1.1,q1.2 with | [],[]=>((dPt 2 0 (lget t 4)).bind fun _=>(dPt 3 0 (lget t 6)).bind fun _=>(dI .i64 (lget t 7)).bind fun v3=>(dCe b0).bind fun l5=>match l5 with | [y5_0,y5_1]=>((dI .i64 y5_0).bind fun v4=>(dI .i64 y5_1).bind fun v5=>(dCe b1).bind fun l8=>match l8 with | [y8_0,y8_1,y8_2,y8_3]=>((dI .i64 y8_0).bind fun v6=>(dI .i64 y8_1).bind fun v7=>(dI .i64 y8_2).bind fun v8=>(dI .i64 y8_3).bind fun v9=>(dCe b2).bind fun l13=>match l13 with | [y13_0,y13_1]=>((dI .i64 y13_0).bind fun v10=>(dI .i64 y13_1).bind fun v11=>(dCe b3).bind fun l16=>match l16 with | [y16_0,y16_1,y16_2,y16_3,y16_4,y16_5]=>((dI .i64 y16_0).bind fun v12=>(dI .i64 y16_1).bind fun v13=>(dI .i64 y16_2).bind fun v14=>(dI .i64 y16_3).bind fun v15=>(dI .i64 y16_4).bind fun v16=>(dI .i64 y16_5).bind fun v17=>some (code,⟨hb,hw,v0,v1,v2,v3,v4,v5,v6,v7,v8,v9,v10,v11,v12,v13,v14,v15,v16,v17⟩)) | _=>none) | _=>none) | _=>none) | _=>none) | _,_=>none) q0.1 q0.2.1 q0.2.2)
  | _,_=>none)
 | _=>none
def alt18_55x0 (x:X18_55x0)(j:List Value):AT:=.br (L18_55x0_k0 x) (loopEnd 55 (.exit 0) [(0,(lstV (L18_55x0_k0_0 x) (L18_55x0_k0_1 x) (L18_55x0_k0_2 x) 7)),(2,(.func (.func 57) ⟨[]⟩ ⟨[]⟩)),(4,(Value.pointer (Option.some (Addr.mk 2 0 Option.none)))),(6,(Value.pointer (Option.some (Addr.mk 3 0 Option.none)))),(7,(.int .i64 (L18_55x0_k0_3 x)))] ⟨[.cells ⟨[(.int .i64 (L18_55x0_k0_4 x)),(.int .i64 (L18_55x0_k0_5 x))]⟩ false,.cells ⟨[(.int .i64 (L18_55x0_k0_6 x)),(.int .i64 (L18_55x0_k0_7 x)),(.int .i64 (L18_55x0_k0_8 x)),(.int .i64 (L18_55x0_k0_9 x))]⟩ false,.cells ⟨[(.int .i64 (L18_55x0_k0_10 x)),(.int .i64 (L18_55x0_k0_11 x))]⟩ false,.cells ⟨[(.int .i64 (L18_55x0_k0_12 x)),(.int .i64 (L18_55x0_k0_13 x)),(.int .i64 (L18_55x0_k0_14 x)),(.int .i64 (L18_55x0_k0_15 x)),(.int .i64 (L18_55x0_k0_16 x)),(.int .i64 (L18_55x0_k0_17 x))]⟩ false],x.hb,0::1::2::3::x.hw⟩ j) (.no)
def la18_55x0 (J:Task→List Value):Ans:=loopAns Lp18_55x0.c dec18_55x0 alt18_55x0 J
theorem ha18_55x0:∀(x:X18_55x0) (j:List Value)(o:Out),(alt18_55x0 x j).out=some o→Lp18_55x0.good x∧∃d,loopR rd18_55x0 x=some d∧o=Lp18_55x0.tailB x d j x.hb x.hw:=by
 intro x j o h;simp only[alt18_55x0,AT.out]at h
 refine ⟨⟨rfl,fun a l e=>(by cases e)⟩,?_⟩
 cases hL:L18_55x0 x with
 | none=>simp only[L18_55x0_k0,L18_55x0_k0_0,L18_55x0_k0_1,L18_55x0_k0_2,L18_55x0_k0_3,L18_55x0_k0_4,L18_55x0_k0_5,L18_55x0_k0_6,L18_55x0_k0_7,L18_55x0_k0_8,L18_55x0_k0_9,L18_55x0_k0_10,L18_55x0_k0_11,L18_55x0_k0_12,L18_55x0_k0_13,L18_55x0_k0_14,L18_55x0_k0_15,L18_55x0_k0_16,L18_55x0_k0_17,hL,AT.out,cond_false]at h;cases h
 | some d =>
  refine ⟨d,hL,?_⟩
  cases d<;>(simp only[L18_55x0_k0,L18_55x0_k0_0,L18_55x0_k0_1,L18_55x0_k0_2,L18_55x0_k0_3,L18_55x0_k0_4,L18_55x0_k0_5,L18_55x0_k0_6,L18_55x0_k0_7,L18_55x0_k0_8,L18_55x0_k0_9,L18_55x0_k0_10,L18_55x0_k0_11,L18_55x0_k0_12,L18_55x0_k0_13,L18_55x0_k0_14,L18_55x0_k0_15,L18_55x0_k0_16,L18_55x0_k0_17,hL,AT.out,loopEnd,cond_true,cond_false,Option.some.injEq]at h;rw[← h];rfl)
theorem hd18_55x0:∀(t:Task) (c:Code)(x:X18_55x0),dec18_55x0 t=some (c,x)→c=Lp18_55x0.c→∃T H',t=.code none (.loop Lp18_55x0.c) ⟨T,[],⟨H',x.hb,x.hw⟩⟩∧Forgets H' (Lp18_55x0.H x)∧T.length=Lp18_55x0.N∧∀kv∈Lp18_55x0.S.zip (Lp18_55x0.sl x),lget T kv.1=kv.2:=by
 intro t c x h hc;unfold dec18_55x0 at h
 split at h
 ·split at h
  case h_2=>cases h
  rename_i hreg hlen;replace h:=bq h;obtain ⟨_,hh,h⟩:=h;have hh:=dLs_eq hh;replace h:=bq h;obtain ⟨⟨_,_⟩,hh,h⟩:=h
  dsimp only at hh h
  have hh:=dFn_eq hh
  split at h
  case h_2=>cases h
  replace h:=bq h;obtain ⟨_,hh,h⟩:=h;have hh:=dPt_eq hh;replace h:=bq h;obtain ⟨_,hh,h⟩:=h;have hh:=dPt_eq hh;replace h:=bq h;obtain ⟨_,hh,h⟩:=h;have hh:=dI_eq hh;replace h:=bq h;obtain ⟨_,hh,h⟩:=h;obtain rfl:=dCe_eq hh;clear hh
  split at h
  case h_2=>cases h
  (iterate 2 (replace h:=biI h;obtain ⟨_,rfl,h⟩:=h));replace h:=bq h;obtain ⟨_,hh,h⟩:=h;obtain rfl:=dCe_eq hh;clear hh
  split at h
  case h_2=>cases h
  (iterate 4 (replace h:=biI h;obtain ⟨_,rfl,h⟩:=h));replace h:=bq h;obtain ⟨_,hh,h⟩:=h;obtain rfl:=dCe_eq hh;clear hh
  split at h
  case h_2=>cases h
  (iterate 2 (replace h:=biI h;obtain ⟨_,rfl,h⟩:=h));replace h:=bq h;obtain ⟨_,hh,h⟩:=h;obtain rfl:=dCe_eq hh;clear hh
  split at h
  case h_2=>cases h
  (iterate 6 (replace h:=biI h;obtain ⟨_,rfl,h⟩:=h));simp only[Option.some.injEq,Prod.mk.injEq]at h;obtain ⟨rfl,rfl⟩:=h;subst hc
  refine ⟨_,_,rfl,(Forgets.refl _),lenIs_eq _ _ hlen,?_⟩
  intro kv hk;simp only[Lp18_55x0,List.zip_cons_cons,List.zip_nil_right,List.mem_cons,List.not_mem_nil,or_false]at hk
  rcases hk with rfl | rfl | rfl | rfl | rfl<;>assumption
 ·cases h
theorem kl18_55x0:∃J,Known Try.prog (la18_55x0 J):=by
 exact LoopS.knownB noNG mixed ok18_55x0 (Known.or known53 (Known.or known54 (Known.or known56 (Known.or known57 known58)))) (n:=60) (rd:=rd18_55x0) (fun x j _=>T18_55x0  x j) (fun x=>x.hb) (fun x=>x.hw) dec18_55x0 alt18_55x0 hd18_55x0 ha18_55x0
structure X18_55x1 where
 (hb:Nat)
 hw:List Nat
 (v0:Array Value)
 (v1 v2:Nat)
 (v3 v4:Int)
 (v5 v6:Int)
 (v7 v8:Int)
 (v9 v10:Int)
 (v11 v12:Int)
 (v13 v14:Int)
 (v15 v16:Int)
 (v17 v18:Int)
 (v19 v20:Int)
 (v21 v22:Int)
 (v23 v24:Int)
inductive D18_55x1 where
 | k0 (d0 d1:Int) (d2 d3:Int) (d4 d5:Int) (d6 d7:Int) (d8 d9:Int) (d10 d11:Int) (d12 d13:Int) (d14 d15:Int) (d16 d17:Int) (d18 d19:Int)
def Lp18_55x1:LoopS X18_55x1 D18_55x1 where
 c:=(theLoop Try.prog 55 1)
 N:=55
 M:=5
 S:=[2,4,6,8,37,38,39]
 Bs:=[]
 q:=none
 sz:=0
 z:=0
 own:=fun x=>none
 sl:=fun x=>[(.func (.func 57) ⟨[]⟩ ⟨[]⟩),(Value.pointer (Option.some (Addr.mk 2 0 Option.none))),(Value.pointer (Option.some (Addr.mk 3 0 Option.none))),(Value.pointer (Option.some (Addr.mk 4 0 Option.none))),(lstV x.v0 x.v1 x.v2 7),(.int .i64 x.v3),(.int .i64 x.v4)]
 hp:=fun x w=>[.cells ⟨[(.int .i64 x.v5),(.int .i64 x.v6)]⟩ false,.cells ⟨[(.int .i64 x.v7),(.int .i64 x.v8),(.int .i64 x.v9),(.int .i64 x.v10)]⟩ false,.cells ⟨[(.int .i64 x.v11),(.int .i64 x.v12)]⟩ false,.cells ⟨[(.int .i64 x.v13),(.int .i64 x.v14),(.int .i64 x.v15),(.int .i64 x.v16),(.int .i64 x.v17),(.int .i64 x.v18)]⟩ false,.cells ⟨[(.int .i64 x.v19),(.int .i64 x.v20),(.int .i64 x.v21),(.int .i64 x.v22),(.int .i64 x.v23),(.int .i64 x.v24)]⟩ false]
 ex:=fun d=>match d with | .k0 ..=>.exit 2
 pick:=fun e=>match e with | .exit 2=>[6,8] | _=>[]
 dv:=fun d=>match d with | .k0 d0 d1 d2 d3 d4 d5 d6 d7 d8 d9 d10 d11 d12 d13 d14 d15 d16 d17 d18 d19=>[(Value.pointer (Option.some (Addr.mk 3 0 Option.none))),(Value.pointer (Option.some (Addr.mk 4 0 Option.none)))]
 dh:=fun d=>match d with | .k0 d0 d1 d2 d3 d4 d5 d6 d7 d8 d9 d10 d11 d12 d13 d14 d15 d16 d17 d18 d19=>[.cells ⟨[(.int .i64 d0),(.int .i64 d1)]⟩ false,.cells ⟨[(.int .i64 d2),(.int .i64 d3),(.int .i64 d4),(.int .i64 d5)]⟩ false,.cells ⟨[(.int .i64 d6),(.int .i64 d7)]⟩ false,.cells ⟨[(.int .i64 d8),(.int .i64 d9),(.int .i64 d10),(.int .i64 d11),(.int .i64 d12),(.int .i64 d13)]⟩ false,.cells ⟨[(.int .i64 d14),(.int .i64 d15),(.int .i64 d16),(.int .i64 d17),(.int .i64 d18),(.int .i64 d19)]⟩ false]
theorem ok18_55x1:Lp18_55x1.OkS:=⟨fun x=>rfl,fun x=>rfl,fun x w=>rfl,fun x=>(fun _=>rfl),fun x w=>rfl,fun x w=>rfl,(fun q j h=>by cases h),fun d=>by cases d<;>rfl,fun d=>by cases d<;>rfl,fun d=>match d with | .k0 d0 d1 d2 d3 d4 d5 d6 d7 d8 d9 d10 d11 d12 d13 d14 d15 d16 d17 d18 d19=>(fun _=>rfl),fun d=>by cases d<;>(intro h;cases h),fun d=>by cases d<;>rfl,fun d=>by cases d<;>rfl,by decide,by decide⟩
def rd18_55x1 (x:X18_55x1):RT (Sum X18_55x1 D18_55x1):=match x with
 | ⟨hb,hw,v0,v1,v2,v3,v4,v5,v6,v7,v8,v9,v10,v11,v12,v13,v14,v15,v16,v17,v18,v19,v20,v21,v22,v23,v24⟩ =>let u0:=(Int.toNat v4);let u1:=(getInt v0 (((((((v1+(u0*7))+1)+1)+1)+1)+1)+1));let u2:=(getInt v0 ((((((v1+(u0*7))+1)+1)+1)+1)+1));let u3:=(getInt v0 (((((v1+(u0*7))+1)+1)+1)+1));let u4:=(getInt v0 ((((v1+(u0*7))+1)+1)+1));let u5:=(getInt v0 (((v1+(u0*7))+1)+1));let u6:=(getInt v0 ((v1+(u0*7))+1));let u7:=(Leaf.int .i64);
   .br (decide (v4<v3)) (.br (and (decide ((0:Int)≤v4)) (decide (v4<(Int.ofNat v2)))) (.br (rdOk v0 [u7,u7,u7,u7,u7,u7,u7] (v1+(u0*7)))
   (.br (decide (v12<(getInt v0 (v1+(u0*7))))) (.leaf (.inr (.k0 v5 v6 v7 v8 v9 v10 v11 v12 v13 v14 v15 v16 v17 v18 v19 v20 v21 v22 v23 v24))) (.leaf (.inl ⟨hb,hw,v0,v1,v2,v3,(IntKind.wrap .i64 (v4+(1:Int))),v5,v6,v7,v8,v9,v10,v11,v12,v13,v14,v15,v16,v17,v18,(F57_0 v19 v20 v21 v22 v23 v24 u6 u5 u4 u3 u2 u1),(F57_1 v19 v20 v21 v22 v23 v24 u6 u5 u4 u3 u2 u1),(F57_2 v19 v20 v21 v22 v23 v24 u6 u5 u4 u3 u2 u1),(F57_3 v19 v20 v21 v22 v23 v24 u6 u5 u4 u3 u2 u1),(F57_4 v19 v20 v21 v22 v23 v24 u6 u5 u4 u3 u2 u1),(F57_5 v19 v20 v21 v22 v23 v24 u6 u5 u4 u3 u2 u1)⟩))) (.no)) (.no)) (.leaf (.inr (.k0 v5 v6 v7 v8 v9 v10 v11 v12 v13 v14 v15 v16 v17 v18 v19 v20 v21 v22 v23 v24)))
theorem T18_55x1n  (y:List Value) (hb:Nat) (hw:List Nat) (v0:Array Value) (v1 v2:Nat) (v3 v4:Int) (v5 v6:Int) (v7 v8:Int) (v9 v10:Int) (v11 v12:Int) (v13 v14:Int) (v15 v16:Int) (v17 v18:Int) (v19 v20:Int) (v21 v22:Int) (v23 v24:Int):evC Try.prog (Ans.c (p53.or (p54.or (p56.or (p57.or p58))))) 60 (.code none (theLoop Try.prog 55 1) ⟨sets (junkF 55 y) [(2,(.func (.func 57) ⟨[]⟩ ⟨[]⟩)),(4,(Value.pointer (some (Addr.mk 2 0 none)))),(6,(Value.pointer (some (Addr.mk 3 0 none)))),(8,(Value.pointer (some (Addr.mk 4 0 none)))),(37,(lstV v0 v1 v2 7)),(38,(.int .i64 v3)),(39,(.int .i64 v4))],[],⟨[.cells ⟨[(.int .i64 v5),(.int .i64 v6)]⟩ false,.cells ⟨[(.int .i64 v7),(.int .i64 v8),(.int .i64 v9),(.int .i64 v10)]⟩ false,.cells ⟨[(.int .i64 v11),(.int .i64 v12)]⟩ false,.cells ⟨[(.int .i64 v13),(.int .i64 v14),(.int .i64 v15),(.int .i64 v16),(.int .i64 v17),(.int .i64 v18)]⟩ false,.cells ⟨[(.int .i64 v19),(.int .i64 v20),(.int .i64 v21),(.int .i64 v22),(.int .i64 v23),(.int .i64 v24)]⟩ false],0,[]⟩⟩) (kS 55 5 [2,4,6,8,37,38,39] Lp18_55x1.pick [] 0 none)=(rd18_55x1 ⟨hb,hw,v0,v1,v2,v3,v4,v5,v6,v7,v8,v9,v10,v11,v12,v13,v14,v15,v16,v17,v18,v19,v20,v21,v22,v23,v24⟩).out Lp18_55x1.encS:=by kernel_rfl
theorem T18_55x1  (x:X18_55x1) (y:List Value):evC Try.prog (Ans.c (p53.or (p54.or (p56.or (p57.or p58))))) 60 (Lp18_55x1.headS x y) (kS Lp18_55x1.N Lp18_55x1.M Lp18_55x1.S Lp18_55x1.pick Lp18_55x1.Bs Lp18_55x1.z Lp18_55x1.q)=(rd18_55x1 x).out Lp18_55x1.encS:=by
 obtain ⟨hb,hw,v0,v1,v2,v3,v4,v5,v6,v7,v8,v9,v10,v11,v12,v13,v14,v15,v16,v17,v18,v19,v20,v21,v22,v23,v24⟩:=x;exact T18_55x1n  y hb hw v0 v1 v2 v3 v4 v5 v6 v7 v8 v9 v10 v11 v12 v13 v14 v15 v16 v17 v18 v19 v20 v21 v22 v23 v24
def L18_55x1 (x:X18_55x1):Option D18_55x1:=loopR rd18_55x1 x
def L18_55x1_k0 (x:X18_55x1):Bool:=match L18_55x1 x with | some (.k0 ..)=>true | _=>false
def L18_55x1_k0_0 (x:X18_55x1):Int:=match L18_55x1 x with | some (.k0 (d0:=d) ..)=>d | _=>0
def L18_55x1_k0_1 (x:X18_55x1):Int:=match L18_55x1 x with | some (.k0 (d1:=d) ..)=>d | _=>0
def L18_55x1_k0_2 (x:X18_55x1):Int:=match L18_55x1 x with | some (.k0 (d2:=d) ..)=>d | _=>0
def L18_55x1_k0_3 (x:X18_55x1):Int:=match L18_55x1 x with | some (.k0 (d3:=d) ..)=>d | _=>0
def L18_55x1_k0_4 (x:X18_55x1):Int:=match L18_55x1 x with | some (.k0 (d4:=d) ..)=>d | _=>0
def L18_55x1_k0_5 (x:X18_55x1):Int:=match L18_55x1 x with | some (.k0 (d5:=d) ..)=>d | _=>0
def L18_55x1_k0_6 (x:X18_55x1):Int:=match L18_55x1 x with | some (.k0 (d6:=d) ..)=>d | _=>0
def L18_55x1_k0_7 (x:X18_55x1):Int:=match L18_55x1 x with | some (.k0 (d7:=d) ..)=>d | _=>0
def L18_55x1_k0_8 (x:X18_55x1):Int:=match L18_55x1 x with | some (.k0 (d8:=d) ..)=>d | _=>0
def L18_55x1_k0_9 (x:X18_55x1):Int:=match L18_55x1 x with | some (.k0 (d9:=d) ..)=>d | _=>0
def L18_55x1_k0_10 (x:X18_55x1):Int:=match L18_55x1 x with | some (.k0 (d10:=d) ..)=>d | _=>0
def L18_55x1_k0_11 (x:X18_55x1):Int:=match L18_55x1 x with | some (.k0 (d11:=d) ..)=>d | _=>0
def L18_55x1_k0_12 (x:X18_55x1):Int:=match L18_55x1 x with | some (.k0 (d12:=d) ..)=>d | _=>0
def L18_55x1_k0_13 (x:X18_55x1):Int:=match L18_55x1 x with | some (.k0 (d13:=d) ..)=>d | _=>0
def L18_55x1_k0_14 (x:X18_55x1):Int:=match L18_55x1 x with | some (.k0 (d14:=d) ..)=>d | _=>0
def L18_55x1_k0_15 (x:X18_55x1):Int:=match L18_55x1 x with | some (.k0 (d15:=d) ..)=>d | _=>0
def L18_55x1_k0_16 (x:X18_55x1):Int:=match L18_55x1 x with | some (.k0 (d16:=d) ..)=>d | _=>0
def L18_55x1_k0_17 (x:X18_55x1):Int:=match L18_55x1 x with | some (.k0 (d17:=d) ..)=>d | _=>0
def L18_55x1_k0_18 (x:X18_55x1):Int:=match L18_55x1 x with | some (.k0 (d18:=d) ..)=>d | _=>0
def L18_55x1_k0_19 (x:X18_55x1):Int:=match L18_55x1 x with | some (.k0 (d19:=d) ..)=>d | _=>0
def dec18_55x1:Task→Option (Code×X18_55x1)
 | .code none (.loop code) ⟨t,[],⟨[b0,b1,b2,b3,b4],hb,hw⟩⟩ =>
  (match Nat.beq (firstReg code) 6,lenIs t 55 with
  | true,true=>((dFn 57 (lget t 2)).bind fun q0=>match q0.1,q0.2 with | [],[]=>((dPt 2 0 (lget t 4)).bind fun _=>(dPt 3 0 (lget t 6)).bind fun _=>(dPt 4 0 (lget t 8)).bind fun _=>(dLs 7 (lget t 37)).bind fun q4=>(fun v0 v1 v2=>(dI .i64 (lget t 38)).bind fun v3=>(dI .i64 (lget t 39)).bind fun v4=>(dCe b0).bind fun l7=>match l7 with | [y7_0,y7_1]=>((dI .i64 y7_0).bind fun v5=>(dI .i64 y7_1).bind fun v6=>(dCe b1).bind fun l10=>match l10 with | [y10_0,y10_1,y10_2,y10_3]=>((dI .i64 y10_0).bind fun v7=>(dI .i64 y10_1).bind fun v8=>(dI .i64 y10_2).bind fun v9=>(dI .i64 y10_3).bind fun v10=>(dCe b2).bind fun l15=>match l15 with | [y15_0,y15_1]=>((dI .i64 y15_0).bind fun v11=>(dI .i64 y15_1).bind fun v12=>(dCe b3).bind fun l18=>match l18 with | [y18_0,y18_1,y18_2,y18_3,y18_4,y18_5]=>((dI .i64 y18_0).bind fun v13=>(dI .i64 y18_1).bind fun v14=>(dI .i64 y18_2).bind fun v15=>(dI .i64 y18_3).bind fun v16=>(dI .i64 y18_4).bind fun v17=>(dI .i64 y18_5).bind fun v18=>(dCe b4).bind fun l25=>match l25 with | [y25_0,y25_1,y25_2,y25_3,y25_4,y25_5]=>((dI .i64 y25_0).bind fun v19=>(dI .i64 y25_1).bind fun v20=>(dI .i64 y25_2).bind fun v21=>(dI .i64 y25_3).bind fun v22=>(dI .i64 y25_4).bind fun v23=>(dI .i64 y25_5).bind fun v24=>some (code,⟨hb,hw,v0,v1,v2,v3,v4,v5,v6,v7,v8,v9,v10,v11,v12,v13,v14,v15,v16,v17,v18,v19,v20,v21,v22,v23,v24⟩)) | _=>none) | _=>none) | _=>none) | _=>none) | _=>none) q4.1 q4.2.1 q4.2.2) | _,_=>none)
  | _,_=>none)
 | _=>none
def alt18_55x1 (x:X18_55x1)(j:List Value):AT:=.br (L18_55x1_k0 x) (loopEnd 55 (.exit 2) [(6,(Value.pointer (Option.some (Addr.mk 3 0 Option.none)))),(8,(Value.pointer (Option.some (Addr.mk 4 0 Option.none))))] ⟨[.cells ⟨[(.int .i64 (L18_55x1_k0_0 x)),(.int .i64 (L18_55x1_k0_1 x))]⟩ false,.cells ⟨[(.int .i64 (L18_55x1_k0_2 x)),(.int .i64 (L18_55x1_k0_3 x)),(.int .i64 (L18_55x1_k0_4 x)),(.int .i64 (L18_55x1_k0_5 x))]⟩ false,.cells ⟨[(.int .i64 (L18_55x1_k0_6 x)),(.int .i64 (L18_55x1_k0_7 x))]⟩ false,.cells ⟨[(.int .i64 (L18_55x1_k0_8 x)),(.int .i64 (L18_55x1_k0_9 x)),(.int .i64 (L18_55x1_k0_10 x)),(.int .i64 (L18_55x1_k0_11 x)),(.int .i64 (L18_55x1_k0_12 x)),(.int .i64 (L18_55x1_k0_13 x))]⟩ false,.cells ⟨[(.int .i64 (L18_55x1_k0_14 x)),(.int .i64 (L18_55x1_k0_15 x)),(.int .i64 (L18_55x1_k0_16 x)),(.int .i64 (L18_55x1_k0_17 x)),(.int .i64 (L18_55x1_k0_18 x)),(.int .i64 (L18_55x1_k0_19 x))]⟩ false],x.hb,0::1::2::3::4::x.hw⟩ j) (.no)
def la18_55x1 (J:Task→List Value):Ans:=loopAns Lp18_55x1.c dec18_55x1 alt18_55x1 J
theorem ha18_55x1:∀(x:X18_55x1) (j:List Value)(o:Out),(alt18_55x1 x j).out=some o→Lp18_55x1.good x∧∃d,loopR rd18_55x1 x=some d∧o=Lp18_55x1.tailB x d j x.hb x.hw:=by
 intro x j o h;simp only[alt18_55x1,AT.out]at h
 refine ⟨⟨rfl,fun a l e=>(by cases e)⟩,?_⟩
 cases hL:L18_55x1 x with
 | none=>simp only[L18_55x1_k0,L18_55x1_k0_0,L18_55x1_k0_1,L18_55x1_k0_2,L18_55x1_k0_3,L18_55x1_k0_4,L18_55x1_k0_5,L18_55x1_k0_6,L18_55x1_k0_7,L18_55x1_k0_8,L18_55x1_k0_9,L18_55x1_k0_10,L18_55x1_k0_11,L18_55x1_k0_12,L18_55x1_k0_13,L18_55x1_k0_14,L18_55x1_k0_15,L18_55x1_k0_16,L18_55x1_k0_17,L18_55x1_k0_18,L18_55x1_k0_19,hL,AT.out,cond_false]at h;cases h
 | some d =>
  refine ⟨d,hL,?_⟩
  cases d<;>(simp only[L18_55x1_k0,L18_55x1_k0_0,L18_55x1_k0_1,L18_55x1_k0_2,L18_55x1_k0_3,L18_55x1_k0_4,L18_55x1_k0_5,L18_55x1_k0_6,L18_55x1_k0_7,L18_55x1_k0_8,L18_55x1_k0_9,L18_55x1_k0_10,L18_55x1_k0_11,L18_55x1_k0_12,L18_55x1_k0_13,L18_55x1_k0_14,L18_55x1_k0_15,L18_55x1_k0_16,L18_55x1_k0_17,L18_55x1_k0_18,L18_55x1_k0_19,hL,AT.out,loopEnd,cond_true,cond_false,Option.some.injEq]at h;rw[← h];rfl)
theorem hd18_55x1:∀(t:Task) (c:Code)(x:X18_55x1),dec18_55x1 t=some (c,x)→c=Lp18_55x1.c→∃T H',t=.code none (.loop Lp18_55x1.c) ⟨T,[],⟨H',x.hb,x.hw⟩⟩∧Forgets H' (Lp18_55x1.H x)∧T.length=Lp18_55x1.N∧∀kv∈Lp18_55x1.S.zip (Lp18_55x1.sl x),lget T kv.1=kv.2:=by
 intro t c x h hc;unfold dec18_55x1 at h
 split at h
 ·split at h
  case h_2=>cases h
  rename_i hreg hlen;replace h:=bq h;obtain ⟨⟨_,_⟩,hh,h⟩:=h
  dsimp only at hh h
  have hh:=dFn_eq hh
  split at h
  case h_2=>cases h
  replace h:=bq h;obtain ⟨_,hh,h⟩:=h;have hh:=dPt_eq hh;replace h:=bq h;obtain ⟨_,hh,h⟩:=h;have hh:=dPt_eq hh;replace h:=bq h;obtain ⟨_,hh,h⟩:=h;have hh:=dPt_eq hh;replace h:=bq h;obtain ⟨_,hh,h⟩:=h;have hh:=dLs_eq hh;replace h:=bq h;obtain ⟨_,hh,h⟩:=h;have hh:=dI_eq hh;replace h:=bq h;obtain ⟨_,hh,h⟩:=h;have hh:=dI_eq hh;replace h:=bq h;obtain ⟨_,hh,h⟩:=h;obtain rfl:=dCe_eq hh;clear hh
  split at h
  case h_2=>cases h
  (iterate 2 (replace h:=biI h;obtain ⟨_,rfl,h⟩:=h));replace h:=bq h;obtain ⟨_,hh,h⟩:=h;obtain rfl:=dCe_eq hh;clear hh
  split at h
  case h_2=>cases h
  (iterate 4 (replace h:=biI h;obtain ⟨_,rfl,h⟩:=h));replace h:=bq h;obtain ⟨_,hh,h⟩:=h;obtain rfl:=dCe_eq hh;clear hh
  split at h
  case h_2=>cases h
  (iterate 2 (replace h:=biI h;obtain ⟨_,rfl,h⟩:=h));replace h:=bq h;obtain ⟨_,hh,h⟩:=h;obtain rfl:=dCe_eq hh;clear hh
  split at h
  case h_2=>cases h
  (iterate 6 (replace h:=biI h;obtain ⟨_,rfl,h⟩:=h));replace h:=bq h;obtain ⟨_,hh,h⟩:=h;obtain rfl:=dCe_eq hh;clear hh
  split at h
  case h_2=>cases h
  (iterate 6 (replace h:=biI h;obtain ⟨_,rfl,h⟩:=h));simp only[Option.some.injEq,Prod.mk.injEq]at h;obtain ⟨rfl,rfl⟩:=h;subst hc
  refine ⟨_,_,rfl,(Forgets.refl _),lenIs_eq _ _ hlen,?_⟩
  intro kv hk;simp only[Lp18_55x1,List.zip_cons_cons,List.zip_nil_right,List.mem_cons,List.not_mem_nil,or_false]at hk
  rcases hk with rfl | rfl | rfl | rfl | rfl | rfl | rfl<;>assumption
 ·cases h
theorem kl18_55x1:∃J,Known Try.prog (la18_55x1 J):=by
 exact LoopS.knownB noNG mixed ok18_55x1 (Known.or known53 (Known.or known54 (Known.or known56 (Known.or known57 known58)))) (n:=60) (rd:=rd18_55x1) (fun x j _=>T18_55x1  x j) (fun x=>x.hb) (fun x=>x.hw) dec18_55x1 alt18_55x1 hd18_55x1 ha18_55x1
structure R18 where
 (r0 r1:Int)
 (r2 r3 r4:Int)
structure A18 where
 (a0:Array Value)
 (a1 a2:Nat)
 (a3 a4:Int)
def Y18_0 (a0:Array Value)(a1 a2:Nat)(a3 a4:Int):X18_55x0:=(X18_55x0.mk 2 [] (F56_0 (a0) a1 a2) (F56_1 (a0) a1 a2) (F56_2 (a0) a1 a2) (0:Int) a3 a4 (0:Int) (0:Int) (0:Int) (0:Int) a3 a4 (0:Int) (0:Int) (0:Int) (0:Int) (0:Int) (0:Int))
def Y18_1 (a0:Array Value)(a1 a2:Nat)(a3 a4:Int):X18_55x1:=(X18_55x1.mk 2 [0,1,2,3] (L18_55x0_k0_0 (Y18_0 a0 a1 a2 a3 a4)) ((L18_55x0_k0_1 (Y18_0 a0 a1 a2 a3 a4))+((Int.toNat (IntKind.wrap .i64 ((L18_55x0_k0_3 (Y18_0 a0 a1 a2 a3 a4))+(1:Int))))*7)) ((L18_55x0_k0_2 (Y18_0 a0 a1 a2 a3 a4))-(Int.toNat (IntKind.wrap .i64 ((L18_55x0_k0_3 (Y18_0 a0 a1 a2 a3 a4))+(1:Int))))) (Int.ofNat ((L18_55x0_k0_2 (Y18_0 a0 a1 a2 a3 a4))-(Int.toNat (IntKind.wrap .i64 ((L18_55x0_k0_3 (Y18_0 a0 a1 a2 a3 a4))+(1:Int)))))) (0:Int) (L18_55x0_k0_4 (Y18_0 a0 a1 a2 a3 a4)) (L18_55x0_k0_5 (Y18_0 a0 a1 a2 a3 a4)) (L18_55x0_k0_6 (Y18_0 a0 a1 a2 a3 a4)) (L18_55x0_k0_7 (Y18_0 a0 a1 a2 a3 a4)) (L18_55x0_k0_8 (Y18_0 a0 a1 a2 a3 a4)) (L18_55x0_k0_9 (Y18_0 a0 a1 a2 a3 a4)) (L18_55x0_k0_10 (Y18_0 a0 a1 a2 a3 a4)) (L18_55x0_k0_11 (Y18_0 a0 a1 a2 a3 a4)) (L18_55x0_k0_12 (Y18_0 a0 a1 a2 a3 a4)) (L18_55x0_k0_13 (Y18_0 a0 a1 a2 a3 a4)) (L18_55x0_k0_14 (Y18_0 a0 a1 a2 a3 a4)) (L18_55x0_k0_15 (Y18_0 a0 a1 a2 a3 a4)) (L18_55x0_k0_16 (Y18_0 a0 a1 a2 a3 a4)) (L18_55x0_k0_17 (Y18_0 a0 a1 a2 a3 a4)) (getInt (L18_55x0_k0_0 (Y18_0 a0 a1 a2 a3 a4)) (((L18_55x0_k0_1 (Y18_0 a0 a1 a2 a3 a4))+((Int.toNat (L18_55x0_k0_3 (Y18_0 a0 a1 a2 a3 a4)))*7))+1)) (getInt (L18_55x0_k0_0 (Y18_0 a0 a1 a2 a3 a4)) ((((L18_55x0_k0_1 (Y18_0 a0 a1 a2 a3 a4))+((Int.toNat (L18_55x0_k0_3 (Y18_0 a0 a1 a2 a3 a4)))*7))+1)+1)) (getInt (L18_55x0_k0_0 (Y18_0 a0 a1 a2 a3 a4)) (((((L18_55x0_k0_1 (Y18_0 a0 a1 a2 a3 a4))+((Int.toNat (L18_55x0_k0_3 (Y18_0 a0 a1 a2 a3 a4)))*7))+1)+1)+1)) (getInt (L18_55x0_k0_0 (Y18_0 a0 a1 a2 a3 a4)) ((((((L18_55x0_k0_1 (Y18_0 a0 a1 a2 a3 a4))+((Int.toNat (L18_55x0_k0_3 (Y18_0 a0 a1 a2 a3 a4)))*7))+1)+1)+1)+1)) (getInt (L18_55x0_k0_0 (Y18_0 a0 a1 a2 a3 a4)) (((((((L18_55x0_k0_1 (Y18_0 a0 a1 a2 a3 a4))+((Int.toNat (L18_55x0_k0_3 (Y18_0 a0 a1 a2 a3 a4)))*7))+1)+1)+1)+1)+1)) (getInt (L18_55x0_k0_0 (Y18_0 a0 a1 a2 a3 a4)) ((((((((L18_55x0_k0_1 (Y18_0 a0 a1 a2 a3 a4))+((Int.toNat (L18_55x0_k0_3 (Y18_0 a0 a1 a2 a3 a4)))*7))+1)+1)+1)+1)+1)+1)))
def rt18 (a0:Array Value)(a1 a2:Nat)(a3 a4:Int):RT R18 :=let u0:=(Y18_1 a0 a1 a2 a3 a4);let u1:=(Y18_0 a0 a1 a2 a3 a4);let u2:=(L18_55x0_k0_3 u1);let u3:=(Leaf.int .i64);
 .br (F53_ok a0 a1 a2) (.br (not (decide ((F53_1 a0 a1 a2)=(0:Int)))) (.leaf ⟨(0:Int),(0:Int),(0:Int),(0:Int),(F53_1 a0 a1 a2)⟩) (.br (F54_ok a3 a4 (2000000000:Int)) (.br (not (F54_0 a3 a4 (2000000000:Int))) (.leaf ⟨(0:Int),(0:Int),(0:Int),(0:Int),(7:Int)⟩) (.br (F56_ok a0 a1 a2)
   (.sw (eqCode (Lp18_55x0.c) (Lp18_55x0.c)) true (by simp only[eqCode_self,arrEq_self]) (.br (L18_55x0_k0 u1) (.br (and (decide ((0:Int)≤u2)) (decide (u2<(Int.ofNat (L18_55x0_k0_2 u1))))) (.br (rdOk (L18_55x0_k0_0 u1) [u3,u3,u3,u3,u3,u3] (((L18_55x0_k0_1 u1)+((Int.toNat u2)*7))+1)) (.br (and (decide ((0:Int)≤(IntKind.wrap .i64 (u2+(1:Int))))) (and true (and (decide ((Int.toNat (IntKind.wrap .i64 (u2+(1:Int))))≤(L18_55x0_k0_2 u1))) (decide ((L18_55x0_k0_2 u1)≤(L18_55x0_k0_2 u1))))))
      (.sw (eqCode (Lp18_55x1.c) (Lp18_55x1.c)) true (by simp only[eqCode_self,arrEq_self]) (.br (L18_55x1_k0 u0) (mq a3 (mq a4 (mq a3 (mq a4 (.br (decide ((L18_55x1_k0_0 u0)=a3)) (.br (decide ((L18_55x1_k0_1 u0)=a4)) (.br (decide ((L18_55x1_k0_0 u0)=a3))
   (.br (decide ((L18_55x1_k0_1 u0)=a4)) (.leaf ⟨(F58_0 (L18_55x1_k0_14 u0) (L18_55x1_k0_15 u0) (L18_55x1_k0_16 u0) (L18_55x1_k0_17 u0) (L18_55x1_k0_18 u0) (L18_55x1_k0_19 u0)),(F58_1 (L18_55x1_k0_14 u0) (L18_55x1_k0_15 u0) (L18_55x1_k0_16 u0) (L18_55x1_k0_17 u0) (L18_55x1_k0_18 u0) (L18_55x1_k0_19 u0)),(F58_2 (L18_55x1_k0_14 u0) (L18_55x1_k0_15 u0) (L18_55x1_k0_16 u0) (L18_55x1_k0_17 u0) (L18_55x1_k0_18 u0) (L18_55x1_k0_19 u0)),(F58_3 (L18_55x1_k0_14 u0) (L18_55x1_k0_15 u0) (L18_55x1_k0_16 u0) (L18_55x1_k0_17 u0) (L18_55x1_k0_18 u0) (L18_55x1_k0_19 u0)),(0:Int)⟩) (.no)) (.no)) (.no)) (.no)))))) (.no)) (.no)) (.no)) (.no)) (.no)) (.no)) (.no)) (.no))) (.no))) (.no)
def en18 (r:R18):Value:=(.tuple ⟨[(.agg ⟨[(.int .i64 r.r0),(.int .i64 r.r1),(.int .i64 r.r2),(.int .i64 r.r3)]⟩),(.int .i64 r.r4)]⟩)
theorem T18 (J55x0:Task→List Value)(J55x1:Task→List Value)(a0:Array Value)(a1 a2:Nat)(a3 a4:Int):evC Try.prog (Ans.c (p53.or (p54.or (p56.or (p57.or (p58.or ((la18_55x0 J55x0).or (la18_55x1 J55x1)))))))) 60 (.call 18 ⟨[(lstV a0 a1 a2 6),(.agg ⟨[(.int .i64 a3),(.int .i64 a4)]⟩)]⟩ ⟨[],0,[]⟩) (frzK [0,0])=(rt18 a0 a1 a2 a3 a4).out (fun r=>.ret (en18 r) ⟨[],0,[]⟩):=by kernel_rfl
def F18 (a0:Array Value)(a1 a2:Nat)(a3 a4:Int):Option R18:=(rt18 a0 a1 a2 a3 a4).val
section
variable (a0:Array Value) (a1 a2:Nat) (a3 a4:Int)
def F18_ok:Bool:=(F18 a0 a1 a2 a3 a4).isSome
def F18_0:Int:=match F18 a0 a1 a2 a3 a4 with | some r=>r.r0 | none=>0
def F18_1:Int:=match F18 a0 a1 a2 a3 a4 with | some r=>r.r1 | none=>0
def F18_2:Int:=match F18 a0 a1 a2 a3 a4 with | some r=>r.r2 | none=>0
def F18_3:Int:=match F18 a0 a1 a2 a3 a4 with | some r=>r.r3 | none=>0
def F18_4:Int:=match F18 a0 a1 a2 a3 a4 with | some r=>r.r4 | none=>0
end
def dec18:Task→Option (A18×Hp)
 | .call g ⟨[(.func (.via 0 ⟨[]⟩ 0 true) a0 ⟨[.slice (some ⟨0,a1,none⟩) a2 6]⟩),(.agg ⟨[(.int .i64 a3),(.int .i64 a4)]⟩)]⟩ h=>(match Nat.beq g 18 with | true=>some (⟨a0,a1,a2,a3,a4⟩,h) | false=>none)
 | _=>none
def alt18 (x:A18)(h:Hp):AT:=.br (F18_ok x.a0 x.a1 x.a2 x.a3 x.a4) (.leaf (.ret (.tuple ⟨[(.agg ⟨[(.int .i64 (F18_0 x.a0 x.a1 x.a2 x.a3 x.a4)),(.int .i64 (F18_1 x.a0 x.a1 x.a2 x.a3 x.a4)),(.int .i64 (F18_2 x.a0 x.a1 x.a2 x.a3 x.a4)),(.int .i64 (F18_3 x.a0 x.a1 x.a2 x.a3 x.a4))]⟩),(.int .i64 (F18_4 x.a0 x.a1 x.a2 x.a3 x.a4))]⟩) h)) .no
def p18:Ans:=fnAns dec18 alt18
theorem ha18:∀(x:A18) (h:Hp)(o:Out),(alt18 x h).out=some o→∃r,(rt18 x.a0 x.a1 x.a2 x.a3 x.a4).val=some r∧o=.ret (en18 r) h:=by
 intro x h o e;unfold alt18 at e;simp only[AT.out]at e;obtain ⟨g,e⟩:=cond_some e;unfold F18_ok at g;obtain ⟨r,hF⟩:=Option.isSome_iff_exists.1 g
 refine ⟨r,by delta F18 at hF;exact hF,?_⟩
 simp only[Option.some.injEq]at e;rw[← e]
 unfold F18_0 F18_1 F18_2 F18_3 F18_4;rw[hF]<;>rfl
theorem hd18:∀(t:Task) (x:A18)(h:Hp),dec18 t=some (x,h)→t=.call 18 ⟨[(lstV x.a0 x.a1 x.a2 6),(.agg ⟨[(.int .i64 x.a3),(.int .i64 x.a4)]⟩)]⟩ h:=by
 intro t x h e;unfold dec18 at e
 split at e
 case h_2=>cases e
 split at e
 case h_2=>cases e
 rename_i hg;simp only[Option.some.injEq,Prod.mk.injEq]at e;obtain ⟨rfl,rfl⟩:=e;rw[Nat.eq_of_beq_eq_true hg]
theorem known18:Known Try.prog p18:=by
 obtain ⟨J55x0,hJ55x0⟩:=kl18_55x0;obtain ⟨J55x1,hJ55x1⟩:=kl18_55x1
 exact Known.fn noNG mixed (Known.or known53 (Known.or known54 (Known.or known56 (Known.or known57 (Known.or known58 (Known.or hJ55x0 hJ55x1)))))) (n:=60) (zs:=[0,0]) 18 (fun x:A18=>[(lstV x.a0 x.a1 x.a2 6),(.agg ⟨[(.int .i64 x.a3),(.int .i64 x.a4)]⟩)]) (fun x=>rt18 x.a0 x.a1 x.a2 x.a3 x.a4) en18 (fun x=>T18 J55x0 J55x1 x.a0 x.a1 x.a2 x.a3 x.a4) (fun x=>rfl) dec18 alt18 hd18 ha18
structure R60 where
 (r0:Int)
structure A60 where
 (a0 a1:Int)
def rt60 (a0 a1:Int):RT R60 :=
 .br (F48_ok a0 a1 (-2000000000:Int) (2000000000:Int)) (.br (not (F48_0 a0 a1 (-2000000000:Int) (2000000000:Int))) (.leaf ⟨(7:Int)⟩) (.leaf ⟨(0:Int)⟩)) (.no)
def en60 (r:R60):Value:=(.int .i64 r.r0)
theorem T60  (a0 a1:Int):evC Try.prog (Ans.c p48) 60 (.call 60 ⟨[(.agg ⟨[(.int .i64 a0),(.int .i64 a1)]⟩)]⟩ ⟨[],0,[]⟩) (frzK [0])=(rt60 a0 a1).out (fun r=>.ret (en60 r) ⟨[],0,[]⟩):=by kernel_rfl
def F60 (a0 a1:Int):Option R60:=(rt60 a0 a1).val
section
variable (a0 a1:Int)
def F60_ok:Bool:=(F60 a0 a1).isSome
def F60_0:Int:=match F60 a0 a1 with | some r=>r.r0 | none=>0
end
def dec60:Task→Option (A60×Hp)
 | .call g ⟨[(.agg ⟨[(.int .i64 a0),(.int .i64 a1)]⟩)]⟩ h=>(match Nat.beq g 60 with | true=>some (⟨a0,a1⟩,h) | false=>none)
 | _=>none
def alt60 (x:A60)(h:Hp):AT:=.br (F60_ok x.a0 x.a1) (.leaf (.ret (.int .i64 (F60_0 x.a0 x.a1)) h)) .no
def p60:Ans:=fnAns dec60 alt60
theorem ha60:∀(x:A60) (h:Hp)(o:Out),(alt60 x h).out=some o→∃r,(rt60 x.a0 x.a1).val=some r∧o=.ret (en60 r) h:=by
 intro x h o e;unfold alt60 at e;simp only[AT.out]at e;obtain ⟨g,e⟩:=cond_some e;unfold F60_ok at g;obtain ⟨r,hF⟩:=Option.isSome_iff_exists.1 g
 refine ⟨r,by delta F60 at hF;exact hF,?_⟩
 simp only[Option.some.injEq]at e;rw[← e]
 unfold F60_0;rw[hF]<;>rfl
theorem hd60:∀(t:Task) (x:A60)(h:Hp),dec60 t=some (x,h)→t=.call 60 ⟨[(.agg ⟨[(.int .i64 x.a0),(.int .i64 x.a1)]⟩)]⟩ h:=by
 intro t x h e;unfold dec60 at e
 split at e
 case h_2=>cases e
 split at e
 case h_2=>cases e
 rename_i hg;simp only[Option.some.injEq,Prod.mk.injEq]at e;obtain ⟨rfl,rfl⟩:=e;rw[Nat.eq_of_beq_eq_true hg]
theorem known60:Known Try.prog p60:=by
 exact Known.fn noNG mixed known48 (n:=60) (zs:=[0]) 60 (fun x:A60=>[(.agg ⟨[(.int .i64 x.a0),(.int .i64 x.a1)]⟩)]) (fun x=>rt60 x.a0 x.a1) en60 (fun x=>T60  x.a0 x.a1) (fun x=>rfl) dec60 alt60 hd60 ha60
structure R96 where
 (r0 r1:Int)
structure A96 where
 (a0 a1:Int)
 (a2 a3:Int)
def rt96 (a0 a1:Int)(a2 a3:Int):RT R96 :=
 .leaf ⟨(min a0 a2),(max a1 a3)⟩
def en96 (r:R96):Value:=(.agg ⟨[(.int .i64 r.r0),(.int .i64 r.r1)]⟩)
theorem T96  (a0 a1:Int) (a2 a3:Int):evC Try.prog (Ans.c (fun _=>none:Ans)) 60 (.call 96 ⟨[(.agg ⟨[(.int .i64 a0),(.int .i64 a1)]⟩),(.agg ⟨[(.int .i64 a2),(.int .i64 a3)]⟩)]⟩ ⟨[],0,[]⟩) (frzK [0])=(rt96 a0 a1 a2 a3).out (fun r=>.ret (en96 r) ⟨[],0,[]⟩):=by kernel_rfl
def F96 (a0 a1:Int)(a2 a3:Int):Option R96:=(rt96 a0 a1 a2 a3).val
section
variable (a0 a1:Int) (a2 a3:Int)
def F96_ok:Bool:=(F96 a0 a1 a2 a3).isSome
def F96_0:Int:=match F96 a0 a1 a2 a3 with | some r=>r.r0 | none=>0
def F96_1:Int:=match F96 a0 a1 a2 a3 with | some r=>r.r1 | none=>0
end
def dec96:Task→Option (A96×Hp)
 | .call g ⟨[(.agg ⟨[(.int .i64 a0),(.int .i64 a1)]⟩),(.agg ⟨[(.int .i64 a2),(.int .i64 a3)]⟩)]⟩ h=>(match Nat.beq g 96 with | true=>some (⟨a0,a1,a2,a3⟩,h) | false=>none)
 | _=>none
def alt96 (x:A96)(h:Hp):AT:=.br (F96_ok x.a0 x.a1 x.a2 x.a3) (.leaf (.ret (.agg ⟨[(.int .i64 (F96_0 x.a0 x.a1 x.a2 x.a3)),(.int .i64 (F96_1 x.a0 x.a1 x.a2 x.a3))]⟩) h)) .no
def p96:Ans:=fnAns dec96 alt96
theorem ha96:∀(x:A96) (h:Hp)(o:Out),(alt96 x h).out=some o→∃r,(rt96 x.a0 x.a1 x.a2 x.a3).val=some r∧o=.ret (en96 r) h:=by
 intro x h o e;unfold alt96 at e;simp only[AT.out]at e;obtain ⟨g,e⟩:=cond_some e;unfold F96_ok at g;obtain ⟨r,hF⟩:=Option.isSome_iff_exists.1 g
 refine ⟨r,by delta F96 at hF;exact hF,?_⟩
 simp only[Option.some.injEq]at e;rw[← e]
 unfold F96_0 F96_1;rw[hF]<;>rfl
theorem hd96:∀(t:Task) (x:A96)(h:Hp),dec96 t=some (x,h)→t=.call 96 ⟨[(.agg ⟨[(.int .i64 x.a0),(.int .i64 x.a1)]⟩),(.agg ⟨[(.int .i64 x.a2),(.int .i64 x.a3)]⟩)]⟩ h:=by
 intro t x h e;unfold dec96 at e
 split at e
 case h_2=>cases e
 split at e
 case h_2=>cases e
 rename_i hg;simp only[Option.some.injEq,Prod.mk.injEq]at e;obtain ⟨rfl,rfl⟩:=e;rw[Nat.eq_of_beq_eq_true hg]
theorem known96:Known Try.prog p96:=by
 exact Known.fn noNG mixed (Known.nothing Try.prog) (n:=60) (zs:=[0]) 96 (fun x:A96=>[(.agg ⟨[(.int .i64 x.a0),(.int .i64 x.a1)]⟩),(.agg ⟨[(.int .i64 x.a2),(.int .i64 x.a3)]⟩)]) (fun x=>rt96 x.a0 x.a1 x.a2 x.a3) en96 (fun x=>T96  x.a0 x.a1 x.a2 x.a3) (fun x=>rfl) dec96 alt96 hd96 ha96
structure R94 where
 (r0 r1:Int)
 (r2 r3:Int)
structure A94 where
 (a0 a1:Int)
 (a2 a3:Int)
 (a4 a5:Int)
 (a6 a7:Int)
def rt94 (a0 a1:Int)(a2 a3:Int)(a4 a5:Int)(a6 a7:Int):RT R94 :=
 mq a2 (mq a3 (mq a2 (mq a3 (mq a6 (mq a7 (mq a6 (mq a7 (.leaf ⟨(F96_0 a0 a1 a4 a5),(F96_1 a0 a1 a4 a5),(F96_0 a2 a3 a6 a7),(F96_1 a2 a3 a6 a7)⟩))))))))
def en94 (r:R94):Value:=(.agg ⟨[(.int .i64 r.r0),(.int .i64 r.r1),(.int .i64 r.r2),(.int .i64 r.r3)]⟩)
theorem T94  (a0 a1:Int) (a2 a3:Int) (a4 a5:Int) (a6 a7:Int):evC Try.prog (Ans.c p96) 60 (.call 94 ⟨[(.agg ⟨[(.int .i64 a0),(.int .i64 a1),(.int .i64 a2),(.int .i64 a3)]⟩),(.agg ⟨[(.int .i64 a4),(.int .i64 a5),(.int .i64 a6),(.int .i64 a7)]⟩)]⟩ ⟨[],0,[]⟩) (frzK [0])=(rt94 a0 a1 a2 a3 a4 a5 a6 a7).out (fun r=>.ret (en94 r) ⟨[],0,[]⟩):=by kernel_rfl
def F94 (a0 a1:Int)(a2 a3:Int)(a4 a5:Int)(a6 a7:Int):Option R94:=(rt94 a0 a1 a2 a3 a4 a5 a6 a7).val
section
variable (a0 a1:Int) (a2 a3:Int) (a4 a5:Int) (a6 a7:Int)
def F94_ok:Bool:=(F94 a0 a1 a2 a3 a4 a5 a6 a7).isSome
def F94_0:Int:=match F94 a0 a1 a2 a3 a4 a5 a6 a7 with | some r=>r.r0 | none=>0
def F94_1:Int:=match F94 a0 a1 a2 a3 a4 a5 a6 a7 with | some r=>r.r1 | none=>0
def F94_2:Int:=match F94 a0 a1 a2 a3 a4 a5 a6 a7 with | some r=>r.r2 | none=>0
def F94_3:Int:=match F94 a0 a1 a2 a3 a4 a5 a6 a7 with | some r=>r.r3 | none=>0
end
def dec94:Task→Option (A94×Hp)
 | .call g ⟨[(.agg ⟨[(.int .i64 a0),(.int .i64 a1),(.int .i64 a2),(.int .i64 a3)]⟩),(.agg ⟨[(.int .i64 a4),(.int .i64 a5),(.int .i64 a6),(.int .i64 a7)]⟩)]⟩ h=>(match Nat.beq g 94 with | true=>some (⟨a0,a1,a2,a3,a4,a5,a6,a7⟩,h) | false=>none)
 | _=>none
def alt94 (x:A94)(h:Hp):AT:=.br (F94_ok x.a0 x.a1 x.a2 x.a3 x.a4 x.a5 x.a6 x.a7) (.leaf (.ret (.agg ⟨[(.int .i64 (F94_0 x.a0 x.a1 x.a2 x.a3 x.a4 x.a5 x.a6 x.a7)),(.int .i64 (F94_1 x.a0 x.a1 x.a2 x.a3 x.a4 x.a5 x.a6 x.a7)),(.int .i64 (F94_2 x.a0 x.a1 x.a2 x.a3 x.a4 x.a5 x.a6 x.a7)),(.int .i64 (F94_3 x.a0 x.a1 x.a2 x.a3 x.a4 x.a5 x.a6 x.a7))]⟩) h)) .no
def p94:Ans:=fnAns dec94 alt94
theorem ha94:∀(x:A94) (h:Hp)(o:Out),(alt94 x h).out=some o→∃r,(rt94 x.a0 x.a1 x.a2 x.a3 x.a4 x.a5 x.a6 x.a7).val=some r∧o=.ret (en94 r) h:=by
 intro x h o e;unfold alt94 at e;simp only[AT.out]at e;obtain ⟨g,e⟩:=cond_some e;unfold F94_ok at g;obtain ⟨r,hF⟩:=Option.isSome_iff_exists.1 g
 refine ⟨r,by delta F94 at hF;exact hF,?_⟩
 simp only[Option.some.injEq]at e;rw[← e]
 unfold F94_0 F94_1 F94_2 F94_3;rw[hF]<;>rfl
theorem hd94:∀(t:Task) (x:A94)(h:Hp),dec94 t=some (x,h)→t=.call 94 ⟨[(.agg ⟨[(.int .i64 x.a0),(.int .i64 x.a1),(.int .i64 x.a2),(.int .i64 x.a3)]⟩),(.agg ⟨[(.int .i64 x.a4),(.int .i64 x.a5),(.int .i64 x.a6),(.int .i64 x.a7)]⟩)]⟩ h:=by
 intro t x h e;unfold dec94 at e
 split at e
 case h_2=>cases e
 split at e
 case h_2=>cases e
 rename_i hg;simp only[Option.some.injEq,Prod.mk.injEq]at e;obtain ⟨rfl,rfl⟩:=e;rw[Nat.eq_of_beq_eq_true hg]
theorem known94:Known Try.prog p94:=by
 exact Known.fn noNG mixed known96 (n:=60) (zs:=[0]) 94 (fun x:A94=>[(.agg ⟨[(.int .i64 x.a0),(.int .i64 x.a1),(.int .i64 x.a2),(.int .i64 x.a3)]⟩),(.agg ⟨[(.int .i64 x.a4),(.int .i64 x.a5),(.int .i64 x.a6),(.int .i64 x.a7)]⟩)]) (fun x=>rt94 x.a0 x.a1 x.a2 x.a3 x.a4 x.a5 x.a6 x.a7) en94 (fun x=>T94  x.a0 x.a1 x.a2 x.a3 x.a4 x.a5 x.a6 x.a7) (fun x=>rfl) dec94 alt94 hd94 ha94
structure X61_0 where
 (v0:Array Value)
 (v1 v2:Nat)
 (v3:Bool)
 (v4 v5:Int)
 (v6 v7:Int)
 (v8 v9:Int)
 (v10 v11:Int)
 (v12 v13 v14:Int)
inductive D61_0 where
 | k0 (d0 d1:Int) (d2 d3:Int) (d4 d5:Int) (d6 d7:Int) (d8 d9:Int)
def Lp61_0:LoopOf X61_0 D61_0 where
 c:=(theLoop Try.prog 61 0)
 N:=62
 M:=3
 S:=[0,3,4,5,6,7]
 sl:=fun x=>[(lstV x.v0 x.v1 x.v2 6),(Value.pointer (Option.some (Addr.mk 0 0 Option.none))),(Value.pointer (Option.some (Addr.mk 1 0 Option.none))),(Value.pointer (Option.some (Addr.mk 2 0 Option.none))),(.bool x.v3),(.int .i64 x.v4)]
 hp:=fun x=>[.cells ⟨[(.int .i64 x.v5),(.int .i64 x.v6)]⟩ false,.cells ⟨[(.int .i64 x.v7),(.int .i64 x.v8),(.int .i64 x.v9),(.int .i64 x.v10)]⟩ false,.cells ⟨[(.int .i64 x.v11),(.int .i64 x.v12),(.int .i64 x.v13),(.int .i64 x.v14)]⟩ false]
 ex:=fun d=>match d with | .k0 ..=>.exit 0
 pick:=fun e=>match e with | .exit 0=>[4,5] | _=>[]
 dv:=fun d=>match d with | .k0 d0 d1 d2 d3 d4 d5 d6 d7 d8 d9=>[(Value.pointer (Option.some (Addr.mk 1 0 Option.none))),(Value.pointer (Option.some (Addr.mk 2 0 Option.none)))]
 dh:=fun d=>match d with | .k0 d0 d1 d2 d3 d4 d5 d6 d7 d8 d9=>[.cells ⟨[(.int .i64 d0),(.int .i64 d1)]⟩ false,.cells ⟨[(.int .i64 d2),(.int .i64 d3),(.int .i64 d4),(.int .i64 d5)]⟩ false,.cells ⟨[(.int .i64 d6),(.int .i64 d7),(.int .i64 d8),(.int .i64 d9)]⟩ false]
theorem ok61_0:Lp61_0.Ok:=⟨fun x=>rfl,fun x=>rfl,fun x=>rfl,fun x=>rfl,fun d=>by cases d<;>rfl,fun d=>by cases d<;>rfl,fun d=>by cases d<;>rfl,fun d=>by cases d<;>(intro h;cases h),fun d=>by cases d<;>rfl,fun d=>by cases d<;>rfl⟩
def rd61_0 (x:X61_0):RT (Sum X61_0 D61_0):=match x with
 | ⟨v0,v1,v2,v3,v4,v5,v6,v7,v8,v9,v10,v11,v12,v13,v14⟩ =>let u0:=(getInt v0 ((((((v1+((Int.toNat v4)*6))+1)+1)+1)+1)+1));let u1:=(getInt v0 (((((v1+((Int.toNat v4)*6))+1)+1)+1)+1));let u2:=(getInt v0 ((((v1+((Int.toNat v4)*6))+1)+1)+1));let u3:=(getInt v0 (((v1+((Int.toNat v4)*6))+1)+1));let u4:=(IntKind.wrap .i64 (v4+(1:Int)));let u5:=(Leaf.int .i64);
   .br (decide (v4<(Int.ofNat v2))) (.br (and (decide ((0:Int)≤v4)) (decide (v4<(Int.ofNat v2)))) (.br (rdOk v0 [u5,u5,u5,u5,u5,u5] (v1+((Int.toNat v4)*6))) (.br (decide (v6<(getInt v0 (v1+((Int.toNat v4)*6))))) (.br (decide ((0:Int)<v4)) (.leaf (.inl ⟨v0,v1,v2,v3,u4,v5,v6,v7,v8,v9,v10,v11,v12,v13,v14⟩)) (.br (decide ((getInt v0 ((v1+((Int.toNat v4)*6))+1))≤v5)) (.leaf (.inl ⟨v0,v1,v2,v3,u4,v5,v6,v7,v8,v9,v10,v11,v12,v13,v14⟩)) (.br v3
   (.br (F94_ok v11 v12 v13 v14 u3 u2 u1 u0) (.leaf (.inl ⟨v0,v1,v2,true,u4,v5,v6,v7,v8,v9,v10,(F94_0 v11 v12 v13 v14 u3 u2 u1 u0),(F94_1 v11 v12 v13 v14 u3 u2 u1 u0),(F94_2 v11 v12 v13 v14 u3 u2 u1 u0),(F94_3 v11 v12 v13 v14 u3 u2 u1 u0)⟩)) (.no)) (.leaf (.inl ⟨v0,v1,v2,true,u4,v5,v6,v7,v8,v9,v10,u3,u2,u1,u0⟩)))))
   (.br (decide ((getInt v0 ((v1+((Int.toNat v4)*6))+1))≤v5)) (.leaf (.inl ⟨v0,v1,v2,v3,u4,v5,v6,v7,v8,v9,v10,v11,v12,v13,v14⟩)) (.br v3
   (.br (F94_ok v11 v12 v13 v14 u3 u2 u1 u0) (.leaf (.inl ⟨v0,v1,v2,true,u4,v5,v6,v7,v8,v9,v10,(F94_0 v11 v12 v13 v14 u3 u2 u1 u0),(F94_1 v11 v12 v13 v14 u3 u2 u1 u0),(F94_2 v11 v12 v13 v14 u3 u2 u1 u0),(F94_3 v11 v12 v13 v14 u3 u2 u1 u0)⟩)) (.no)) (.leaf (.inl ⟨v0,v1,v2,true,u4,v5,v6,v7,v8,v9,v10,u3,u2,u1,u0⟩))))) (.no)) (.no)) (.leaf (.inr (.k0 v5 v6 v7 v8 v9 v10 v11 v12 v13 v14)))
theorem T61_0  (y:List Value) (v0:Array Value) (v1 v2:Nat) (v3:Bool) (v4 v5:Int) (v6 v7:Int) (v8 v9:Int) (v10 v11:Int) (v12 v13 v14:Int):evC Try.prog (Ans.c p94) 60 (.code none (theLoop Try.prog 61 0) ⟨sets (junkF 62 y) [(0,(lstV v0 v1 v2 6)),(3,(Value.pointer (some (Addr.mk 0 0 none)))),(4,(Value.pointer (some (Addr.mk 1 0 none)))),(5,(Value.pointer (some (Addr.mk 2 0 none)))),(6,(.bool v3)),(7,(.int .i64 v4))],[],⟨[.cells ⟨[(.int .i64 v5),(.int .i64 v6)]⟩ false,.cells ⟨[(.int .i64 v7),(.int .i64 v8),(.int .i64 v9),(.int .i64 v10)]⟩ false,.cells ⟨[(.int .i64 v11),(.int .i64 v12),(.int .i64 v13),(.int .i64 v14)]⟩ false],0,[]⟩⟩) (sumK 3 62 Lp61_0.pk)=(rd61_0 ⟨v0,v1,v2,v3,v4,v5,v6,v7,v8,v9,v10,v11,v12,v13,v14⟩).out Lp61_0.enc:=by kernel_rfl
def L61_0 (x:X61_0):Option D61_0:=loopR rd61_0 x
section
variable (x:X61_0)
def L61_0_k0:Bool:=match L61_0 x with | some (.k0 ..)=>true | _=>false
def Qt0:Int:=match L61_0 x with | some (.k0 (d0:=d) ..)=>d | _=>0
def Qt1:Int:=match L61_0 x with | some (.k0 (d1:=d) ..)=>d | _=>0
def Qt2:Int:=match L61_0 x with | some (.k0 (d2:=d) ..)=>d | _=>0
def Qt3:Int:=match L61_0 x with | some (.k0 (d3:=d) ..)=>d | _=>0
def Qt4:Int:=match L61_0 x with | some (.k0 (d4:=d) ..)=>d | _=>0
def Qt5:Int:=match L61_0 x with | some (.k0 (d5:=d) ..)=>d | _=>0
def Qt6:Int:=match L61_0 x with | some (.k0 (d6:=d) ..)=>d | _=>0
def Qt7:Int:=match L61_0 x with | some (.k0 (d7:=d) ..)=>d | _=>0
def Qt8:Int:=match L61_0 x with | some (.k0 (d8:=d) ..)=>d | _=>0
def Qt9:Int:=match L61_0 x with | some (.k0 (d9:=d) ..)=>d | _=>0
end
def dec61_0:Task→Option (Code×X61_0)
 | .code none (.loop code) ⟨t,[],⟨[.cells ⟨[(.int .i64 v5),(.int .i64 v6)]⟩ false,.cells ⟨[(.int .i64 v7),(.int .i64 v8),(.int .i64 v9),(.int .i64 v10)]⟩ false,.cells ⟨[(.int .i64 v11),(.int .i64 v12),(.int .i64 v13),(.int .i64 v14)]⟩ false],0,[]⟩⟩ =>
  (match Nat.beq (firstReg code) 4,lenIs t 62,lget t 0,lget t 3,lget t 4,lget t 5,lget t 6,lget t 7 with
  | true,true,(.func (.via 0 ⟨[]⟩ 0 true) v0 ⟨[.slice (some ⟨0,v1,none⟩) v2 6]⟩),(Value.pointer (Option.some (Addr.mk 0 0 Option.none))),(Value.pointer (Option.some (Addr.mk 1 0 Option.none))),(Value.pointer (Option.some (Addr.mk 2 0 Option.none))),(.bool v3),(.int .i64 v4)=>some (code,⟨v0,v1,v2,v3,v4,v5,v6,v7,v8,v9,v10,v11,v12,v13,v14⟩)
  | _,_,_,_,_,_,_,_=>none)
 | _=>none
def alt61_0 (x:X61_0)(j:List Value):AT:=.br (L61_0_k0 x) (loopEnd 62 (.exit 0) [(4,(Value.pointer (Option.some (Addr.mk 1 0 Option.none)))),(5,(Value.pointer (Option.some (Addr.mk 2 0 Option.none))))] ⟨[.cells ⟨[(.int .i64 (Qt0 x)),(.int .i64 (Qt1 x))]⟩ false,.cells ⟨[(.int .i64 (Qt2 x)),(.int .i64 (Qt3 x)),(.int .i64 (Qt4 x)),(.int .i64 (Qt5 x))]⟩ false,.cells ⟨[(.int .i64 (Qt6 x)),(.int .i64 (Qt7 x)),(.int .i64 (Qt8 x)),(.int .i64 (Qt9 x))]⟩ false],0,[]⟩ j) (.no)
def la61_0 (J:Task→List Value):Ans:=loopAns Lp61_0.c dec61_0 alt61_0 J
theorem ha61_0:∀(x:X61_0) (j:List Value)(o:Out),(alt61_0 x j).out=some o→∃d,loopR rd61_0 x=some d∧o=Lp61_0.tail d j:=by
 intro x j o h;unfold alt61_0 at h
 cases hL:L61_0 x with
 | none=>simp [L61_0_k0,Qt0,Qt1,Qt2,Qt3,Qt4,Qt5,Qt6,Qt7,Qt8,Qt9,hL,AT.out]at h
 | some d =>
  refine ⟨d,hL,?_⟩
  cases d<;>(simp only[L61_0_k0,Qt0,Qt1,Qt2,Qt3,Qt4,Qt5,Qt6,Qt7,Qt8,Qt9,hL,AT.out,loopEnd,cond_true,cond_false,Option.some.injEq]at h;rw[← h];rfl)
theorem hd61_0:∀(t:Task) (c:Code)(x:X61_0),dec61_0 t=some (c,x)→c=Lp61_0.c→∃T,t=.code none (.loop Lp61_0.c) ⟨T,[],⟨Lp61_0.hp x,0,[]⟩⟩∧T.length=Lp61_0.N∧∀kv∈Lp61_0.S.zip (Lp61_0.sl x),lget T kv.1=kv.2:=by
 intro t c x h hc;unfold dec61_0 at h
 split at h
 case h_2=>cases h
 split at h
 case h_2=>cases h
 simp only[Option.some.injEq,Prod.mk.injEq]at h;obtain ⟨rfl,rfl⟩:=h;subst hc
 refine ⟨_,rfl,lenIs_eq _ _ (by assumption),?_⟩
 intro kv hk;simp only[Lp61_0,List.zip_cons_cons,List.zip_nil_right,List.mem_cons,List.not_mem_nil,or_false]at hk
 rcases hk with rfl | rfl | rfl | rfl | rfl | rfl<;>assumption
theorem kl61_0:∃J,Known Try.prog (la61_0 J):=by
 exact LoopOf.known noNG mixed ok61_0 (by decide) (by decide) known94 (n:=60) (rd:=rd61_0) (fun x j=>T61_0  j x.v0 x.v1 x.v2 x.v3 x.v4 x.v5 x.v6 x.v7 x.v8 x.v9 x.v10 x.v11 x.v12 x.v13 x.v14) dec61_0 alt61_0 hd61_0 ha61_0
structure R61 where
 (r0 r1:Int)
 (r2 r3:Int)
structure A61 where
 (a0:Array Value)
 (a1 a2:Nat)
 (a3 a4:Int)
def rt61 (a0:Array Value)(a1 a2:Nat)(a3 a4:Int):RT R61 :=let u1:=(IntKind.wrap .i64 ((Int.ofNat a2)-(1:Int)));let u0:=(getInt a0 ((a1+((Int.toNat u1)*6))+1));
 .br (decide ((Int.ofNat a2)=(0:Int)))
 (.sw (eqCode (Lp61_0.c) (Lp61_0.c)) true (by simp only[eqCode_self,arrEq_self]) (.br (L61_0_k0 (X61_0.mk a0 a1 a2 true (0:Int) a3 a4 (0:Int) (0:Int) (0:Int) (0:Int) (0:Int) (0:Int) (0:Int) (0:Int))) (.leaf ⟨(Qt6 (X61_0.mk a0 a1 a2 true (0:Int) a3 a4 (0:Int) (0:Int) (0:Int) (0:Int) (0:Int) (0:Int) (0:Int) (0:Int))),(Qt7 (X61_0.mk a0 a1 a2 true (0:Int) a3 a4 (0:Int) (0:Int) (0:Int) (0:Int) (0:Int) (0:Int) (0:Int) (0:Int))),(Qt8 (X61_0.mk a0 a1 a2 true (0:Int) a3 a4 (0:Int) (0:Int) (0:Int) (0:Int) (0:Int) (0:Int) (0:Int) (0:Int))),(Qt9 (X61_0.mk a0 a1 a2 true (0:Int) a3 a4 (0:Int) (0:Int) (0:Int) (0:Int) (0:Int) (0:Int) (0:Int) (0:Int)))⟩) (.no)) (.no)) (.br (and (decide ((0:Int)≤u1)) (decide (u1<(Int.ofNat a2)))) (.br (isInt .i64 a0 ((a1+((Int.toNat u1)*6))+1))
  (.sw (eqCode (Lp61_0.c) (Lp61_0.c)) true (by simp only[eqCode_self,arrEq_self])
   (.br (L61_0_k0 (X61_0.mk a0 a1 a2 (decide (u0≤a4)) (0:Int) a3 a4 (0:Int) (0:Int) (0:Int) (0:Int) (0:Int) (0:Int) (0:Int) (0:Int))) (.leaf ⟨(Qt6 (X61_0.mk a0 a1 a2 (decide (u0≤a4)) (0:Int) a3 a4 (0:Int) (0:Int) (0:Int) (0:Int) (0:Int) (0:Int) (0:Int) (0:Int))),(Qt7 (X61_0.mk a0 a1 a2 (decide (u0≤a4)) (0:Int) a3 a4 (0:Int) (0:Int) (0:Int) (0:Int) (0:Int) (0:Int) (0:Int) (0:Int))),(Qt8 (X61_0.mk a0 a1 a2 (decide (u0≤a4)) (0:Int) a3 a4 (0:Int) (0:Int) (0:Int) (0:Int) (0:Int) (0:Int) (0:Int) (0:Int))),(Qt9 (X61_0.mk a0 a1 a2 (decide (u0≤a4)) (0:Int) a3 a4 (0:Int) (0:Int) (0:Int) (0:Int) (0:Int) (0:Int) (0:Int) (0:Int)))⟩) (.no)) (.no)) (.no)) (.no))
def en61 (r:R61):Value:=(.agg ⟨[(.int .i64 r.r0),(.int .i64 r.r1),(.int .i64 r.r2),(.int .i64 r.r3)]⟩)
theorem T61 (J0:Task→List Value)(a0:Array Value)(a1 a2:Nat)(a3 a4:Int):evC Try.prog (Ans.c (p94.or (la61_0 J0))) 60 (.call 61 ⟨[(lstV a0 a1 a2 6),(.agg ⟨[(.int .i64 a3),(.int .i64 a4)]⟩)]⟩ ⟨[],0,[]⟩) (frzK [0])=(rt61 a0 a1 a2 a3 a4).out (fun r=>.ret (en61 r) ⟨[],0,[]⟩):=by kernel_rfl
def F61 (a0:Array Value)(a1 a2:Nat)(a3 a4:Int):Option R61:=(rt61 a0 a1 a2 a3 a4).val
section
variable (a0:Array Value) (a1 a2:Nat) (a3 a4:Int)
def F61_ok:Bool:=(F61 a0 a1 a2 a3 a4).isSome
def F61_0:Int:=match F61 a0 a1 a2 a3 a4 with | some r=>r.r0 | none=>0
def F61_1:Int:=match F61 a0 a1 a2 a3 a4 with | some r=>r.r1 | none=>0
def F61_2:Int:=match F61 a0 a1 a2 a3 a4 with | some r=>r.r2 | none=>0
def F61_3:Int:=match F61 a0 a1 a2 a3 a4 with | some r=>r.r3 | none=>0
end
def dec61:Task→Option (A61×Hp)
 | .call g ⟨[(.func (.via 0 ⟨[]⟩ 0 true) a0 ⟨[.slice (some ⟨0,a1,none⟩) a2 6]⟩),(.agg ⟨[(.int .i64 a3),(.int .i64 a4)]⟩)]⟩ h=>(match Nat.beq g 61 with | true=>some (⟨a0,a1,a2,a3,a4⟩,h) | false=>none)
 | _=>none
def alt61 (x:A61)(h:Hp):AT:=.br (F61_ok x.a0 x.a1 x.a2 x.a3 x.a4) (.leaf (.ret (.agg ⟨[(.int .i64 (F61_0 x.a0 x.a1 x.a2 x.a3 x.a4)),(.int .i64 (F61_1 x.a0 x.a1 x.a2 x.a3 x.a4)),(.int .i64 (F61_2 x.a0 x.a1 x.a2 x.a3 x.a4)),(.int .i64 (F61_3 x.a0 x.a1 x.a2 x.a3 x.a4))]⟩) h)) .no
def p61:Ans:=fnAns dec61 alt61
theorem ha61:∀(x:A61) (h:Hp)(o:Out),(alt61 x h).out=some o→∃r,(rt61 x.a0 x.a1 x.a2 x.a3 x.a4).val=some r∧o=.ret (en61 r) h:=by
 intro x h o e;unfold alt61 at e;simp only[AT.out]at e;obtain ⟨g,e⟩:=cond_some e;unfold F61_ok at g;obtain ⟨r,hF⟩:=Option.isSome_iff_exists.1 g
 refine ⟨r,by delta F61 at hF;exact hF,?_⟩
 simp only[Option.some.injEq]at e;rw[← e]
 unfold F61_0 F61_1 F61_2 F61_3;rw[hF]<;>rfl
theorem hd61:∀(t:Task) (x:A61)(h:Hp),dec61 t=some (x,h)→t=.call 61 ⟨[(lstV x.a0 x.a1 x.a2 6),(.agg ⟨[(.int .i64 x.a3),(.int .i64 x.a4)]⟩)]⟩ h:=by
 intro t x h e;unfold dec61 at e
 split at e
 case h_2=>cases e
 split at e
 case h_2=>cases e
 rename_i hg;simp only[Option.some.injEq,Prod.mk.injEq]at e;obtain ⟨rfl,rfl⟩:=e;rw[Nat.eq_of_beq_eq_true hg]
theorem known61:Known Try.prog p61:=by
 obtain ⟨J0,hJ0⟩:=kl61_0
 exact Known.fn noNG mixed (Known.or known94 hJ0) (n:=60) (zs:=[0]) 61 (fun x:A61=>[(lstV x.a0 x.a1 x.a2 6),(.agg ⟨[(.int .i64 x.a3),(.int .i64 x.a4)]⟩)]) (fun x=>rt61 x.a0 x.a1 x.a2 x.a3 x.a4) en61 (fun x=>T61 J0 x.a0 x.a1 x.a2 x.a3 x.a4) (fun x=>rfl) dec61 alt61 hd61 ha61
structure R19 where
 (r0 r1:Int)
 (r2 r3 r4:Int)
structure A19 where
 (a0:Array Value)
 (a1 a2:Nat)
 (a3 a4:Int)
def rt19 (a0:Array Value)(a1 a2:Nat)(a3 a4:Int):RT R19 :=
 .br (F59_ok a0 a1 a2) (.br (decide ((F59_1 a0 a1 a2)=(0:Int))) (.br (F60_ok a3 a4) (.br (not (decide ((F60_0 a3 a4)=(0:Int)))) (.leaf ⟨(0:Int),(0:Int),(0:Int),(0:Int),(F60_0 a3 a4)⟩) (.br (F61_ok a0 a1 a2 a3 a4) (.leaf ⟨(F61_0 a0 a1 a2 a3 a4),(F61_1 a0 a1 a2 a3 a4),(F61_2 a0 a1 a2 a3 a4),(F61_3 a0 a1 a2 a3 a4),(0:Int)⟩) (.no))) (.no)) (.br (not (decide ((F59_1 a0 a1 a2)=(0:Int)))) (.leaf ⟨(0:Int),(0:Int),(0:Int),(0:Int),(F59_1 a0 a1 a2)⟩) (.br (F61_ok a0 a1 a2 a3 a4) (.leaf ⟨(F61_0 a0 a1 a2 a3 a4),(F61_1 a0 a1 a2 a3 a4),(F61_2 a0 a1 a2 a3 a4),(F61_3 a0 a1 a2 a3 a4),(0:Int)⟩) (.no)))) (.no)
def en19 (r:R19):Value:=(.tuple ⟨[(.agg ⟨[(.int .i64 r.r0),(.int .i64 r.r1),(.int .i64 r.r2),(.int .i64 r.r3)]⟩),(.int .i64 r.r4)]⟩)
theorem T19  (a0:Array Value) (a1 a2:Nat) (a3 a4:Int):evC Try.prog (Ans.c (p59.or (p60.or p61))) 60 (.call 19 ⟨[(lstV a0 a1 a2 6),(.agg ⟨[(.int .i64 a3),(.int .i64 a4)]⟩)]⟩ ⟨[],0,[]⟩) (frzK [0,0])=(rt19 a0 a1 a2 a3 a4).out (fun r=>.ret (en19 r) ⟨[],0,[]⟩):=by kernel_rfl
def F19 (a0:Array Value)(a1 a2:Nat)(a3 a4:Int):Option R19:=(rt19 a0 a1 a2 a3 a4).val
section
variable (a0:Array Value) (a1 a2:Nat) (a3 a4:Int)
def F19_ok:Bool:=(F19 a0 a1 a2 a3 a4).isSome
def F19_0:Int:=match F19 a0 a1 a2 a3 a4 with | some r=>r.r0 | none=>0
def F19_1:Int:=match F19 a0 a1 a2 a3 a4 with | some r=>r.r1 | none=>0
def F19_2:Int:=match F19 a0 a1 a2 a3 a4 with | some r=>r.r2 | none=>0
def F19_3:Int:=match F19 a0 a1 a2 a3 a4 with | some r=>r.r3 | none=>0
def F19_4:Int:=match F19 a0 a1 a2 a3 a4 with | some r=>r.r4 | none=>0
end
def dec19:Task→Option (A19×Hp)
 | .call g ⟨[(.func (.via 0 ⟨[]⟩ 0 true) a0 ⟨[.slice (some ⟨0,a1,none⟩) a2 6]⟩),(.agg ⟨[(.int .i64 a3),(.int .i64 a4)]⟩)]⟩ h=>(match Nat.beq g 19 with | true=>some (⟨a0,a1,a2,a3,a4⟩,h) | false=>none)
 | _=>none
def alt19 (x:A19)(h:Hp):AT:=.br (F19_ok x.a0 x.a1 x.a2 x.a3 x.a4) (.leaf (.ret (.tuple ⟨[(.agg ⟨[(.int .i64 (F19_0 x.a0 x.a1 x.a2 x.a3 x.a4)),(.int .i64 (F19_1 x.a0 x.a1 x.a2 x.a3 x.a4)),(.int .i64 (F19_2 x.a0 x.a1 x.a2 x.a3 x.a4)),(.int .i64 (F19_3 x.a0 x.a1 x.a2 x.a3 x.a4))]⟩),(.int .i64 (F19_4 x.a0 x.a1 x.a2 x.a3 x.a4))]⟩) h)) .no
def p19:Ans:=fnAns dec19 alt19
theorem ha19:∀(x:A19) (h:Hp)(o:Out),(alt19 x h).out=some o→∃r,(rt19 x.a0 x.a1 x.a2 x.a3 x.a4).val=some r∧o=.ret (en19 r) h:=by
 intro x h o e;unfold alt19 at e;simp only[AT.out]at e;obtain ⟨g,e⟩:=cond_some e;unfold F19_ok at g;obtain ⟨r,hF⟩:=Option.isSome_iff_exists.1 g
 refine ⟨r,by delta F19 at hF;exact hF,?_⟩
 simp only[Option.some.injEq]at e;rw[← e]
 unfold F19_0 F19_1 F19_2 F19_3 F19_4;rw[hF]<;>rfl
theorem hd19:∀(t:Task) (x:A19)(h:Hp),dec19 t=some (x,h)→t=.call 19 ⟨[(lstV x.a0 x.a1 x.a2 6),(.agg ⟨[(.int .i64 x.a3),(.int .i64 x.a4)]⟩)]⟩ h:=by
 intro t x h e;unfold dec19 at e
 split at e
 case h_2=>cases e
 split at e
 case h_2=>cases e
 rename_i hg;simp only[Option.some.injEq,Prod.mk.injEq]at e;obtain ⟨rfl,rfl⟩:=e;rw[Nat.eq_of_beq_eq_true hg]
theorem known19:Known Try.prog p19:=by
 exact Known.fn noNG mixed (Known.or known59 (Known.or known60 known61)) (n:=60) (zs:=[0,0]) 19 (fun x:A19=>[(lstV x.a0 x.a1 x.a2 6),(.agg ⟨[(.int .i64 x.a3),(.int .i64 x.a4)]⟩)]) (fun x=>rt19 x.a0 x.a1 x.a2 x.a3 x.a4) en19 (fun x=>T19  x.a0 x.a1 x.a2 x.a3 x.a4) (fun x=>rfl) dec19 alt19 hd19 ha19
structure R95 where
 (r0 r1:Int)
structure A95 where
 (a0:Int)
def rt95 (a0:Int):RT R95 :=
 .leaf ⟨a0,a0⟩
def en95 (r:R95):Value:=(.agg ⟨[(.int .i64 r.r0),(.int .i64 r.r1)]⟩)
theorem T95  (a0:Int):evC Try.prog (Ans.c (fun _=>none:Ans)) 60 (.call 95 ⟨[(.int .i64 a0)]⟩ ⟨[],0,[]⟩) (frzK [0])=(rt95 a0).out (fun r=>.ret (en95 r) ⟨[],0,[]⟩):=by kernel_rfl
def F95 (a0:Int):Option R95:=(rt95 a0).val
section
variable (a0:Int)
def F95_ok:Bool:=(F95 a0).isSome
def F95_0:Int:=match F95 a0 with | some r=>r.r0 | none=>0
def F95_1:Int:=match F95 a0 with | some r=>r.r1 | none=>0
end
def dec95:Task→Option (A95×Hp)
 | .call g ⟨[(.int .i64 a0)]⟩ h=>(match Nat.beq g 95 with | true=>some (⟨a0⟩,h) | false=>none)
 | _=>none
def alt95 (x:A95)(h:Hp):AT:=.br (F95_ok x.a0) (.leaf (.ret (.agg ⟨[(.int .i64 (F95_0 x.a0)),(.int .i64 (F95_1 x.a0))]⟩) h)) .no
def p95:Ans:=fnAns dec95 alt95
theorem ha95:∀(x:A95) (h:Hp)(o:Out),(alt95 x h).out=some o→∃r,(rt95 x.a0).val=some r∧o=.ret (en95 r) h:=by
 intro x h o e;unfold alt95 at e;simp only[AT.out]at e;obtain ⟨g,e⟩:=cond_some e;unfold F95_ok at g;obtain ⟨r,hF⟩:=Option.isSome_iff_exists.1 g
 refine ⟨r,by delta F95 at hF;exact hF,?_⟩
 simp only[Option.some.injEq]at e;rw[← e]
 unfold F95_0 F95_1;rw[hF]<;>rfl
theorem hd95:∀(t:Task) (x:A95)(h:Hp),dec95 t=some (x,h)→t=.call 95 ⟨[(.int .i64 x.a0)]⟩ h:=by
 intro t x h e;unfold dec95 at e
 split at e
 case h_2=>cases e
 split at e
 case h_2=>cases e
 rename_i hg;simp only[Option.some.injEq,Prod.mk.injEq]at e;obtain ⟨rfl,rfl⟩:=e;rw[Nat.eq_of_beq_eq_true hg]
theorem known95:Known Try.prog p95:=by
 exact Known.fn noNG mixed (Known.nothing Try.prog) (n:=60) (zs:=[0]) 95 (fun x:A95=>[(.int .i64 x.a0)]) (fun x=>rt95 x.a0) en95 (fun x=>T95  x.a0) (fun x=>rfl) dec95 alt95 hd95 ha95
structure X63_0 where
 own:Option (Array Value×Nat)
 (v0:Array Value)
 (v1 v2:Nat)
 (v3 v4:Int)
inductive D63_0 where
 | k0 (d0:Array Value) (d1 d2:Nat)
def Lp63_0:LoopG X63_0 D63_0 where
 c:=(theLoop Try.prog 63 0)
 N:=28
 M:=0
 S:=[6,7,8]
 os:=3
 sz:=3
 z:=3
 own:=fun x=>x.own
 sl:=fun x=>[(lstV x.v0 x.v1 x.v2 2),(.int .i64 x.v3),(.int .i64 x.v4)]
 hp:=fun x=>[]
 ex:=fun d=>match d with | .k0 ..=>.exit 0
 pick:=fun e=>match e with | .exit 0=>[3] | _=>[]
 dv:=fun d=>match d with | .k0 d0 d1 d2=>[(lstV d0 d1 d2 3)]
 dh:=fun d=>match d with | .k0 d0 d1 d2=>[]
theorem ok63_0:Lp63_0.OkG:=⟨⟨fun x=>rfl,fun x=>rfl,fun x=>rfl,fun x=>rfl,fun d=>by cases d<;>rfl,fun d=>by cases d<;>rfl,fun d=>by cases d<;>rfl,fun d=>by cases d<;>(intro h;cases h),fun d=>by cases d<;>rfl,fun d=>by cases d<;>rfl⟩,by decide,by decide,fun d=>match d with | .k0 ..=>(show ([3]:List Nat).Nodup by decide),fun d=>match d with | .k0 ..=>(show ∀k∈([3]:List Nat),k<28 by decide)⟩
def rd63_0 (x:X63_0):RT (Sum X63_0 D63_0):=match x with
 | ⟨none,v0,v1,v2,v3,v4⟩ =>let u0:=(getInt v0 (v1+((Int.toNat v4)*2)));
   .br (decide (v4<v3)) (.br (and (decide ((0:Int)≤v4)) (decide (v4<(Int.ofNat v2)))) (.br (rdOk v0 [(Leaf.int .i64),(Leaf.int .i64)] (v1+((Int.toNat v4)*2))) (mq u0 (mq u0 (.leaf (.inl ⟨(some (⟨[(.int .i64 u0),(.int .i64 (F95_0 (getInt v0 ((v1+((Int.toNat v4)*2))+1)))),(.int .i64 (F95_1 (getInt v0 ((v1+((Int.toNat v4)*2))+1))))]⟩,1)),v0,v1,v2,v3,(IntKind.wrap .i64 (v4+(1:Int)))⟩)))) (.no)) (.no)) (.leaf (.inr (.k0 (⟨[]⟩) 0 0)))
 | ⟨some (oa,ol),v0,v1,v2,v3,v4⟩ =>let u0:=(getInt v0 ((v1+((Int.toNat v4)*2))+1));let u1:=(getInt v0 (v1+((Int.toNat v4)*2)));
   .br (decide (v4<v3)) (.br (and (decide ((0:Int)≤v4)) (decide (v4<(Int.ofNat v2)))) (.br (rdOk v0 [(Leaf.int .i64),(Leaf.int .i64)] (v1+((Int.toNat v4)*2))) (.br (and (decide (((ol+1)*24)≤140737488355328)) (decide ((ol+1)≤4611686018427387904))) (.br (decide ((0+(ol*3))≤(Array.size oa))) (mq u1 (mq u1 (.br (allFz (apB (Array.extract oa 0 (0+(ol*3))) ⟨[(.int .i64 u1),(.int .i64 (F95_0 u0)),(.int .i64 (F95_1 u0))]⟩)) (.leaf (.inl ⟨(some ((apB (Array.extract oa 0 (0+(ol*3))) ⟨[(.int .i64 u1),(.int .i64 (F95_0 u0)),(.int .i64 (F95_1 u0))]⟩),(ol+1))),v0,v1,v2,v3,(IntKind.wrap .i64 (v4+(1:Int)))⟩)) (.no)))) (.no)) (.no)) (.no)) (.no)) (.br (and (allFz oa) (decide ((0+(ol*3))≤(Array.size oa)))) (.leaf (.inr (.k0 oa 0 ol))) (.no))
theorem T63_0n  (y:List Value) (v0:Array Value) (v1 v2:Nat) (v3 v4:Int):evC Try.prog (Ans.c p95) 60 (.code none (theLoop Try.prog 63 0) ⟨sets (junkF 28 y) [(3,.slice none 0 0),(6,(lstV v0 v1 v2 2)),(7,(.int .i64 v3)),(8,(.int .i64 v4))],[],⟨[],0,[]⟩⟩) (gK 28 0 3 3 [6,7,8] Lp63_0.pick)=(rd63_0 ⟨none,v0,v1,v2,v3,v4⟩).out Lp63_0.encG:=by kernel_rfl
theorem T63_0s  (y:List Value) (oa:Array Value) (ol:Nat) (v0:Array Value) (v1 v2:Nat) (v3 v4:Int):evC Try.prog (Ans.c p95) 60 (.code none (theLoop Try.prog 63 0) ⟨sets (junkF 28 y) [(3,.slice (some ⟨0,0,none⟩) ol 3),(6,(lstV v0 v1 v2 2)),(7,(.int .i64 v3)),(8,(.int .i64 v4))],[],⟨[.cells oa false],0,[]⟩⟩) (gK 28 0 3 3 [6,7,8] Lp63_0.pick)=(rd63_0 ⟨some (oa,ol),v0,v1,v2,v3,v4⟩).out Lp63_0.encG:=by kernel_rfl
theorem T63_0  (x:X63_0) (y:List Value):evC Try.prog (Ans.c p95) 60 (Lp63_0.headG x y) (gK Lp63_0.N Lp63_0.M Lp63_0.os Lp63_0.z Lp63_0.S Lp63_0.pick)=(rd63_0 x).out Lp63_0.encG:=by
 obtain ⟨own,v0,v1,v2,v3,v4⟩:=x
 cases own with
 | none=>exact T63_0n  y v0 v1 v2 v3 v4
 | some al=>obtain ⟨oa,ol⟩:=al;exact T63_0s  y oa ol v0 v1 v2 v3 v4
def L63_0 (x:X63_0):Option D63_0:=loopR rd63_0 x
section
variable (x:X63_0)
def L63_0_k0:Bool:=match L63_0 x with | some (.k0 ..)=>true | _=>false
def Qu0:Array Value:=match L63_0 x with | some (.k0 d _ _)=>d | _=>#[]
def Qu1:Nat:=match L63_0 x with | some (.k0 _ d _)=>d | _=>0
def Qu2:Nat:=match L63_0 x with | some (.k0 _ _ d)=>d | _=>0
end
def dec63_0:Task→Option (Code×X63_0)
 | .code none (.loop code) ⟨t,[],⟨[],0,[]⟩⟩ =>
  (match Nat.beq (firstReg code) 3,lenIs t 28,lget t 3,lget t 6,lget t 7,lget t 8 with
  | true,true,.slice none 0 0,(.func (.via 0 ⟨[]⟩ 0 true) v0 ⟨[.slice (some ⟨0,v1,none⟩) v2 2]⟩),(.int .i64 v3),(.int .i64 v4)=>some (code,⟨none,v0,v1,v2,v3,v4⟩)
  | _,_,_,_,_,_=>none)
 | .code none (.loop code) ⟨t,[],⟨[.cells oa false],0,[]⟩⟩ =>
  (match Nat.beq (firstReg code) 3,lenIs t 28,lget t 3,lget t 6,lget t 7,lget t 8 with
  | true,true,.slice (some ⟨0,0,none⟩) ol 3,(.func (.via 0 ⟨[]⟩ 0 true) v0 ⟨[.slice (some ⟨0,v1,none⟩) v2 2]⟩),(.int .i64 v3),(.int .i64 v4)=>some (code,⟨(some (oa,ol)),v0,v1,v2,v3,v4⟩)
  | _,_,_,_,_,_=>none)
 | _=>none
def alt63_0 (x:X63_0)(j:List Value):AT:=match x.own with
 | none=>.br (L63_0_k0 x) (loopEnd 28 (.exit 0) [(3,(lstV (Qu0 x) (Qu1 x) (Qu2 x) 3))] ⟨[],0,[]⟩ j) (.no)
 | some (oa,ol)=>.br (allFz oa) (.br (L63_0_k0 x) (loopEnd 28 (.exit 0) [(3,(lstV (Qu0 x) (Qu1 x) (Qu2 x) 3))] ⟨[.dead],0,[]⟩ j) (.no)) .no
def la63_0 (J:Task→List Value):Ans:=loopAns Lp63_0.c dec63_0 alt63_0 J
theorem ha63_0:∀(x:X63_0) (j:List Value)(o:Out),(alt63_0 x j).out=some o→(∀a l,Lp63_0.own x=some (a,l)→allFz a=true)∧∃d,loopR rd63_0 x=some d∧o=Lp63_0.tailG x d j:=by
 intro x j o h;obtain ⟨own,v0,v1,v2,v3,v4⟩:=x
 cases own with
 | none =>
  refine ⟨fun a l e=>(by cases e),?_⟩
  cases hL:L63_0 ⟨none,v0,v1,v2,v3,v4⟩ with
  | none=>simp [alt63_0,L63_0_k0,Qu0,Qu1,Qu2,hL,AT.out]at h
  | some d =>
   refine ⟨d,hL,?_⟩
   cases d<;>(simp only[alt63_0,L63_0_k0,Qu0,Qu1,Qu2,hL,AT.out,loopEnd,cond_true,cond_false,Option.some.injEq]at h;rw[← h];rfl)
 | some al =>
  obtain ⟨oa,ol⟩:=al
  obtain ⟨h1,h⟩:=cond_some (show cond (allFz oa) _ none=some o from h)
  refine ⟨fun a l e=>(by cases e;exact h1),?_⟩
  cases hL:L63_0 ⟨some (oa,ol),v0,v1,v2,v3,v4⟩ with
  | none=>simp [L63_0_k0,Qu0,Qu1,Qu2,hL,AT.out]at h
  | some d =>
   refine ⟨d,hL,?_⟩
   cases d<;>(simp only[L63_0_k0,Qu0,Qu1,Qu2,hL,AT.out,loopEnd,cond_true,cond_false,Option.some.injEq]at h;rw[← h];rfl)
theorem hd63_0:∀(t:Task) (c:Code)(x:X63_0),dec63_0 t=some (c,x)→c=Lp63_0.c→∃T,t=.code none (.loop Lp63_0.c) ⟨T,[],⟨Lp63_0.hp x++Lp63_0.ownB x,0,[]⟩⟩∧T.length=Lp63_0.N∧∀kv∈(Lp63_0.os::Lp63_0.S).zip (Lp63_0.ownV x::Lp63_0.sl x),lget T kv.1=kv.2:=by
 intro t c x h hc;unfold dec63_0 at h
 split at h
 case h_3=>cases h
 all_goals
  split at h
  case h_2=>cases h
  simp only[Option.some.injEq,Prod.mk.injEq]at h;obtain ⟨rfl,rfl⟩:=h;subst hc
  refine ⟨_,rfl,lenIs_eq _ _ (by assumption),?_⟩
  intro kv hk;simp only[Lp63_0,LoopG.ownV,List.zip_cons_cons,List.zip_nil_right,List.mem_cons,List.not_mem_nil,or_false]at hk
  rcases hk with rfl | rfl | rfl | rfl<;>assumption
theorem kl63_0:∃J,Known Try.prog (la63_0 J):=by
 exact LoopG.known noNG mixed ok63_0 known95 (n:=60) (rd:=rd63_0) (fun x j _=>T63_0  x j) dec63_0 alt63_0 hd63_0 ha63_0
structure R63 where
 (r0:Array Value)
 (r1 r2:Nat)
structure A63 where
 (a0:Array Value)
 (a1 a2:Nat)
def rt63 (a0:Array Value)(a1 a2:Nat):RT R63 :=
 .sw (eqCode (Lp63_0.c) (Lp63_0.c)) true (by simp only[eqCode_self,arrEq_self]) (.br (L63_0_k0 (X63_0.mk none a0 a1 a2 (Int.ofNat a2) (0:Int))) (.br (decide ((Int.ofNat (Qu2 (X63_0.mk none a0 a1 a2 (Int.ofNat a2) (0:Int))))=(0:Int))) (.leaf ⟨⟨[(.int .i64 (0:Int)),(.int .i64 (0:Int)),(.int .i64 (0:Int))]⟩,0,1⟩) (.leaf ⟨(Qu0 (X63_0.mk none a0 a1 a2 (Int.ofNat a2) (0:Int))),(Qu1 (X63_0.mk none a0 a1 a2 (Int.ofNat a2) (0:Int))),(Qu2 (X63_0.mk none a0 a1 a2 (Int.ofNat a2) (0:Int)))⟩)) (.no)) (.no)
def en63 (r:R63):Value:=(lstV r.r0 r.r1 r.r2 3)
theorem T63 (J0:Task→List Value)(a0:Array Value)(a1 a2:Nat):evC Try.prog (Ans.c (p95.or (la63_0 J0))) 60 (.call 63 ⟨[(lstV a0 a1 a2 2)]⟩ ⟨[],0,[]⟩) (frzK [3])=(rt63 a0 a1 a2).out (fun r=>.ret (en63 r) ⟨[],0,[]⟩):=by kernel_rfl
def F63 (a0:Array Value)(a1 a2:Nat):Option R63:=(rt63 a0 a1 a2).val
section
variable (a0:Array Value) (a1 a2:Nat)
def F63_ok:Bool:=(F63 a0 a1 a2).isSome
def F63_0:Array Value:=match F63 a0 a1 a2 with | some r=>r.r0 | none=>#[]
def F63_1:Nat:=match F63 a0 a1 a2 with | some r=>r.r1 | none=>0
def F63_2:Nat:=match F63 a0 a1 a2 with | some r=>r.r2 | none=>0
end
def dec63:Task→Option (A63×Hp)
 | .call g ⟨[(.func (.via 0 ⟨[]⟩ 0 true) a0 ⟨[.slice (some ⟨0,a1,none⟩) a2 2]⟩)]⟩ h=>(match Nat.beq g 63 with | true=>some (⟨a0,a1,a2⟩,h) | false=>none)
 | _=>none
def alt63 (x:A63)(h:Hp):AT:=.br (F63_ok x.a0 x.a1 x.a2) (.leaf (.ret (lstV (F63_0 x.a0 x.a1 x.a2) (F63_1 x.a0 x.a1 x.a2) (F63_2 x.a0 x.a1 x.a2) 3) h)) .no
def p63:Ans:=fnAns dec63 alt63
theorem ha63:∀(x:A63) (h:Hp)(o:Out),(alt63 x h).out=some o→∃r,(rt63 x.a0 x.a1 x.a2).val=some r∧o=.ret (en63 r) h:=by
 intro x h o e;unfold alt63 at e;simp only[AT.out]at e;obtain ⟨g,e⟩:=cond_some e;unfold F63_ok at g;obtain ⟨r,hF⟩:=Option.isSome_iff_exists.1 g
 refine ⟨r,by delta F63 at hF;exact hF,?_⟩
 simp only[Option.some.injEq]at e;rw[← e]
 unfold F63_0 F63_1 F63_2;rw[hF]<;>rfl
theorem hd63:∀(t:Task) (x:A63)(h:Hp),dec63 t=some (x,h)→t=.call 63 ⟨[(lstV x.a0 x.a1 x.a2 2)]⟩ h:=by
 intro t x h e;unfold dec63 at e
 split at e
 case h_2=>cases e
 split at e
 case h_2=>cases e
 rename_i hg;simp only[Option.some.injEq,Prod.mk.injEq]at e;obtain ⟨rfl,rfl⟩:=e;rw[Nat.eq_of_beq_eq_true hg]
theorem known63:Known Try.prog p63:=by
 obtain ⟨J0,hJ0⟩:=kl63_0
 exact Known.fn noNG mixed (Known.or known95 hJ0) (n:=60) (zs:=[3]) 63 (fun x:A63=>[(lstV x.a0 x.a1 x.a2 2)]) (fun x=>rt63 x.a0 x.a1 x.a2) en63 (fun x=>T63 J0 x.a0 x.a1 x.a2) (fun x=>rfl) dec63 alt63 hd63 ha63
end
end Go.Proofs.Ytggaomgopenkfaa
