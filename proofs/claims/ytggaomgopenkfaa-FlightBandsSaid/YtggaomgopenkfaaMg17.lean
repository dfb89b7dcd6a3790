/- Part 17 of the texts below the claim. Conditions: none. -/
import Derived.Test.YtggaomgopenkfaaMg7
import Derived.Test.YtggaomgopenkfaaMg9
import Derived.Test.YtggaomgopenkfaaMg8
import Derived.Test.YtggaomgopenkfaaMg16
import Derived.Test.YtggaomgopenkfaaMg15
set_option linter.unusedVariables false
set_option linter.unusedSimpArgs false
namespace Go.Proofs.Ytggaomgopenkfaa
open Go.Gi Go.RowKit Go.Proofs.Ytggaomgopenkfaa.Old
noncomputable section
set_option maxRecDepth 100000
set_option maxHeartbeats 4000000
structure X18_55x0 where
 (hb:Nat)
 hw:List Nat
 (v0:Array Value)
 (v1 v2:Nat)
 (v3 v4:Int)
 (v5 v6:Int)
 (v7 v8:Int)
 (v9 v10:Int)
 (v11 v12:Int)
 (v13 v14:Int)
 (v15 v16 v17:Int)
inductive D18_55x0 where
 | k0 (d0:Array Value) (d1 d2:Nat) (d3 d4:Int) (d5 d6:Int) (d7 d8:Int) (d9 d10:Int) (d11 d12:Int) (d13 d14:Int) (d15 d16 d17:Int)
def Lp18_55x0:LoopS X18_55x0 D18_55x0 where
 c:=(theLoop Try.prog 55 0)
 N:=55
 M:=4
 S:=[0,2,4,6,7]
 Bs:=[]
 q:=none
 sz:=0
 z:=0
 own:=fun x=>none
 sl:=fun x=>[(lstV x.v0 x.v1 x.v2 7),(.func (.func 57) ⟨[]⟩ ⟨[]⟩),(Value.pointer (Option.some (Addr.mk 2 0 Option.none))),(Value.pointer (Option.some (Addr.mk 3 0 Option.none))),(.int .i64 x.v3)]
 hp:=fun x w=>[.cells ⟨[(.int .i64 x.v4),(.int .i64 x.v5)]⟩ false,.cells ⟨[(.int .i64 x.v6),(.int .i64 x.v7),(.int .i64 x.v8),(.int .i64 x.v9)]⟩ false,.cells ⟨[(.int .i64 x.v10),(.int .i64 x.v11)]⟩ false,.cells ⟨[(.int .i64 x.v12),(.int .i64 x.v13),(.int .i64 x.v14),(.int .i64 x.v15),(.int .i64 x.v16),(.int .i64 x.v17)]⟩ false]
 ex:=fun d=>match d with | .k0 ..=>.exit 0
 pick:=fun e=>match e with | .exit 0=>[0,2,4,6,7] | _=>[]
 dv:=fun d=>match d with | .k0 d0 d1 d2 d3 d4 d5 d6 d7 d8 d9 d10 d11 d12 d13 d14 d15 d16 d17=>[(lstV d0 d1 d2 7),(.func (.func 57) ⟨[]⟩ ⟨[]⟩),(Value.pointer (Option.some (Addr.mk 2 0 Option.none))),(Value.pointer (Option.some (Addr.mk 3 0 Option.none))),(.int .i64 d3)]
 dh:=fun d=>match d with | .k0 d0 d1 d2 d3 d4 d5 d6 d7 d8 d9 d10 d11 d12 d13 d14 d15 d16 d17=>[.cells ⟨[(.int .i64 d4),(.int .i64 d5)]⟩ false,.cells ⟨[(.int .i64 d6),(.int .i64 d7),(.int .i64 d8),(.int .i64 d9)]⟩ false,.cells ⟨[(.int .i64 d10),(.int .i64 d11)]⟩ false,.cells ⟨[(.int .i64 d12),(.int .i64 d13),(.int .i64 d14),(.int .i64 d15),(.int .i64 d16),(.int .i64 d17)]⟩ false]
theorem ok18_55x0:Lp18_55x0.OkS:=⟨fun x=>rfl,fun x=>rfl,fun x w=>rfl,fun x=>(fun _=>rfl),fun x w=>rfl,fun x w=>rfl,(fun q j h=>by cases h),fun d=>by cases d<;>rfl,fun d=>by cases d<;>rfl,fun d=>match d with | .k0 d0 d1 d2 d3 d4 d5 d6 d7 d8 d9 d10 d11 d12 d13 d14 d15 d16 d17=>(fun _=>rfl),fun d=>by cases d<;>(intro h;cases h),fun d=>by cases d<;>rfl,fun d=>by cases d<;>rfl,by decide,by decide⟩
def rd18_55x0 (x:X18_55x0):RT (Sum X18_55x0 D18_55x0):=match x with
 | ⟨hb,hw,v0,v1,v2,v3,v4,v5,v6,v7,v8,v9,v10,v11,v12,v13,v14,v15,v16,v17⟩ =>let u0:=(IntKind.wrap .i64 (v3+(1:Int)));
   .br (decide (u0<(Int.ofNat v2))) (.br (and (decide ((0:Int)≤u0)) (decide (u0<(Int.ofNat v2)))) (.br (isInt .i64 v0 ((v1+((Int.toNat u0)*7))+0)) (.br (decide ((getInt v0 ((v1+((Int.toNat u0)*7))+0))≤v10)) (.leaf (.inl ⟨hb,hw,v0,v1,v2,u0,v4,v5,v6,v7,v8,v9,v10,v11,v12,v13,v14,v15,v16,v17⟩)) (.leaf (.inr (.k0 v0 v1 v2 v3 v4 v5 v6 v7 v8 v9 v10 v11 v12 v13 v14 v15 v16 v17)))) (.no)) (.no)) (.leaf (.inr (.k0 v0 v1 v2 v3 v4 v5 v6 v7 v8 v9 v10 v11 v12 v13 v14 v15 v16 v17)))
theorem T18_55x0n  (y:List Value) (hb:Nat) (hw:List Nat) (v0:Array Value) (v1 v2:Nat) (v3 v4:Int) (v5 v6:Int) (v7 v8:Int) (v9 v10:Int) (v11 v12:Int) (v13 v14:Int) (v15 v16 v17:Int):evC Try.prog (Ans.c (p53.or (p54.or (p56.or (p57.or p58))))) 60 (.code none (theLoop Try.prog 55 0) ⟨sets (junkF 55 y) [(0,(lstV v0 v1 v2 7)),(2,(.func (.func 57) ⟨[]⟩ ⟨[]⟩)),(4,(Value.pointer (some (Addr.mk 2 0 none)))),(6,(Value.pointer (some (Addr.mk 3 0 none)))),(7,(.int .i64 v3))],[],⟨[.cells ⟨[(.int .i64 v4),(.int .i64 v5)]⟩ false,.cells ⟨[(.int .i64 v6),(.int .i64 v7),(.int .i64 v8),(.int .i64 v9)]⟩ false,.cells ⟨[(.int .i64 v10),(.int .i64 v11)]⟩ false,.cells ⟨[(.int .i64 v12),(.int .i64 v13),(.int .i64 v14),(.int .i64 v15),(.int .i64 v16),(.int .i64 v17)]⟩ false],0,[]⟩⟩) (kS 55 4 [0,2,4,6,7] Lp18_55x0.pick [] 0 none)=(rd18_55x0 ⟨hb,hw,v0,v1,v2,v3,v4,v5,v6,v7,v8,v9,v10,v11,v12,v13,v14,v15,v16,v17⟩).out Lp18_55x0.encS:=by kernel_rfl
theorem T18_55x0  (x:X18_55x0) (y:List Value):evC Try.prog (Ans.c (p53.or (p54.or (p56.or (p57.or p58))))) 60 (Lp18_55x0.headS x y) (kS Lp18_55x0.N Lp18_55x0.M Lp18_55x0.S Lp18_55x0.pick Lp18_55x0.Bs Lp18_55x0.z Lp18_55x0.q)=(rd18_55x0 x).out Lp18_55x0.encS:=by
 obtain ⟨hb,hw,v0,v1,v2,v3,v4,v5,v6,v7,v8,v9,v10,v11,v12,v13,v14,v15,v16,v17⟩:=x;exact T18_55x0n  y hb hw v0 v1 v2 v3 v4 v5 v6 v7 v8 v9 v10 v11 v12 v13 v14 v15 v16 v17
def L18_55x0 (x:X18_55x0):Option D18_55x0:=loopR rd18_55x0 x
def L18_55x0_k0 (x:X18_55x0):Bool:=match L18_55x0 x with | some (.k0 ..)=>true | _=>false
def L18_55x0_k0_0 (x:X18_55x0):Array Value:=match L18_55x0 x with | some (.k0 (d0:=d) ..)=>d | _=>#[]
def L18_55x0_k0_1 (x:X18_55x0):Nat:=match L18_55x0 x with | some (.k0 (d1:=d) ..)=>d | _=>0
def L18_55x0_k0_2 (x:X18_55x0):Nat:=match L18_55x0 x with | some (.k0 (d2:=d) ..)=>d | _=>0
def L18_55x0_k0_3 (x:X18_55x0):Int:=match L18_55x0 x with | some (.k0 (d3:=d) ..)=>d | _=>0
def L18_55x0_k0_4 (x:X18_55x0):Int:=match L18_55x0 x with | some (.k0 (d4:=d) ..)=>d | _=>0
def L18_55x0_k0_5 (x:X18_55x0):Int:=match L18_55x0 x with | some (.k0 (d5:=d) ..)=>d | _=>0
def L18_55x0_k0_6 (x:X18_55x0):Int:=match L18_55x0 x with | some (.k0 (d6:=d) ..)=>d | _=>0
def L18_55x0_k0_7 (x:X18_55x0):Int:=match L18_55x0 x with | some (.k0 (d7:=d) ..)=>d | _=>0
def L18_55x0_k0_8 (x:X18_55x0):Int:=match L18_55x0 x with | some (.k0 (d8:=d) ..)=>d | _=>0
def L18_55x0_k0_9 (x:X18_55x0):Int:=match L18_55x0 x with | some (.k0 (d9:=d) ..)=>d | _=>0
def L18_55x0_k0_10 (x:X18_55x0):Int:=match L18_55x0 x with | some (.k0 (d10:=d) ..)=>d | _=>0
def L18_55x0_k0_11 (x:X18_55x0):Int:=match L18_55x0 x with | some (.k0 (d11:=d) ..)=>d | _=>0
def L18_55x0_k0_12 (x:X18_55x0):Int:=match L18_55x0 x with | some (.k0 (d12:=d) ..)=>d | _=>0
def L18_55x0_k0_13 (x:X18_55x0):Int:=match L18_55x0 x with | some (.k0 (d13:=d) ..)=>d | _=>0
def L18_55x0_k0_14 (x:X18_55x0):Int:=match L18_55x0 x with | some (.k0 (d14:=d) ..)=>d | _=>0
def L18_55x0_k0_15 (x:X18_55x0):Int:=match L18_55x0 x with | some (.k0 (d15:=d) ..)=>d | _=>0
def L18_55x0_k0_16 (x:X18_55x0):Int:=match L18_55x0 x with | some (.k0 (d16:=d) ..)=>d | _=>0
def L18_55x0_k0_17 (x:X18_55x0):Int:=match L18_55x0 x with | some (.k0 (d17:=d) ..)=>d | _=>0
def dec18_55x0:Task→Option (Code×X18_55x0)
 | .code none (.loop code) ⟨t,[],⟨[b0,b1,b2,b3],hb,hw⟩⟩ =>
  (match Nat.beq (firstReg code) 2,lenIs t 55 with
  | true,true=>((dLs 7 (lget t 0)).bind fun q0=>(fun v0 v1 v2=>(dFn 57 (lget t 2)).bind fun q1=>match q1.1,q1.2 with | [],[]=>((dPt 2 0 (lget t 4)).bind fun _=>(dPt 3 0 (lget t 6)).bind fun _=>(dI .i64 (lget t 7)).bind fun v3=>(dCe b0).bind fun l5=>match l5 with | [y5_0,y5_1]=>((dI .i64 y5_0).bind fun v4=>(dI .i64 y5_1).bind fun v5=>(dCe b1).bind fun l8=>match l8 with | [y8_0,y8_1,y8_2,y8_3]=>((dI .i64 y8_0).bind fun v6=>(dI .i64 y8_1).bind fun v7=>(dI .i64 y8_2).bind fun v8=>(dI .i64 y8_3).bind fun v9=>(dCe b2).bind fun l13=>match l13 with | [y13_0,y13_1]=>((dI .i64 y13_0).bind fun v10=>(dI .i64 y13_1).bind fun v11=>(dCe b3).bind fun l16=>match l16 with | [y16_0,y16_1,y16_2,y16_3,y16_4,y16_5]=>((dI .i64 y16_0).bind fun v12=>(dI .i64 y16_1).bind fun v13=>(dI .i64 y16_2).bind fun v14=>(dI .i64 y16_3).bind fun v15=>(dI .i64 y16_4).bind fun v16=>(dI .i64 y16_5).bind fun v17=>some (code,⟨hb,hw,v0,v1,v2,v3,v4,v5,v6,v7,v8,v9,v10,v11,v12,v13,v14,v15,v16,v17⟩)) | _=>none) | _=>none) | _=>none) | _=>none) | _,_=>none) q0.1 q0.2.1 q0.2.2)
  | _,_=>none)
 | _=>none
def alt18_55x0 (x:X18_55x0)(j:List Value):AT:=.br (L18_55x0_k0 x) (loopEnd 55 (.exit 0) [(0,(lstV (L18_55x0_k0_0 x) (L18_55x0_k0_1 x) (L18_55x0_k0_2 x) 7)),(2,(.func (.func 57) ⟨[]⟩ ⟨[]⟩)),(4,(Value.pointer (Option.some (Addr.mk 2 0 Option.none)))),(6,(Value.pointer (Option.some (Addr.mk 3 0 Option.none)))),(7,(.int .i64 (L18_55x0_k0_3 x)))] ⟨[.cells ⟨[(.int .i64 (L18_55x0_k0_4 x)),(.int .i64 (L18_55x0_k0_5 x))]⟩ false,.cells ⟨[(.int .i64 (L18_55x0_k0_6 x)),(.int .i64 (L18_55x0_k0_7 x)),(.int .i64 (L18_55x0_k0_8 x)),(.int .i64 (L18_55x0_k0_9 x))]⟩ false,.cells ⟨[(.int .i64 (L18_55x0_k0_10 x)),(.int .i64 (L18_55x0_k0_11 x))]⟩ false,.cells ⟨[(.int .i64 (L18_55x0_k0_12 x)),(.int .i64 (L18_55x0_k0_13 x)),(.int .i64 (L18_55x0_k0_14 x)),(.int .i64 (L18_55x0_k0_15 x)),(.int .i64 (L18_55x0_k0_16 x)),(.int .i64 (L18_55x0_k0_17 x))]⟩ false],x.hb,0::1::2::3::x.hw⟩ j) (.no)
def la18_55x0 (J:Task→List Value):Ans:=loopAns Lp18_55x0.c dec18_55x0 alt18_55x0 J
theorem ha18_55x0:∀(x:X18_55x0) (j:List Value)(o:Out),(alt18_55x0 x j).out=some o→Lp18_55x0.good x∧∃d,loopR rd18_55x0 x=some d∧o=Lp18_55x0.tailB x d j x.hb x.hw:=by
 intro x j o h;simp only[alt18_55x0,AT.out]at h
 refine ⟨⟨rfl,fun a l e=>(by cases e)⟩,?_⟩
 cases hL:L18_55x0 x with
 | none=>simp only[L18_55x0_k0,L18_55x0_k0_0,L18_55x0_k0_1,L18_55x0_k0_2,L18_55x0_k0_3,L18_55x0_k0_4,L18_55x0_k0_5,L18_55x0_k0_6,L18_55x0_k0_7,L18_55x0_k0_8,L18_55x0_k0_9,L18_55x0_k0_10,L18_55x0_k0_11,L18_55x0_k0_12,L18_55x0_k0_13,L18_55x0_k0_14,L18_55x0_k0_15,L18_55x0_k0_16,L18_55x0_k0_17,hL,AT.out,cond_false]at h;cases h
 | some d =>
  refine ⟨d,hL,?_⟩
  cases d<;>(simp only[L18_55x0_k0,L18_55x0_k0_0,L18_55x0_k0_1,L18_55x0_k0_2,L18_55x0_k0_3,L18_55x0_k0_4,L18_55x0_k0_5,L18_55x0_k0_6,L18_55x0_k0_7,L18_55x0_k0_8,L18_55x0_k0_9,L18_55x0_k0_10,L18_55x0_k0_11,L18_55x0_k0_12,L18_55x0_k0_13,L18_55x0_k0_14,L18_55x0_k0_15,L18_55x0_k0_16,L18_55x0_k0_17,hL,AT.out,loopEnd,cond_true,cond_false,Option.some.injEq]at h;rw[← h];rfl)
theorem hd18_55x0:∀(t:Task) (c:Code)(x:X18_55x0),dec18_55x0 t=some (c,x)→c=Lp18_55x0.c→∃T H',t=.code none (.loop Lp18_55x0.c) ⟨T,[],⟨H',x.hb,x.hw⟩⟩∧Forgets H' (Lp18_55x0.H x)∧T.length=Lp18_55x0.N∧∀kv∈Lp18_55x0.S.zip (Lp18_55x0.sl x),lget T kv.1=kv.2:=by
 intro t c x h hc;unfold dec18_55x0 at h
 split at h
 ·split at h
  case h_2=>cases h
  rename_i hreg hlen;replace h:=bq h;obtain ⟨_,hh,h⟩:=h;have hh:=dLs_eq hh;replace h:=bq h;obtain ⟨⟨_,_⟩,hh,h⟩:=h
  dsimp only at hh h
  have hh:=dFn_eq hh
  split at h
  case h_2=>cases h
  replace h:=bq h;obtain ⟨_,hh,h⟩:=h;have hh:=dPt_eq hh;replace h:=bq h;obtain ⟨_,hh,h⟩:=h;have hh:=dPt_eq hh;replace h:=bq h;obtain ⟨_,hh,h⟩:=h;have hh:=dI_eq hh;replace h:=bq h;obtain ⟨_,hh,h⟩:=h;obtain rfl:=dCe_eq hh;clear hh
  split at h
  case h_2=>cases h
  (iterate 2 (replace h:=biI h;obtain ⟨_,rfl,h⟩:=h));replace h:=bq h;obtain ⟨_,hh,h⟩:=h;obtain rfl:=dCe_eq hh;clear hh
  split at h
  case h_2=>cases h
  (iterate 4 (replace h:=biI h;obtain ⟨_,rfl,h⟩:=h));replace h:=bq h;obtain ⟨_,hh,h⟩:=h;obtain rfl:=dCe_eq hh;clear hh
  split at h
  case h_2=>cases h
  (iterate 2 (replace h:=biI h;obtain ⟨_,rfl,h⟩:=h));replace h:=bq h;obtain ⟨_,hh,h⟩:=h;obtain rfl:=dCe_eq hh;clear hh
  split at h
  case h_2=>cases h
  (iterate 6 (replace h:=biI h;obtain ⟨_,rfl,h⟩:=h));simp only[Option.some.injEq,Prod.mk.injEq]at h;obtain ⟨rfl,rfl⟩:=h;subst hc
  refine ⟨_,_,rfl,(Forgets.refl _),lenIs_eq _ _ hlen,?_⟩
  intro kv hk;simp only[Lp18_55x0,List.zip_cons_cons,List.zip_nil_right,List.mem_cons,List.not_mem_nil,or_false]at hk
  rcases hk with rfl | rfl | rfl | rfl | rfl<;>assumption
 ·cases h
theorem kl18_55x0:∃J,Known Try.prog (la18_55x0 J):=by
 exact LoopS.knownB noNG mixed ok18_55x0 (Known.or known53 (Known.or known54 (Known.or known56 (Known.or known57 known58)))) (n:=60) (rd:=rd18_55x0) (fun x j _=>T18_55x0  x j) (fun x=>x.hb) (fun x=>x.hw) dec18_55x0 alt18_55x0 hd18_55x0 ha18_55x0
structure X18_55x1 where
 (hb:Nat)
 hw:List Nat
 (v0:Array Value)
 (v1 v2:Nat)
 (v3 v4:Int)
 (v5 v6:Int)
 (v7 v8:Int)
 (v9 v10:Int)
 (v11 v12:Int)
 (v13 v14:Int)
 (v15 v16:Int)
 (v17 v18:Int)
 (v19 v20:Int)
 (v21 v22:Int)
 (v23 v24:Int)
inductive D18_55x1 where
 | k0 (d0 d1:Int) (d2 d3:Int) (d4 d5:Int) (d6 d7:Int) (d8 d9:Int) (d10 d11:Int) (d12 d13:Int) (d14 d15:Int) (d16 d17:Int) (d18 d19:Int)
def Lp18_55x1:LoopS X18_55x1 D18_55x1 where
 c:=(theLoop Try.prog 55 1)
 N:=55
 M:=5
 S:=[2,4,6,8,37,38,39]
 Bs:=[]
 q:=none
 sz:=0
 z:=0
 own:=fun x=>none
 sl:=fun x=>[(.func (.func 57) ⟨[]⟩ ⟨[]⟩),(Value.pointer (Option.some (Addr.mk 2 0 Option.none))),(Value.pointer (Option.some (Addr.mk 3 0 Option.none))),(Value.pointer (Option.some (Addr.mk 4 0 Option.none))),(lstV x.v0 x.v1 x.v2 7),(.int .i64 x.v3),(.int .i64 x.v4)]
 hp:=fun x w=>[.cells ⟨[(.int .i64 x.v5),(.int .i64 x.v6)]⟩ false,.cells ⟨[(.int .i64 x.v7),(.int .i64 x.v8),(.int .i64 x.v9),(.int .i64 x.v10)]⟩ false,.cells ⟨[(.int .i64 x.v11),(.int .i64 x.v12)]⟩ false,.cells ⟨[(.int .i64 x.v13),(.int .i64 x.v14),(.int .i64 x.v15),(.int .i64 x.v16),(.int .i64 x.v17),(.int .i64 x.v18)]⟩ false,.cells ⟨[(.int .i64 x.v19),(.int .i64 x.v20),(.int .i64 x.v21),(.int .i64 x.v22),(.int .i64 x.v23),(.int .i64 x.v24)]⟩ false]
 ex:=fun d=>match d with | .k0 ..=>.exit 2
 pick:=fun e=>match e with | .exit 2=>[6,8] | _=>[]
 dv:=fun d=>match d with | .k0 d0 d1 d2 d3 d4 d5 d6 d7 d8 d9 d10 d11 d12 d13 d14 d15 d16 d17 d18 d19=>[(Value.pointer (Option.some (Addr.mk 3 0 Option.none))),(Value.pointer (Option.some (Addr.mk 4 0 Option.none)))]
 dh:=fun d=>match d with | .k0 d0 d1 d2 d3 d4 d5 d6 d7 d8 d9 d10 d11 d12 d13 d14 d15 d16 d17 d18 d19=>[.cells ⟨[(.int .i64 d0),(.int .i64 d1)]⟩ false,.cells ⟨[(.int .i64 d2),(.int .i64 d3),(.int .i64 d4),(.int .i64 d5)]⟩ false,.cells ⟨[(.int .i64 d6),(.int .i64 d7)]⟩ false,.cells ⟨[(.int .i64 d8),(.int .i64 d9),(.int .i64 d10),(.int .i64 d11),(.int .i64 d12),(.int .i64 d13)]⟩ false,.cells ⟨[(.int .i64 d14),(.int .i64 d15),(.int .i64 d16),(.int .i64 d17),(.int .i64 d18),(.int .i64 d19)]⟩ false]
theorem ok18_55x1:Lp18_55x1.OkS:=⟨fun x=>rfl,fun x=>rfl,fun x w=>rfl,fun x=>(fun _=>rfl),fun x w=>rfl,fun x w=>rfl,(fun q j h=>by cases h),fun d=>by cases d<;>rfl,fun d=>by cases d<;>rfl,fun d=>match d with | .k0 d0 d1 d2 d3 d4 d5 d6 d7 d8 d9 d10 d11 d12 d13 d14 d15 d16 d17 d18 d19=>(fun _=>rfl),fun d=>by cases d<;>(intro h;cases h),fun d=>by cases d<;>rfl,fun d=>by cases d<;>rfl,by decide,by decide⟩
def rd18_55x1 (x:X18_55x1):RT (Sum X18_55x1 D18_55x1):=match x with
 | ⟨hb,hw,v0,v1,v2,v3,v4,v5,v6,v7,v8,v9,v10,v11,v12,v13,v14,v15,v16,v17,v18,v19,v20,v21,v22,v23,v24⟩ =>let u0:=(Int.toNat v4);let u1:=(getInt v0 (((((((v1+(u0*7))+1)+1)+1)+1)+1)+1));let u2:=(getInt v0 ((((((v1+(u0*7))+1)+1)+1)+1)+1));let u3:=(getInt v0 (((((v1+(u0*7))+1)+1)+1)+1));let u4:=(getInt v0 ((((v1+(u0*7))+1)+1)+1));let u5:=(getInt v0 (((v1+(u0*7))+1)+1));let u6:=(getInt v0 ((v1+(u0*7))+1));let u7:=(Leaf.int .i64);
   .br (decide (v4<v3)) (.br (and (decide ((0:Int)≤v4)) (decide (v4<(Int.ofNat v2)))) (.br (rdOk v0 [u7,u7,u7,u7,u7,u7,u7] (v1+(u0*7)))
   (.br (decide (v12<(getInt v0 (v1+(u0*7))))) (.leaf (.inr (.k0 v5 v6 v7 v8 v9 v10 v11 v12 v13 v14 v15 v16 v17 v18 v19 v20 v21 v22 v23 v24))) (.leaf (.inl ⟨hb,hw,v0,v1,v2,v3,(IntKind.wrap .i64 (v4+(1:Int))),v5,v6,v7,v8,v9,v10,v11,v12,v13,v14,v15,v16,v17,v18,(F57_0 v19 v20 v21 v22 v23 v24 u6 u5 u4 u3 u2 u1),(F57_1 v19 v20 v21 v22 v23 v24 u6 u5 u4 u3 u2 u1),(F57_2 v19 v20 v21 v22 v23 v24 u6 u5 u4 u3 u2 u1),(F57_3 v19 v20 v21 v22 v23 v24 u6 u5 u4 u3 u2 u1),(F57_4 v19 v20 v21 v22 v23 v24 u6 u5 u4 u3 u2 u1),(F57_5 v19 v20 v21 v22 v23 v24 u6 u5 u4 u3 u2 u1)⟩))) (.no)) (.no)) (.leaf (.inr (.k0 v5 v6 v7 v8 v9 v10 v11 v12 v13 v14 v15 v16 v17 v18 v19 v20 v21 v22 v23 v24)))
theorem T18_55x1n  (y:List Value) (hb:Nat) (hw:List Nat) (v0:Array Value) (v1 v2:Nat) (v3 v4:Int) (v5 v6:Int) (v7 v8:Int) (v9 v10:Int) (v11 v12:Int) (v13 v14:Int) (v15 v16:Int) (v17 v18:Int) (v19 v20:Int) (v21 v22:Int) (v23 v24:Int):evC Try.prog (Ans.c (p53.or (p54.or (p56.or (p57.or p58))))) 60 (.code none (theLoop Try.prog 55 1) ⟨sets (junkF 55 y) [(2,(.func (.func 57) ⟨[]⟩ ⟨[]⟩)),(4,(Value.pointer (some (Addr.mk 2 0 none)))),(6,(Value.pointer (some (Addr.mk 3 0 none)))),(8,(Value.pointer (some (Addr.mk 4 0 none)))),(37,(lstV v0 v1 v2 7)),(38,(.int .i64 v3)),(39,(.int .i64 v4))],[],⟨[.cells ⟨[(.int .i64 v5),(.int .i64 v6)]⟩ false,.cells ⟨[(.int .i64 v7),(.int .i64 v8),(.int .i64 v9),(.int .i64 v10)]⟩ false,.cells ⟨[(.int .i64 v11),(.int .i64 v12)]⟩ false,.cells ⟨[(.int .i64 v13),(.int .i64 v14),(.int .i64 v15),(.int .i64 v16),(.int .i64 v17),(.int .i64 v18)]⟩ false,.cells ⟨[(.int .i64 v19),(.int .i64 v20),(.int .i64 v21),(.int .i64 v22),(.int .i64 v23),(.int .i64 v24)]⟩ false],0,[]⟩⟩) (kS 55 5 [2,4,6,8,37,38,39] Lp18_55x1.pick [] 0 none)=(rd18_55x1 ⟨hb,hw,v0,v1,v2,v3,v4,v5,v6,v7,v8,v9,v10,v11,v12,v13,v14,v15,v16,v17,v18,v19,v20,v21,v22,v23,v24⟩).out Lp18_55x1.encS:=by kernel_rfl
theorem T18_55x1  (x:X18_55x1) (y:List Value):evC Try.prog (Ans.c (p53.or (p54.or (p56.or (p57.or p58))))) 60 (Lp18_55x1.headS x y) (kS Lp18_55x1.N Lp18_55x1.M Lp18_55x1.S Lp18_55x1.pick Lp18_55x1.Bs Lp18_55x1.z Lp18_55x1.q)=(rd18_55x1 x).out Lp18_55x1.encS:=by
 obtain ⟨hb,hw,v0,v1,v2,v3,v4,v5,v6,v7,v8,v9,v10,v11,v12,v13,v14,v15,v16,v17,v18,v19,v20,v21,v22,v23,v24⟩:=x;exact T18_55x1n  y hb hw v0 v1 v2 v3 v4 v5 v6 v7 v8 v9 v10 v11 v12 v13 v14 v15 v16 v17 v18 v19 v20 v21 v22 v23 v24
def L18_55x1 (x:X18_55x1):Option D18_55x1:=loopR rd18_55x1 x
def L18_55x1_k0 (x:X18_55x1):Bool:=match L18_55x1 x with | some (.k0 ..)=>true | _=>false
def L18_55x1_k0_0 (x:X18_55x1):Int:=match L18_55x1 x with | some (.k0 (d0:=d) ..)=>d | _=>0
def L18_55x1_k0_1 (x:X18_55x1):Int:=match L18_55x1 x with | some (.k0 (d1:=d) ..)=>d | _=>0
def L18_55x1_k0_2 (x:X18_55x1):Int:=match L18_55x1 x with | some (.k0 (d2:=d) ..)=>d | _=>0
def L18_55x1_k0_3 (x:X18_55x1):Int:=match L18_55x1 x with | some (.k0 (d3:=d) ..)=>d | _=>0
def L18_55x1_k0_4 (x:X18_55x1):Int:=match L18_55x1 x with | some (.k0 (d4:=d) ..)=>d | _=>0
def L18_55x1_k0_5 (x:X18_55x1):Int:=match L18_55x1 x with | some (.k0 (d5:=d) ..)=>d | _=>0
def L18_55x1_k0_6 (x:X18_55x1):Int:=match L18_55x1 x with | some (.k0 (d6:=d) ..)=>d | _=>0
def L18_55x1_k0_7 (x:X18_55x1):Int:=match L18_55x1 x with | some (.k0 (d7:=d) ..)=>d | _=>0
def L18_55x1_k0_8 (x:X18_55x1):Int:=match L18_55x1 x with | some (.k0 (d8:=d) ..)=>d | _=>0
def L18_55x1_k0_9 (x:X18_55x1):Int:=match L18_55x1 x with | some (.k0 (d9:=d) ..)=>d | _=>0
def L18_55x1_k0_10 (x:X18_55x1):Int:=match L18_55x1 x with | some (.k0 (d10:=d) ..)=>d | _=>0
def L18_55x1_k0_11 (x:X18_55x1):Int:=match L18_55x1 x with | some (.k0 (d11:=d) ..)=>d | _=>0
def L18_55x1_k0_12 (x:X18_55x1):Int:=match L18_55x1 x with | some (.k0 (d12:=d) ..)=>d | _=>0
def L18_55x1_k0_13 (x:X18_55x1):Int:=match L18_55x1 x with | some (.k0 (d13:=d) ..)=>d | _=>0
def L18_55x1_k0_14 (x:X18_55x1):Int:=match L18_55x1 x with | some (.k0 (d14:=d) ..)=>d | _=>0
def L18_55x1_k0_15 (x:X18_55x1):Int:=match L18_55x1 x with | some (.k0 (d15:=d) ..)=>d | _=>0
def L18_55x1_k0_16 (x:X18_55x1):Int:=match L18_55x1 x with | some (.k0 (d16:=d) ..)=>d | _=>0
def L18_55x1_k0_17 (x:X18_55x1):Int:=match L18_55x1 x with | some (.k0 (d17:=d) ..)=>d | _=>0
def L18_55x1_k0_18 (x:X18_55x1):Int:=match L18_55x1 x with | some (.k0 (d18:=d) ..)=>d | _=>0
def L18_55x1_k0_19 (x:X18_55x1):Int:=match L18_55x1 x with | some (.k0 (d19:=d) ..)=>d | _=>0
def dec18_55x1:Task→Option (Code×X18_55x1)
 | .code none (.loop code) ⟨t,[],⟨[b0,b1,b2,b3,b4],hb,hw⟩⟩ =>
  (match Nat.beq (firstReg code) 6,lenIs t 55 with
  | true,true=>((dFn 57 (lget t 2)).bind fun q0=>match q0.1,q0.2 with | [],[]=>((dPt 2 0 (lget t 4)).bind fun _=>(dPt 3 0 (lget t 6)).bind fun _=>(dPt 4 0 (lget t 8)).bind fun _=>(dLs 7 (lget t 37)).bind fun q4=>(fun v0 v1 v2=>(dI .i64 (lget t 38)).bind fun v3=>(dI .i64 (lget t 39)).bind fun v4=>(dCe b0).bind fun l7=>match l7 with | [y7_0,y7_1]=>((dI .i64 y7_0).bind fun v5=>(dI .i64 y7_1).bind fun v6=>(dCe b1).bind fun l10=>match l10 with | [y10_0,y10_1,y10_2,y10_3]=>((dI .i64 y10_0).bind fun v7=>(dI .i64 y10_1).bind fun v8=>(dI .i64 y10_2).bind fun v9=>(dI .i64 y10_3).bind fun v10=>(dCe b2).bind fun l15=>match l15 with | [y15_0,y15_1]=>((dI .i64 y15_0).bind fun v11=>(dI .i64 y15_1).bind fun v12=>(dCe b3).bind fun l18=>match l18 with | [y18_0,y18_1,y18_2,y18_3,y18_4,y18_5]=>((dI .i64 y18_0).bind fun v13=>(dI .i64 y18_1).bind fun v14=>(dI .i64 y18_2).bind fun v15=>(dI .i64 y18_3).bind fun v16=>(dI .i64 y18_4).bind fun v17=>(dI .i64 y18_5).bind fun v18=>(dCe b4).bind fun l25=>match l25 with | [y25_0,y25_1,y25_2,y25_3,y25_4,y25_5]=>((dI .i64 y25_0).bind fun v19=>(dI .i64 y25_1).bind fun v20=>(dI .i64 y25_2).bind fun v21=>(dI .i64 y25_3).bind fun v22=>(dI .i64 y25_4).bind fun v23=>(dI .i64 y25_5).bind fun v24=>some (code,⟨hb,hw,v0,v1,v2,v3,v4,v5,v6,v7,v8,v9,v10,v11,v12,v13,v14,v15,v16,v17,v18,v19,v20,v21,v22,v23,v24⟩)) | _=>none) | _=>none) | _=>none) | _=>none) | _=>none) q4.1 q4.2.1 q4.2.2) | _,_=>none)
  | _,_=>none)
 | _=>none
def alt18_55x1 (x:X18_55x1)(j:List Value):AT:=.br (L18_55x1_k0 x) (loopEnd 55 (.exit 2) [(6,(Value.pointer (Option.some (Addr.mk 3 0 Option.none)))),(8,(Value.pointer (Option.some (Addr.mk 4 0 Option.none))))] ⟨[.cells ⟨[(.int .i64 (L18_55x1_k0_0 x)),(.int .i64 (L18_55x1_k0_1 x))]⟩ false,.cells ⟨[(.int .i64 (L18_55x1_k0_2 x)),(.int .i64 (L18_55x1_k0_3 x)),(.int .i64 (L18_55x1_k0_4 x)),(.int .i64 (L18_55x1_k0_5 x))]⟩ false,.cells ⟨[(.int .i64 (L18_55x1_k0_6 x)),(.int .i64 (L18_55x1_k0_7 x))]⟩ false,.cells ⟨[(.int .i64 (L18_55x1_k0_8 x)),(.int .i64 (L18_55x1_k0_9 x)),(.int .i64 (L18_55x1_k0_10 x)),(.int .i64 (L18_55x1_k0_11 x)),(.int .i64 (L18_55x1_k0_12 x)),(.int .i64 (L18_55x1_k0_13 x))]⟩ false,.cells ⟨[(.int .i64 (L18_55x1_k0_14 x)),(.int .i64 (L18_55x1_k0_15 x)),(.int .i64 (L18_55x1_k0_16 x)),(.int .i64 (L18_55x1_k0_17 x)),(.int .i64 (L18_55x1_k0_18 x)),(.int .i64 (L18_55x1_k0_19 x))]⟩ false],x.hb,0::1::2::3::4::x.hw⟩ j) (.no)
def la18_55x1 (J:Task→List Value):Ans:=loopAns Lp18_55x1.c dec18_55x1 alt18_55x1 J
theorem ha18_55x1:∀(x:X18_55x1) (j:List Value)(o:Out),(alt18_55x1 x j).out=some o→Lp18_55x1.good x∧∃d,loopR rd18_55x1 x=some d∧o=Lp18_55x1.tailB x d j x.hb x.hw:=by
 intro x j o h;simp only[alt18_55x1,AT.out]at h
 refine ⟨⟨rfl,fun a l e=>(by cases e)⟩,?_⟩
 cases hL:L18_55x1 x with
 | none=>simp only[L18_55x1_k0,L18_55x1_k0_0,L18_55x1_k0_1,L18_55x1_k0_2,L18_55x1_k0_3,L18_55x1_k0_4,L18_55x1_k0_5,L18_55x1_k0_6,L18_55x1_k0_7,L18_55x1_k0_8,L18_55x1_k0_9,L18_55x1_k0_10,L18_55x1_k0_11,L18_55x1_k0_12,L18_55x1_k0_13,L18_55x1_k0_14,L18_55x1_k0_15,L18_55x1_k0_16,L18_55x1_k0_17,L18_55x1_k0_18,L18_55x1_k0_19,hL,AT.out,cond_false]at h;cases h
 | some d =>
  refine ⟨d,hL,?_⟩
  cases d<;>(simp only[L18_55x1_k0,L18_55x1_k0_0,L18_55x1_k0_1,L18_55x1_k0_2,L18_55x1_k0_3,L18_55x1_k0_4,L18_55x1_k0_5,L18_55x1_k0_6,L18_55x1_k0_7,L18_55x1_k0_8,L18_55x1_k0_9,L18_55x1_k0_10,L18_55x1_k0_11,L18_55x1_k0_12,L18_55x1_k0_13,L18_55x1_k0_14,L18_55x1_k0_15,L18_55x1_k0_16,L18_55x1_k0_17,L18_55x1_k0_18,L18_55x1_k0_19,hL,AT.out,loopEnd,cond_true,cond_false,Option.some.injEq]at h;rw[← h];rfl)
theorem hd18_55x1:∀(t:Task) (c:Code)(x:X18_55x1),dec18_55x1 t=some (c,x)→c=Lp18_55x1.c→∃T H',t=.code none (.loop Lp18_55x1.c) ⟨T,[],⟨H',x.hb,x.hw⟩⟩∧Forgets H' (Lp18_55x1.H x)∧T.length=Lp18_55x1.N∧∀kv∈Lp18_55x1.S.zip (Lp18_55x1.sl x),lget T kv.1=kv.2:=by
 intro t c x h hc;unfold dec18_55x1 at h
 split at h
 ·split at h
  case h_2=>cases h
  rename_i hreg hlen;replace h:=bq h;obtain ⟨⟨_,_⟩,hh,h⟩:=h
  dsimp only at hh h
  have hh:=dFn_eq hh
  split at h
  case h_2=>cases h
  replace h:=bq h;obtain ⟨_,hh,h⟩:=h;have hh:=dPt_eq hh;replace h:=bq h;obtain ⟨_,hh,h⟩:=h;have hh:=dPt_eq hh;replace h:=bq h;obtain ⟨_,hh,h⟩:=h;have hh:=dPt_eq hh;replace h:=bq h;obtain ⟨_,hh,h⟩:=h;have hh:=dLs_eq hh;replace h:=bq h;obtain ⟨_,hh,h⟩:=h;have hh:=dI_eq hh;replace h:=bq h;obtain ⟨_,hh,h⟩:=h;have hh:=dI_eq hh;replace h:=bq h;obtain ⟨_,hh,h⟩:=h;obtain rfl:=dCe_eq hh;clear hh
  split at h
  case h_2=>cases h
  (iterate 2 (replace h:=biI h;obtain ⟨_,rfl,h⟩:=h));replace h:=bq h;obtain ⟨_,hh,h⟩:=h;obtain rfl:=dCe_eq hh;clear hh
  split at h
  case h_2=>cases h
  (iterate 4 (replace h:=biI h;obtain ⟨_,rfl,h⟩:=h));replace h:=bq h;obtain ⟨_,hh,h⟩:=h;obtain rfl:=dCe_eq hh;clear hh
  split at h
  case h_2=>cases h
  (iterate 2 (replace h:=biI h;obtain ⟨_,rfl,h⟩:=h));replace h:=bq h;obtain ⟨_,hh,h⟩:=h;obtain rfl:=dCe_eq hh;clear hh
  split at h
  case h_2=>cases h
  (iterate 6 (replace h:=biI h;obtain ⟨_,rfl,h⟩:=h));replace h:=bq h;obtain ⟨_,hh,h⟩:=h;obtain rfl:=dCe_eq hh;clear hh
  split at h
  case h_2=>cases h
  (iterate 6 (replace h:=biI h;obtain ⟨_,rfl,h⟩:=h));simp only[Option.some.injEq,Prod.mk.injEq]at h;obtain ⟨rfl,rfl⟩:=h;subst hc
  refine ⟨_,_,rfl,(Forgets.refl _),lenIs_eq _ _ hlen,?_⟩
  intro kv hk;simp only[Lp18_55x1,List.zip_cons_cons,List.zip_nil_right,List.mem_cons,List.not_mem_nil,or_false]at hk
  rcases hk with rfl | rfl | rfl | rfl | rfl | rfl | rfl<;>assumption
 ·cases h
theorem kl18_55x1:∃J,Known Try.prog (la18_55x1 J):=by
 exact LoopS.knownB noNG mixed ok18_55x1 (Known.or known53 (Known.or known54 (Known.or known56 (Known.or known57 known58)))) (n:=60) (rd:=rd18_55x1) (fun x j _=>T18_55x1  x j) (fun x=>x.hb) (fun x=>x.hw) dec18_55x1 alt18_55x1 hd18_55x1 ha18_55x1
structure R18 where
 (r0 r1:Int)
 (r2 r3 r4:Int)
structure A18 where
 (a0:Array Value)
 (a1 a2:Nat)
 (a3 a4:Int)
def Y18_0 (a0:Array Value)(a1 a2:Nat)(a3 a4:Int):X18_55x0:=(X18_55x0.mk 2 [] (F56_0 (a0) a1 a2) (F56_1 (a0) a1 a2) (F56_2 (a0) a1 a2) (0:Int) a3 a4 (0:Int) (0:Int) (0:Int) (0:Int) a3 a4 (0:Int) (0:Int) (0:Int) (0:Int) (0:Int) (0:Int))
def Y18_1 (a0:Array Value)(a1 a2:Nat)(a3 a4:Int):X18_55x1:=(X18_55x1.mk 2 [0,1,2,3] (L18_55x0_k0_0 (Y18_0 a0 a1 a2 a3 a4)) ((L18_55x0_k0_1 (Y18_0 a0 a1 a2 a3 a4))+((Int.toNat (IntKind.wrap .i64 ((L18_55x0_k0_3 (Y18_0 a0 a1 a2 a3 a4))+(1:Int))))*7)) ((L18_55x0_k0_2 (Y18_0 a0 a1 a2 a3 a4))-(Int.toNat (IntKind.wrap .i64 ((L18_55x0_k0_3 (Y18_0 a0 a1 a2 a3 a4))+(1:Int))))) (Int.ofNat ((L18_55x0_k0_2 (Y18_0 a0 a1 a2 a3 a4))-(Int.toNat (IntKind.wrap .i64 ((L18_55x0_k0_3 (Y18_0 a0 a1 a2 a3 a4))+(1:Int)))))) (0:Int) (L18_55x0_k0_4 (Y18_0 a0 a1 a2 a3 a4)) (L18_55x0_k0_5 (Y18_0 a0 a1 a2 a3 a4)) (L18_55x0_k0_6 (Y18_0 a0 a1 a2 a3 a4)) (L18_55x0_k0_7 (Y18_0 a0 a1 a2 a3 a4)) (L18_55x0_k0_8 (Y18_0 a0 a1 a2 a3 a4)) (L18_55x0_k0_9 (Y18_0 a0 a1 a2 a3 a4)) (L18_55x0_k0_10 (Y18_0 a0 a1 a2 a3 a4)) (L18_55x0_k0_11 (Y18_0 a0 a1 a2 a3 a4)) (L18_55x0_k0_12 (Y18_0 a0 a1 a2 a3 a4)) (L18_55x0_k0_13 (Y18_0 a0 a1 a2 a3 a4)) (L18_55x0_k0_14 (Y18_0 a0 a1 a2 a3 a4)) (L18_55x0_k0_15 (Y18_0 a0 a1 a2 a3 a4)) (L18_55x0_k0_16 (Y18_0 a0 a1 a2 a3 a4)) (L18_55x0_k0_17 (Y18_0 a0 a1 a2 a3 a4)) (getInt (L18_55x0_k0_0 (Y18_0 a0 a1 a2 a3 a4)) (((L18_55x0_k0_1 (Y18_0 a0 a1 a2 a3 a4))+((Int.toNat (L18_55x0_k0_3 (Y18_0 a0 a1 a2 a3 a4)))*7))+1)) (getInt (L18_55x0_k0_0 (Y18_0 a0 a1 a2 a3 a4)) ((((L18_55x0_k0_1 (Y18_0 a0 a1 a2 a3 a4))+((Int.toNat (L18_55x0_k0_3 (Y18_0 a0 a1 a2 a3 a4)))*7))+1)+1)) (getInt (L18_55x0_k0_0 (Y18_0 a0 a1 a2 a3 a4)) (((((L18_55x0_k0_1 (Y18_0 a0 a1 a2 a3 a4))+((Int.toNat (L18_55x0_k0_3 (Y18_0 a0 a1 a2 a3 a4)))*7))+1)+1)+1)) (getInt (L18_55x0_k0_0 (Y18_0 a0 a1 a2 a3 a4)) ((((((L18_55x0_k0_1 (Y18_0 a0 a1 a2 a3 a4))+((Int.toNat (L18_55x0_k0_3 (Y18_0 a0 a1 a2 a3 a4)))*7))+1)+1)+1)+1)) (getInt (L18_55x0_k0_0 (Y18_0 a0 a1 a2 a3 a4)) (((((((L18_55x0_k0_1 (Y18_0 a0 a1 a2 a3 a4))+((Int.toNat (L18_55x0_k0_3 (Y18_0 a0 a1 a2 a3 a4)))*7))+1)+1)+1)+1)+1)) (getInt (L18_55x0_k0_0 (Y18_0 a0 a1 a2 a3 a4)) ((((((((L18_55x0_k0_1 (Y18_0 a0 a1 a2 a3 a4))+((Int.toNat (L18_55x0_k0_3 (Y18_0 a0 a1 a2 a3 a4)))*7))+1)+1)+1)+1)+1)+1)))
def rt18 (a0:Array Value)(a1 a2:Nat)(a3 a4:Int):RT R18 :=let u0:=(Y18_1 a0 a1 a2 a3 a4);let u1:=(Y18_0 a0 a1 a2 a3 a4);let u2:=(L18_55x0_k0_3 u1);let u3:=(Leaf.int .i64);
 .br (F53_ok a0 a1 a2) (.br (not (decide ((F53_1 a0 a1 a2)=(0:Int)))) (.leaf ⟨(0:Int),(0:Int),(0:Int),(0:Int),(F53_1 a0 a1 a2)⟩) (.br (F54_ok a3 a4 (2000000000:Int)) (.br (not (F54_0 a3 a4 (2000000000:Int))) (.leaf ⟨(0:Int),(0:Int),(0:Int),(0:Int),(7:Int)⟩) (.br (F56_ok a0 a1 a2)
   (.sw (eqCode (Lp18_55x0.c) (Lp18_55x0.c)) true (by simp only[eqCode_self,arrEq_self]) (.br (L18_55x0_k0 u1) (.br (and (decide ((0:Int)≤u2)) (decide (u2<(Int.ofNat (L18_55x0_k0_2 u1))))) (.br (rdOk (L18_55x0_k0_0 u1) [u3,u3,u3,u3,u3,u3] (((L18_55x0_k0_1 u1)+((Int.toNat u2)*7))+1)) (.br (and (decide ((0:Int)≤(IntKind.wrap .i64 (u2+(1:Int))))) (and true (and (decide ((Int.toNat (IntKind.wrap .i64 (u2+(1:Int))))≤(L18_55x0_k0_2 u1))) (decide ((L18_55x0_k0_2 u1)≤(L18_55x0_k0_2 u1))))))
      (.sw (eqCode (Lp18_55x1.c) (Lp18_55x1.c)) true (by simp only[eqCode_self,arrEq_self]) (.br (L18_55x1_k0 u0) (mq a3 (mq a4 (mq a3 (mq a4 (.br (decide ((L18_55x1_k0_0 u0)=a3)) (.br (decide ((L18_55x1_k0_1 u0)=a4)) (.br (decide ((L18_55x1_k0_0 u0)=a3))
   (.br (decide ((L18_55x1_k0_1 u0)=a4)) (.leaf ⟨(F58_0 (L18_55x1_k0_14 u0) (L18_55x1_k0_15 u0) (L18_55x1_k0_16 u0) (L18_55x1_k0_17 u0) (L18_55x1_k0_18 u0) (L18_55x1_k0_19 u0)),(F58_1 (L18_55x1_k0_14 u0) (L18_55x1_k0_15 u0) (L18_55x1_k0_16 u0) (L18_55x1_k0_17 u0) (L18_55x1_k0_18 u0) (L18_55x1_k0_19 u0)),(F58_2 (L18_55x1_k0_14 u0) (L18_55x1_k0_15 u0) (L18_55x1_k0_16 u0) (L18_55x1_k0_17 u0) (L18_55x1_k0_18 u0) (L18_55x1_k0_19 u0)),(F58_3 (L18_55x1_k0_14 u0) (L18_55x1_k0_15 u0) (L18_55x1_k0_16 u0) (L18_55x1_k0_17 u0) (L18_55x1_k0_18 u0) (L18_55x1_k0_19 u0)),(0:Int)⟩) (.no)) (.no)) (.no)) (.no)))))) (.no)) (.no)) (.no)) (.no)) (.no)) (.no)) (.no)) (.no))) (.no))) (.no)
def en18 (r:R18):Value:=(.tuple ⟨[(.agg ⟨[(.int .i64 r.r0),(.int .i64 r.r1),(.int .i64 r.r2),(.int .i64 r.r3)]⟩),(.int .i64 r.r4)]⟩)
theorem T18 (J55x0:Task→List Value)(J55x1:Task→List Value)(a0:Array Value)(a1 a2:Nat)(a3 a4:Int):evC Try.prog (Ans.c (p53.or (p54.or (p56.or (p57.or (p58.or ((la18_55x0 J55x0).or (la18_55x1 J55x1)))))))) 60 (.call 18 ⟨[(lstV a0 a1 a2 6),(.agg ⟨[(.int .i64 a3),(.int .i64 a4)]⟩)]⟩ ⟨[],0,[]⟩) (frzK [0,0])=(rt18 a0 a1 a2 a3 a4).out (fun r=>.ret (en18 r) ⟨[],0,[]⟩):=by kernel_rfl
def F18 (a0:Array Value)(a1 a2:Nat)(a3 a4:Int):Option R18:=(rt18 a0 a1 a2 a3 a4).val
section
variable (a0:Array Value) (a1 a2:Nat) (a3 a4:Int)
def F18_ok:Bool:=(F18 a0 a1 a2 a3 a4).isSome
def F18_0:Int:=match F18 a0 a1 a2 a3 a4 with | some r=>r.r0 | none=>0
def F18_1:Int:=match F18 a0 a1 a2 a3 a4 with | some r=>r.r1 | none=>0
def F18_2:Int:=match F18 a0 a1 a2 a3 a4 with | some r=>r.r2 | none=>0
def F18_3:Int:=match F18 a0 a1 a2 a3 a4 with | some r=>r.r3 | none=>0
def F18_4:Int:=match F18 a0 a1 a2 a3 a4 with | some r=>r.r4 | none=>0
end
def dec18:Task→Option (A18×Hp)
 | .call g ⟨[(.func (.via 0 ⟨[]⟩ 0 true) a0 ⟨[.slice (some ⟨0,a1,none⟩) a2 6]⟩),(.agg ⟨[(.int .i64 a3),(.int .i64 a4)]⟩)]⟩ h=>(match Nat.beq g 18 with | true=>some (⟨a0,a1,a2,a3,a4⟩,h) | false=>none)
 | _=>none
def alt18 (x:A18)(h:Hp):AT:=.br (F18_ok x.a0 x.a1 x.a2 x.a3 x.a4) (.leaf (.ret (.tuple ⟨[(.agg ⟨[(.int .i64 (F18_0 x.a0 x.a1 x.a2 x.a3 x.a4)),(.int .i64 (F18_1 x.a0 x.a1 x.a2 x.a3 x.a4)),(.int .i64 (F18_2 x.a0 x.a1 x.a2 x.a3 x.a4)),(.int .i64 (F18_3 x.a0 x.a1 x.a2 x.a3 x.a4))]⟩),(.int .i64 (F18_4 x.a0 x.a1 x.a2 x.a3 x.a4))]⟩) h)) .no
def p18:Ans:=fnAns dec18 alt18
theorem ha18:∀(x:A18) (h:Hp)(o:Out),(alt18 x h).out=some o→∃r,(rt18 x.a0 x.a1 x.a2 x.a3 x.a4).val=some r∧o=.ret (en18 r) h:=by
 intro x h o e;unfold alt18 at e;simp only[AT.out]at e;obtain ⟨g,e⟩:=cond_some e;unfold F18_ok at g;obtain ⟨r,hF⟩:=Option.isSome_iff_exists.1 g
 refine ⟨r,by delta F18 at hF;exact hF,?_⟩
 simp only[Option.some.injEq]at e;rw[← e]
 unfold F18_0 F18_1 F18_2 F18_3 F18_4;rw[hF]<;>rfl
theorem hd18:∀(t:Task) (x:A18)(h:Hp),dec18 t=some (x,h)→t=.call 18 ⟨[(lstV x.a0 x.a1 x.a2 6),(.agg ⟨[(.int .i64 x.a3),(.int .i64 x.a4)]⟩)]⟩ h:=by
 intro t x h e;unfold dec18 at e
 split at e
 case h_2=>cases e
 split at e
 case h_2=>cases e
 rename_i hg;simp only[Option.some.injEq,Prod.mk.injEq]at e;obtain ⟨rfl,rfl⟩:=e;rw[Nat.eq_of_beq_eq_true hg]
theorem known18:Known Try.prog p18:=by
 obtain ⟨J55x0,hJ55x0⟩:=kl18_55x0;obtain ⟨J55x1,hJ55x1⟩:=kl18_55x1
 exact Known.fn noNG mixed (Known.or known53 (Known.or known54 (Known.or known56 (Known.or known57 (Known.or known58 (Known.or hJ55x0 hJ55x1)))))) (n:=60) (zs:=[0,0]) 18 (fun x:A18=>[(lstV x.a0 x.a1 x.a2 6),(.agg ⟨[(.int .i64 x.a3),(.int .i64 x.a4)]⟩)]) (fun x=>rt18 x.a0 x.a1 x.a2 x.a3 x.a4) en18 (fun x=>T18 J55x0 J55x1 x.a0 x.a1 x.a2 x.a3 x.a4) (fun x=>rfl) dec18 alt18 hd18 ha18
structure R95 where
 (r0 r1:Int)
structure A95 where
 (a0:Int)
def rt95 (a0:Int):RT R95 :=
 .leaf ⟨a0,a0⟩
def en95 (r:R95):Value:=(.agg ⟨[(.int .i64 r.r0),(.int .i64 r.r1)]⟩)
theorem T95  (a0:Int):evC Try.prog (Ans.c (fun _=>none:Ans)) 60 (.call 95 ⟨[(.int .i64 a0)]⟩ ⟨[],0,[]⟩) (frzK [0])=(rt95 a0).out (fun r=>.ret (en95 r) ⟨[],0,[]⟩):=by kernel_rfl
def F95 (a0:Int):Option R95:=(rt95 a0).val
section
variable (a0:Int)
def F95_ok:Bool:=(F95 a0).isSome
def F95_0:Int:=match F95 a0 with | some r=>r.r0 | none=>0
def F95_1:Int:=match F95 a0 with | some r=>r.r1 | none=>0
end
def dec95:Task→Option (A95×Hp)
 | .call g ⟨[(.int .i64 a0)]⟩ h=>(match Nat.beq g 95 with | true=>some (⟨a0⟩,h) | false=>none)
 | _=>none
def alt95 (x:A95)(h:Hp):AT:=.br (F95_ok x.a0) (.leaf (.ret (.agg ⟨[(.int .i64 (F95_0 x.a0)),(.int .i64 (F95_1 x.a0))]⟩) h)) .no
def p95:Ans:=fnAns dec95 alt95
theorem ha95:∀(x:A95) (h:Hp)(o:Out),(alt95 x h).out=some o→∃r,(rt95 x.a0).val=some r∧o=.ret (en95 r) h:=by
 intro x h o e;unfold alt95 at e;simp only[AT.out]at e;obtain ⟨g,e⟩:=cond_some e;unfold F95_ok at g;obtain ⟨r,hF⟩:=Option.isSome_iff_exists.1 g
 refine ⟨r,by delta F95 at hF;exact hF,?_⟩
 simp only[Option.some.injEq]at e;rw[← e]
 unfold F95_0 F95_1;rw[hF]<;>rfl
theorem hd95:∀(t:Task) (x:A95)(h:Hp),dec95 t=some (x,h)→t=.call 95 ⟨[(.int .i64 x.a0)]⟩ h:=by
 intro t x h e;unfold dec95 at e
 split at e
 case h_2=>cases e
 split at e
 case h_2=>cases e
 rename_i hg;simp only[Option.some.injEq,Prod.mk.injEq]at e;obtain ⟨rfl,rfl⟩:=e;rw[Nat.eq_of_beq_eq_true hg]
theorem known95:Known Try.prog p95:=by
 exact Known.fn noNG mixed (Known.nothing Try.prog) (n:=60) (zs:=[0]) 95 (fun x:A95=>[(.int .i64 x.a0)]) (fun x=>rt95 x.a0) en95 (fun x=>T95  x.a0) (fun x=>rfl) dec95 alt95 hd95 ha95
structure X63_0 where
 own:Option (Array Value×Nat)
 (v0:Array Value)
 (v1 v2:Nat)
 (v3 v4:Int)
inductive D63_0 where
 | k0 (d0:Array Value) (d1 d2:Nat)
def Lp63_0:LoopG X63_0 D63_0 where
 c:=(theLoop Try.prog 63 0)
 N:=28
 M:=0
 S:=[6,7,8]
 os:=3
 sz:=3
 z:=3
 own:=fun x=>x.own
 sl:=fun x=>[(lstV x.v0 x.v1 x.v2 2),(.int .i64 x.v3),(.int .i64 x.v4)]
 hp:=fun x=>[]
 ex:=fun d=>match d with | .k0 ..=>.exit 0
 pick:=fun e=>match e with | .exit 0=>[3] | _=>[]
 dv:=fun d=>match d with | .k0 d0 d1 d2=>[(lstV d0 d1 d2 3)]
 dh:=fun d=>match d with | .k0 d0 d1 d2=>[]
theorem ok63_0:Lp63_0.OkG:=⟨⟨fun x=>rfl,fun x=>rfl,fun x=>rfl,fun x=>rfl,fun d=>by cases d<;>rfl,fun d=>by cases d<;>rfl,fun d=>by cases d<;>rfl,fun d=>by cases d<;>(intro h;cases h),fun d=>by cases d<;>rfl,fun d=>by cases d<;>rfl⟩,by decide,by decide,fun d=>match d with | .k0 ..=>(show ([3]:List Nat).Nodup by decide),fun d=>match d with | .k0 ..=>(show ∀k∈([3]:List Nat),k<28 by decide)⟩
def rd63_0 (x:X63_0):RT (Sum X63_0 D63_0):=match x with
 | ⟨none,v0,v1,v2,v3,v4⟩ =>let u0:=(getInt v0 (v1+((Int.toNat v4)*2)));
   .br (decide (v4<v3)) (.br (and (decide ((0:Int)≤v4)) (decide (v4<(Int.ofNat v2)))) (.br (rdOk v0 [(Leaf.int .i64),(Leaf.int .i64)] (v1+((Int.toNat v4)*2))) (mq u0 (mq u0 (.leaf (.inl ⟨(some (⟨[(.int .i64 u0),(.int .i64 (F95_0 (getInt v0 ((v1+((Int.toNat v4)*2))+1)))),(.int .i64 (F95_1 (getInt v0 ((v1+((Int.toNat v4)*2))+1))))]⟩,1)),v0,v1,v2,v3,(IntKind.wrap .i64 (v4+(1:Int)))⟩)))) (.no)) (.no)) (.leaf (.inr (.k0 (⟨[]⟩) 0 0)))
 | ⟨some (oa,ol),v0,v1,v2,v3,v4⟩ =>let u0:=(getInt v0 ((v1+((Int.toNat v4)*2))+1));let u1:=(getInt v0 (v1+((Int.toNat v4)*2)));
   .br (decide (v4<v3)) (.br (and (decide ((0:Int)≤v4)) (decide (v4<(Int.ofNat v2)))) (.br (rdOk v0 [(Leaf.int .i64),(Leaf.int .i64)] (v1+((Int.toNat v4)*2))) (.br (and (decide (((ol+1)*24)≤140737488355328)) (decide ((ol+1)≤4611686018427387904))) (.br (decide ((0+(ol*3))≤(Array.size oa))) (mq u1 (mq u1 (.br (allFz (apB (Array.extract oa 0 (0+(ol*3))) ⟨[(.int .i64 u1),(.int .i64 (F95_0 u0)),(.int .i64 (F95_1 u0))]⟩)) (.leaf (.inl ⟨(some ((apB (Array.extract oa 0 (0+(ol*3))) ⟨[(.int .i64 u1),(.int .i64 (F95_0 u0)),(.int .i64 (F95_1 u0))]⟩),(ol+1))),v0,v1,v2,v3,(IntKind.wrap .i64 (v4+(1:Int)))⟩)) (.no)))) (.no)) (.no)) (.no)) (.no)) (.br (and (allFz oa) (decide ((0+(ol*3))≤(Array.size oa)))) (.leaf (.inr (.k0 oa 0 ol))) (.no))
theorem T63_0n  (y:List Value) (v0:Array Value) (v1 v2:Nat) (v3 v4:Int):evC Try.prog (Ans.c p95) 60 (.code none (theLoop Try.prog 63 0) ⟨sets (junkF 28 y) [(3,.slice none 0 0),(6,(lstV v0 v1 v2 2)),(7,(.int .i64 v3)),(8,(.int .i64 v4))],[],⟨[],0,[]⟩⟩) (gK 28 0 3 3 [6,7,8] Lp63_0.pick)=(rd63_0 ⟨none,v0,v1,v2,v3,v4⟩).out Lp63_0.encG:=by kernel_rfl
theorem T63_0s  (y:List Value) (oa:Array Value) (ol:Nat) (v0:Array Value) (v1 v2:Nat) (v3 v4:Int):evC Try.prog (Ans.c p95) 60 (.code none (theLoop Try.prog 63 0) ⟨sets (junkF 28 y) [(3,.slice (some ⟨0,0,none⟩) ol 3),(6,(lstV v0 v1 v2 2)),(7,(.int .i64 v3)),(8,(.int .i64 v4))],[],⟨[.cells oa false],0,[]⟩⟩) (gK 28 0 3 3 [6,7,8] Lp63_0.pick)=(rd63_0 ⟨some (oa,ol),v0,v1,v2,v3,v4⟩).out Lp63_0.encG:=by kernel_rfl
theorem T63_0  (x:X63_0) (y:List Value):evC Try.prog (Ans.c p95) 60 (Lp63_0.headG x y) (gK Lp63_0.N Lp63_0.M Lp63_0.os Lp63_0.z Lp63_0.S Lp63_0.pick)=(rd63_0 x).out Lp63_0.encG:=by
 obtain ⟨own,v0,v1,v2,v3,v4⟩:=x
 cases own with
 | none=>exact T63_0n  y v0 v1 v2 v3 v4
 | some al=>obtain ⟨oa,ol⟩:=al;exact T63_0s  y oa ol v0 v1 v2 v3 v4
def L63_0 (x:X63_0):Option D63_0:=loopR rd63_0 x
section
variable (x:X63_0)
def L63_0_k0:Bool:=match L63_0 x with | some (.k0 ..)=>true | _=>false
def Qk0:Array Value:=match L63_0 x with | some (.k0 d _ _)=>d | _=>#[]
def Qk1:Nat:=match L63_0 x with | some (.k0 _ d _)=>d | _=>0
def Qk2:Nat:=match L63_0 x with | some (.k0 _ _ d)=>d | _=>0
end
def dec63_0:Task→Option (Code×X63_0)
 | .code none (.loop code) ⟨t,[],⟨[],0,[]⟩⟩ =>
  (match Nat.beq (firstReg code) 3,lenIs t 28,lget t 3,lget t 6,lget t 7,lget t 8 with
  | true,true,.slice none 0 0,(.func (.via 0 ⟨[]⟩ 0 true) v0 ⟨[.slice (some ⟨0,v1,none⟩) v2 2]⟩),(.int .i64 v3),(.int .i64 v4)=>some (code,⟨none,v0,v1,v2,v3,v4⟩)
  | _,_,_,_,_,_=>none)
 | .code none (.loop code) ⟨t,[],⟨[.cells oa false],0,[]⟩⟩ =>
  (match Nat.beq (firstReg code) 3,lenIs t 28,lget t 3,lget t 6,lget t 7,lget t 8 with
  | true,true,.slice (some ⟨0,0,none⟩) ol 3,(.func (.via 0 ⟨[]⟩ 0 true) v0 ⟨[.slice (some ⟨0,v1,none⟩) v2 2]⟩),(.int .i64 v3),(.int .i64 v4)=>some (code,⟨(some (oa,ol)),v0,v1,v2,v3,v4⟩)
  | _,_,_,_,_,_=>none)
 | _=>none
def alt63_0 (x:X63_0)(j:List Value):AT:=match x.own with
 | none=>.br (L63_0_k0 x) (loopEnd 28 (.exit 0) [(3,(lstV (Qk0 x) (Qk1 x) (Qk2 x) 3))] ⟨[],0,[]⟩ j) (.no)
 | some (oa,ol)=>.br (allFz oa) (.br (L63_0_k0 x) (loopEnd 28 (.exit 0) [(3,(lstV (Qk0 x) (Qk1 x) (Qk2 x) 3))] ⟨[.dead],0,[]⟩ j) (.no)) .no
def la63_0 (J:Task→List Value):Ans:=loopAns Lp63_0.c dec63_0 alt63_0 J
theorem ha63_0:∀(x:X63_0) (j:List Value)(o:Out),(alt63_0 x j).out=some o→(∀a l,Lp63_0.own x=some (a,l)→allFz a=true)∧∃d,loopR rd63_0 x=some d∧o=Lp63_0.tailG x d j:=by
 intro x j o h;obtain ⟨own,v0,v1,v2,v3,v4⟩:=x
 cases own with
 | none =>
  refine ⟨fun a l e=>(by cases e),?_⟩
  cases hL:L63_0 ⟨none,v0,v1,v2,v3,v4⟩ with
  | none=>simp [alt63_0,L63_0_k0,Qk0,Qk1,Qk2,hL,AT.out]at h
  | some d =>
   refine ⟨d,hL,?_⟩
   cases d<;>(simp only[alt63_0,L63_0_k0,Qk0,Qk1,Qk2,hL,AT.out,loopEnd,cond_true,cond_false,Option.some.injEq]at h;rw[← h];rfl)
 | some al =>
  obtain ⟨oa,ol⟩:=al
  obtain ⟨h1,h⟩:=cond_some (show cond (allFz oa) _ none=some o from h)
  refine ⟨fun a l e=>(by cases e;exact h1),?_⟩
  cases hL:L63_0 ⟨some (oa,ol),v0,v1,v2,v3,v4⟩ with
  | none=>simp [L63_0_k0,Qk0,Qk1,Qk2,hL,AT.out]at h
  | some d =>
   refine ⟨d,hL,?_⟩
   cases d<;>(simp only[L63_0_k0,Qk0,Qk1,Qk2,hL,AT.out,loopEnd,cond_true,cond_false,Option.some.injEq]at h;rw[← h];rfl)
theorem hd63_0:∀(t:Task) (c:Code)(x:X63_0),dec63_0 t=some (c,x)→c=Lp63_0.c→∃T,t=.code none (.loop Lp63_0.c) ⟨T,[],⟨Lp63_0.hp x++Lp63_0.ownB x,0,[]⟩⟩∧T.length=Lp63_0.N∧∀kv∈(Lp63_0.os::Lp63_0.S).zip (Lp63_0.ownV x::Lp63_0.sl x),lget T kv.1=kv.2:=by
 intro t c x h hc;unfold dec63_0 at h
 split at h
 case h_3=>cases h
 all_goals
  split at h
  case h_2=>cases h
  simp only[Option.some.injEq,Prod.mk.injEq]at h;obtain ⟨rfl,rfl⟩:=h;subst hc
  refine ⟨_,rfl,lenIs_eq _ _ (by assumption),?_⟩
  intro kv hk;simp only[Lp63_0,LoopG.ownV,List.zip_cons_cons,List.zip_nil_right,List.mem_cons,List.not_mem_nil,or_false]at hk
  rcases hk with rfl | rfl | rfl | rfl<;>assumption
theorem kl63_0:∃J,Known Try.prog (la63_0 J):=by
 exact LoopG.known noNG mixed ok63_0 known95 (n:=60) (rd:=rd63_0) (fun x j _=>T63_0  x j) dec63_0 alt63_0 hd63_0 ha63_0
structure R63 where
 (r0:Array Value)
 (r1 r2:Nat)
structure A63 where
 (a0:Array Value)
 (a1 a2:Nat)
def rt63 (a0:Array Value)(a1 a2:Nat):RT R63 :=
 .sw (eqCode (Lp63_0.c) (Lp63_0.c)) true (by simp only[eqCode_self,arrEq_self]) (.br (L63_0_k0 (X63_0.mk none a0 a1 a2 (Int.ofNat a2) (0:Int))) (.br (decide ((Int.ofNat (Qk2 (X63_0.mk none a0 a1 a2 (Int.ofNat a2) (0:Int))))=(0:Int))) (.leaf ⟨⟨[(.int .i64 (0:Int)),(.int .i64 (0:Int)),(.int .i64 (0:Int))]⟩,0,1⟩) (.leaf ⟨(Qk0 (X63_0.mk none a0 a1 a2 (Int.ofNat a2) (0:Int))),(Qk1 (X63_0.mk none a0 a1 a2 (Int.ofNat a2) (0:Int))),(Qk2 (X63_0.mk none a0 a1 a2 (Int.ofNat a2) (0:Int)))⟩)) (.no)) (.no)
def en63 (r:R63):Value:=(lstV r.r0 r.r1 r.r2 3)
theorem T63 (J0:Task→List Value)(a0:Array Value)(a1 a2:Nat):evC Try.prog (Ans.c (p95.or (la63_0 J0))) 60 (.call 63 ⟨[(lstV a0 a1 a2 2)]⟩ ⟨[],0,[]⟩) (frzK [3])=(rt63 a0 a1 a2).out (fun r=>.ret (en63 r) ⟨[],0,[]⟩):=by kernel_rfl
def F63 (a0:Array Value)(a1 a2:Nat):Option R63:=(rt63 a0 a1 a2).val
section
variable (a0:Array Value) (a1 a2:Nat)
def F63_ok:Bool:=(F63 a0 a1 a2).isSome
def F63_0:Array Value:=match F63 a0 a1 a2 with | some r=>r.r0 | none=>#[]
def F63_1:Nat:=match F63 a0 a1 a2 with | some r=>r.r1 | none=>0
def F63_2:Nat:=match F63 a0 a1 a2 with | some r=>r.r2 | none=>0
end
def dec63:Task→Option (A63×Hp)
 | .call g ⟨[(.func (.via 0 ⟨[]⟩ 0 true) a0 ⟨[.slice (some ⟨0,a1,none⟩) a2 2]⟩)]⟩ h=>(match Nat.beq g 63 with | true=>some (⟨a0,a1,a2⟩,h) | false=>none)
 | _=>none
def alt63 (x:A63)(h:Hp):AT:=.br (F63_ok x.a0 x.a1 x.a2) (.leaf (.ret (lstV (F63_0 x.a0 x.a1 x.a2) (F63_1 x.a0 x.a1 x.a2) (F63_2 x.a0 x.a1 x.a2) 3) h)) .no
def p63:Ans:=fnAns dec63 alt63
theorem ha63:∀(x:A63) (h:Hp)(o:Out),(alt63 x h).out=some o→∃r,(rt63 x.a0 x.a1 x.a2).val=some r∧o=.ret (en63 r) h:=by
 intro x h o e;unfold alt63 at e;simp only[AT.out]at e;obtain ⟨g,e⟩:=cond_some e;unfold F63_ok at g;obtain ⟨r,hF⟩:=Option.isSome_iff_exists.1 g
 refine ⟨r,by delta F63 at hF;exact hF,?_⟩
 simp only[Option.some.injEq]at e;rw[← e]
 unfold F63_0 F63_1 F63_2;rw[hF]<;>rfl
theorem hd63:∀(t:Task) (x:A63)(h:Hp),dec63 t=some (x,h)→t=.call 63 ⟨[(lstV x.a0 x.a1 x.a2 2)]⟩ h:=by
 intro t x h e;unfold dec63 at e
 split at e
 case h_2=>cases e
 split at e
 case h_2=>cases e
 rename_i hg;simp only[Option.some.injEq,Prod.mk.injEq]at e;obtain ⟨rfl,rfl⟩:=e;rw[Nat.eq_of_beq_eq_true hg]
theorem known63:Known Try.prog p63:=by
 obtain ⟨J0,hJ0⟩:=kl63_0
 exact Known.fn noNG mixed (Known.or known95 hJ0) (n:=60) (zs:=[3]) 63 (fun x:A63=>[(lstV x.a0 x.a1 x.a2 2)]) (fun x=>rt63 x.a0 x.a1 x.a2) en63 (fun x=>T63 J0 x.a0 x.a1 x.a2) (fun x=>rfl) dec63 alt63 hd63 ha63
structure X20_62x0 where
 (hb:Nat)
 hw:List Nat
 (v0:Array Value)
 (v1 v2:Nat)
 (v3:Int)
 (v4:ByteArray)
 (v5 v6:Int)
 (v7:Array Value)
 (v8 v9:Nat)
 (v10:Array Value)
 (v11 v12:Nat)
 (v13:Array Value)
 (v14 v15:Nat)
 (v16 v17:Int)
 (v18 v19:Int)
 (v20 v21:Int)
 (v22 v23:Int)
inductive D20_62x0 where
 | k0 (d0:Array Value) (d1 d2:Nat) (d3:Int) (d4:ByteArray) (d5 d6:Int) (d7:Array Value) (d8 d9:Nat) (d10:Array Value) (d11 d12:Nat) (d13:Array Value) (d14 d15:Nat) (d16 d17:Int) (d18 d19:Int) (d20 d21:Int) (d22 d23:Int)
def Lp20_62x0:LoopS X20_62x0 D20_62x0 where
 c:=(theLoop Try.prog 62 0)
 N:=55
 M:=5
 S:=[0,2,4,6,7]
 Bs:=[]
 q:=none
 sz:=0
 z:=0
 own:=fun x=>none
 sl:=fun x=>[(lstV x.v0 x.v1 x.v2 3),(.func (.func 64) ⟨[]⟩ ⟨[]⟩),(Value.pointer (Option.some (Addr.mk 3 0 Option.none))),(Value.pointer (Option.some (Addr.mk 4 0 Option.none))),(.int .i64 x.v3)]
 hp:=fun x w=>[.cells ⟨[(.string x.v4),(.int .i64 x.v5),(.int .i64 x.v6),(lstV x.v7 x.v8 x.v9 2),(lstV x.v10 x.v11 x.v12 13),(lstV x.v13 x.v14 x.v15 13)]⟩ false,.cells ⟨[(.int .i64 x.v16),(.int .i64 x.v17)]⟩ false,.cells ⟨[(.int .i64 x.v18),(.int .i64 x.v19)]⟩ false,.cells ⟨[(.int .i64 x.v20),(.int .i64 x.v21)]⟩ false,.cells ⟨[(.int .i64 x.v22),(.int .i64 x.v23)]⟩ false]
 ex:=fun d=>match d with | .k0 ..=>.exit 0
 pick:=fun e=>match e with | .exit 0=>[0,2,4,6,7] | _=>[]
 dv:=fun d=>match d with | .k0 d0 d1 d2 d3 d4 d5 d6 d7 d8 d9 d10 d11 d12 d13 d14 d15 d16 d17 d18 d19 d20 d21 d22 d23=>[(lstV d0 d1 d2 3),(.func (.func 64) ⟨[]⟩ ⟨[]⟩),(Value.pointer (Option.some (Addr.mk 3 0 Option.none))),(Value.pointer (Option.some (Addr.mk 4 0 Option.none))),(.int .i64 d3)]
 dh:=fun d=>match d with | .k0 d0 d1 d2 d3 d4 d5 d6 d7 d8 d9 d10 d11 d12 d13 d14 d15 d16 d17 d18 d19 d20 d21 d22 d23=>[.cells ⟨[(.string d4),(.int .i64 d5),(.int .i64 d6),(lstV d7 d8 d9 2),(lstV d10 d11 d12 13),(lstV d13 d14 d15 13)]⟩ false,.cells ⟨[(.int .i64 d16),(.int .i64 d17)]⟩ false,.cells ⟨[(.int .i64 d18),(.int .i64 d19)]⟩ false,.cells ⟨[(.int .i64 d20),(.int .i64 d21)]⟩ false,.cells ⟨[(.int .i64 d22),(.int .i64 d23)]⟩ false]
theorem ok20_62x0:Lp20_62x0.OkS:=⟨fun x=>rfl,fun x=>rfl,fun x w=>rfl,fun x=>(fun _=>rfl),fun x w=>rfl,fun x w=>rfl,(fun q j h=>by cases h),fun d=>by cases d<;>rfl,fun d=>by cases d<;>rfl,fun d=>match d with | .k0 d0 d1 d2 d3 d4 d5 d6 d7 d8 d9 d10 d11 d12 d13 d14 d15 d16 d17 d18 d19 d20 d21 d22 d23=>(fun _=>rfl),fun d=>by cases d<;>(intro h;cases h),fun d=>by cases d<;>rfl,fun d=>by cases d<;>rfl,by decide,by decide⟩
def rd20_62x0 (x:X20_62x0):RT (Sum X20_62x0 D20_62x0):=match x with
 | ⟨hb,hw,v0,v1,v2,v3,v4,v5,v6,v7,v8,v9,v10,v11,v12,v13,v14,v15,v16,v17,v18,v19,v20,v21,v22,v23⟩ =>let u0:=(IntKind.wrap .i64 (v3+(1:Int)));
   .br (decide (u0<(Int.ofNat v2))) (.br (and (decide ((0:Int)≤u0)) (decide (u0<(Int.ofNat v2)))) (.br (isInt .i64 v0 ((v1+((Int.toNat u0)*3))+0)) (.br (decide ((getInt v0 ((v1+((Int.toNat u0)*3))+0))≤v20)) (.leaf (.inl ⟨hb,hw,v0,v1,v2,u0,v4,v5,v6,v7,v8,v9,v10,v11,v12,v13,v14,v15,v16,v17,v18,v19,v20,v21,v22,v23⟩)) (.leaf (.inr (.k0 v0 v1 v2 v3 v4 v5 v6 v7 v8 v9 v10 v11 v12 v13 v14 v15 v16 v17 v18 v19 v20 v21 v22 v23)))) (.no)) (.no)) (.leaf (.inr (.k0 v0 v1 v2 v3 v4 v5 v6 v7 v8 v9 v10 v11 v12 v13 v14 v15 v16 v17 v18 v19 v20 v21 v22 v23)))
theorem T20_62x0n  (y:List Value) (hb:Nat) (hw:List Nat) (v0:Array Value) (v1 v2:Nat) (v3:Int) (v4:ByteArray) (v5 v6:Int) (v7:Array Value) (v8 v9:Nat) (v10:Array Value) (v11 v12:Nat) (v13:Array Value) (v14 v15:Nat) (v16 v17:Int) (v18 v19:Int) (v20 v21:Int) (v22 v23:Int):evC Try.prog (Ans.c (p13.or (p54.or (p63.or p64)))) 60 (.code none (theLoop Try.prog 62 0) ⟨sets (junkF 55 y) [(0,(lstV v0 v1 v2 3)),(2,(.func (.func 64) ⟨[]⟩ ⟨[]⟩)),(4,(Value.pointer (some (Addr.mk 3 0 none)))),(6,(Value.pointer (some (Addr.mk 4 0 none)))),(7,(.int .i64 v3))],[],⟨[.cells ⟨[(.string v4),(.int .i64 v5),(.int .i64 v6),(lstV v7 v8 v9 2),(lstV v10 v11 v12 13),(lstV v13 v14 v15 13)]⟩ false,.cells ⟨[(.int .i64 v16),(.int .i64 v17)]⟩ false,.cells ⟨[(.int .i64 v18),(.int .i64 v19)]⟩ false,.cells ⟨[(.int .i64 v20),(.int .i64 v21)]⟩ false,.cells ⟨[(.int .i64 v22),(.int .i64 v23)]⟩ false],0,[]⟩⟩) (kS 55 5 [0,2,4,6,7] Lp20_62x0.pick [] 0 none)=(rd20_62x0 ⟨hb,hw,v0,v1,v2,v3,v4,v5,v6,v7,v8,v9,v10,v11,v12,v13,v14,v15,v16,v17,v18,v19,v20,v21,v22,v23⟩).out Lp20_62x0.encS:=by kernel_rfl
theorem T20_62x0  (x:X20_62x0) (y:List Value):evC Try.prog (Ans.c (p13.or (p54.or (p63.or p64)))) 60 (Lp20_62x0.headS x y) (kS Lp20_62x0.N Lp20_62x0.M Lp20_62x0.S Lp20_62x0.pick Lp20_62x0.Bs Lp20_62x0.z Lp20_62x0.q)=(rd20_62x0 x).out Lp20_62x0.encS:=by
 obtain ⟨hb,hw,v0,v1,v2,v3,v4,v5,v6,v7,v8,v9,v10,v11,v12,v13,v14,v15,v16,v17,v18,v19,v20,v21,v22,v23⟩:=x;exact T20_62x0n  y hb hw v0 v1 v2 v3 v4 v5 v6 v7 v8 v9 v10 v11 v12 v13 v14 v15 v16 v17 v18 v19 v20 v21 v22 v23
def L20_62x0 (x:X20_62x0):Option D20_62x0:=loopR rd20_62x0 x
def L20_62x0_k0 (x:X20_62x0):Bool:=match L20_62x0 x with | some (.k0 ..)=>true | _=>false
def L20_62x0_k0_0 (x:X20_62x0):Array Value:=match L20_62x0 x with | some (.k0 (d0:=d) ..)=>d | _=>#[]
def L20_62x0_k0_1 (x:X20_62x0):Nat:=match L20_62x0 x with | some (.k0 (d1:=d) ..)=>d | _=>0
def L20_62x0_k0_2 (x:X20_62x0):Nat:=match L20_62x0 x with | some (.k0 (d2:=d) ..)=>d | _=>0
def L20_62x0_k0_3 (x:X20_62x0):Int:=match L20_62x0 x with | some (.k0 (d3:=d) ..)=>d | _=>0
def L20_62x0_k0_4 (x:X20_62x0):ByteArray:=match L20_62x0 x with | some (.k0 (d4:=d) ..)=>d | _=>ByteArray.empty
def L20_62x0_k0_5 (x:X20_62x0):Int:=match L20_62x0 x with | some (.k0 (d5:=d) ..)=>d | _=>0
def L20_62x0_k0_6 (x:X20_62x0):Int:=match L20_62x0 x with | some (.k0 (d6:=d) ..)=>d | _=>0
def L20_62x0_k0_7 (x:X20_62x0):Array Value:=match L20_62x0 x with | some (.k0 (d7:=d) ..)=>d | _=>#[]
def L20_62x0_k0_8 (x:X20_62x0):Nat:=match L20_62x0 x with | some (.k0 (d8:=d) ..)=>d | _=>0
def L20_62x0_k0_9 (x:X20_62x0):Nat:=match L20_62x0 x with | some (.k0 (d9:=d) ..)=>d | _=>0
def L20_62x0_k0_10 (x:X20_62x0):Array Value:=match L20_62x0 x with | some (.k0 (d10:=d) ..)=>d | _=>#[]
def L20_62x0_k0_11 (x:X20_62x0):Nat:=match L20_62x0 x with | some (.k0 (d11:=d) ..)=>d | _=>0
def L20_62x0_k0_12 (x:X20_62x0):Nat:=match L20_62x0 x with | some (.k0 (d12:=d) ..)=>d | _=>0
def L20_62x0_k0_13 (x:X20_62x0):Array Value:=match L20_62x0 x with | some (.k0 (d13:=d) ..)=>d | _=>#[]
def L20_62x0_k0_14 (x:X20_62x0):Nat:=match L20_62x0 x with | some (.k0 (d14:=d) ..)=>d | _=>0
def L20_62x0_k0_15 (x:X20_62x0):Nat:=match L20_62x0 x with | some (.k0 (d15:=d) ..)=>d | _=>0
def L20_62x0_k0_16 (x:X20_62x0):Int:=match L20_62x0 x with | some (.k0 (d16:=d) ..)=>d | _=>0
def L20_62x0_k0_17 (x:X20_62x0):Int:=match L20_62x0 x with | some (.k0 (d17:=d) ..)=>d | _=>0
def L20_62x0_k0_18 (x:X20_62x0):Int:=match L20_62x0 x with | some (.k0 (d18:=d) ..)=>d | _=>0
def L20_62x0_k0_19 (x:X20_62x0):Int:=match L20_62x0 x with | some (.k0 (d19:=d) ..)=>d | _=>0
def L20_62x0_k0_20 (x:X20_62x0):Int:=match L20_62x0 x with | some (.k0 (d20:=d) ..)=>d | _=>0
def L20_62x0_k0_21 (x:X20_62x0):Int:=match L20_62x0 x with | some (.k0 (d21:=d) ..)=>d | _=>0
def L20_62x0_k0_22 (x:X20_62x0):Int:=match L20_62x0 x with | some (.k0 (d22:=d) ..)=>d | _=>0
def L20_62x0_k0_23 (x:X20_62x0):Int:=match L20_62x0 x with | some (.k0 (d23:=d) ..)=>d | _=>0
def dec20_62x0:Task→Option (Code×X20_62x0)
 | .code none (.loop code) ⟨t,[],⟨[b0,b1,b2,b3,b4],hb,hw⟩⟩ =>
  (match Nat.beq (firstReg code) 2,lenIs t 55 with
  | true,true=>((dLs 3 (lget t 0)).bind fun q0=>(fun v0 v1 v2=>(dFn 64 (lget t 2)).bind fun q1=>match q1.1,q1.2 with | [],[]=>((dPt 3 0 (lget t 4)).bind fun _=>(dPt 4 0 (lget t 6)).bind fun _=>(dI .i64 (lget t 7)).bind fun v3=>(dCe b0).bind fun l5=>match l5 with | [y5_0,y5_1,y5_2,y5_3,y5_4,y5_5]=>((dSt y5_0).bind fun v4=>(dI .i64 y5_1).bind fun v5=>(dI .i64 y5_2).bind fun v6=>(dLs 2 y5_3).bind fun q9=>(fun v7 v8 v9=>(dLs 13 y5_4).bind fun q10=>(fun v10 v11 v12=>(dLs 13 y5_5).bind fun q11=>(fun v13 v14 v15=>(dCe b1).bind fun l12=>match l12 with | [y12_0,y12_1]=>((dI .i64 y12_0).bind fun v16=>(dI .i64 y12_1).bind fun v17=>(dCe b2).bind fun l15=>match l15 with | [y15_0,y15_1]=>((dI .i64 y15_0).bind fun v18=>(dI .i64 y15_1).bind fun v19=>(dCe b3).bind fun l18=>match l18 with | [y18_0,y18_1]=>((dI .i64 y18_0).bind fun v20=>(dI .i64 y18_1).bind fun v21=>(dCe b4).bind fun l21=>match l21 with | [y21_0,y21_1]=>((dI .i64 y21_0).bind fun v22=>(dI .i64 y21_1).bind fun v23=>some (code,⟨hb,hw,v0,v1,v2,v3,v4,v5,v6,v7,v8,v9,v10,v11,v12,v13,v14,v15,v16,v17,v18,v19,v20,v21,v22,v23⟩)) | _=>none) | _=>none) | _=>none) | _=>none) q11.1 q11.2.1 q11.2.2) q10.1 q10.2.1 q10.2.2) q9.1 q9.2.1 q9.2.2) | _=>none) | _,_=>none) q0.1 q0.2.1 q0.2.2)
  | _,_=>none)
 | _=>none
def alt20_62x0 (x:X20_62x0)(j:List Value):AT:=.br (L20_62x0_k0 x) (loopEnd 55 (.exit 0) [(0,(lstV (L20_62x0_k0_0 x) (L20_62x0_k0_1 x) (L20_62x0_k0_2 x) 3)),(2,(.func (.func 64) ⟨[]⟩ ⟨[]⟩)),(4,(Value.pointer (Option.some (Addr.mk 3 0 Option.none)))),(6,(Value.pointer (Option.some (Addr.mk 4 0 Option.none)))),(7,(.int .i64 (L20_62x0_k0_3 x)))] ⟨[.cells ⟨[(.string (L20_62x0_k0_4 x)),(.int .i64 (L20_62x0_k0_5 x)),(.int .i64 (L20_62x0_k0_6 x)),(lstV (L20_62x0_k0_7 x) (L20_62x0_k0_8 x) (L20_62x0_k0_9 x) 2),(lstV (L20_62x0_k0_10 x) (L20_62x0_k0_11 x) (L20_62x0_k0_12 x) 13),(lstV (L20_62x0_k0_13 x) (L20_62x0_k0_14 x) (L20_62x0_k0_15 x) 13)]⟩ false,.cells ⟨[(.int .i64 (L20_62x0_k0_16 x)),(.int .i64 (L20_62x0_k0_17 x))]⟩ false,.cells ⟨[(.int .i64 (L20_62x0_k0_18 x)),(.int .i64 (L20_62x0_k0_19 x))]⟩ false,.cells ⟨[(.int .i64 (L20_62x0_k0_20 x)),(.int .i64 (L20_62x0_k0_21 x))]⟩ false,.cells ⟨[(.int .i64 (L20_62x0_k0_22 x)),(.int .i64 (L20_62x0_k0_23 x))]⟩ false],x.hb,0::1::2::3::4::x.hw⟩ j) (.no)
def la20_62x0 (J:Task→List Value):Ans:=loopAns Lp20_62x0.c dec20_62x0 alt20_62x0 J
theorem ha20_62x0:∀(x:X20_62x0) (j:List Value)(o:Out),(alt20_62x0 x j).out=some o→Lp20_62x0.good x∧∃d,loopR rd20_62x0 x=some d∧o=Lp20_62x0.tailB x d j x.hb x.hw:=by
 intro x j o h;simp only[alt20_62x0,AT.out]at h
 refine ⟨⟨rfl,fun a l e=>(by cases e)⟩,?_⟩
 cases hL:L20_62x0 x with
 | none=>simp only[L20_62x0_k0,L20_62x0_k0_0,L20_62x0_k0_1,L20_62x0_k0_2,L20_62x0_k0_3,L20_62x0_k0_4,L20_62x0_k0_5,L20_62x0_k0_6,L20_62x0_k0_7,L20_62x0_k0_8,L20_62x0_k0_9,L20_62x0_k0_10,L20_62x0_k0_11,L20_62x0_k0_12,L20_62x0_k0_13,L20_62x0_k0_14,L20_62x0_k0_15,L20_62x0_k0_16,L20_62x0_k0_17,L20_62x0_k0_18,L20_62x0_k0_19,L20_62x0_k0_20,L20_62x0_k0_21,L20_62x0_k0_22,L20_62x0_k0_23,hL,AT.out,cond_false]at h;cases h
 | some d =>
  refine ⟨d,hL,?_⟩
  cases d<;>(simp only[L20_62x0_k0,L20_62x0_k0_0,L20_62x0_k0_1,L20_62x0_k0_2,L20_62x0_k0_3,L20_62x0_k0_4,L20_62x0_k0_5,L20_62x0_k0_6,L20_62x0_k0_7,L20_62x0_k0_8,L20_62x0_k0_9,L20_62x0_k0_10,L20_62x0_k0_11,L20_62x0_k0_12,L20_62x0_k0_13,L20_62x0_k0_14,L20_62x0_k0_15,L20_62x0_k0_16,L20_62x0_k0_17,L20_62x0_k0_18,L20_62x0_k0_19,L20_62x0_k0_20,L20_62x0_k0_21,L20_62x0_k0_22,L20_62x0_k0_23,hL,AT.out,loopEnd,cond_true,cond_false,Option.some.injEq]at h;rw[← h];rfl)
theorem hd20_62x0:∀(t:Task) (c:Code)(x:X20_62x0),dec20_62x0 t=some (c,x)→c=Lp20_62x0.c→∃T H',t=.code none (.loop Lp20_62x0.c) ⟨T,[],⟨H',x.hb,x.hw⟩⟩∧Forgets H' (Lp20_62x0.H x)∧T.length=Lp20_62x0.N∧∀kv∈Lp20_62x0.S.zip (Lp20_62x0.sl x),lget T kv.1=kv.2:=by
 intro t c x h hc;unfold dec20_62x0 at h
 split at h
 ·split at h
  case h_2=>cases h
  rename_i hreg hlen;replace h:=bq h;obtain ⟨_,hh,h⟩:=h;have hh:=dLs_eq hh;replace h:=bq h;obtain ⟨⟨_,_⟩,hh,h⟩:=h
  dsimp only at hh h
  have hh:=dFn_eq hh
  split at h
  case h_2=>cases h
  replace h:=bq h;obtain ⟨_,hh,h⟩:=h;have hh:=dPt_eq hh;replace h:=bq h;obtain ⟨_,hh,h⟩:=h;have hh:=dPt_eq hh;replace h:=bq h;obtain ⟨_,hh,h⟩:=h;have hh:=dI_eq hh;replace h:=bq h;obtain ⟨_,hh,h⟩:=h;obtain rfl:=dCe_eq hh;clear hh
  split at h
  case h_2=>cases h
  replace h:=bq h;obtain ⟨_,hh,h⟩:=h;obtain rfl:=dSt_eq hh;clear hh;(iterate 2 (replace h:=biI h;obtain ⟨_,rfl,h⟩:=h));replace h:=biL h;obtain ⟨_,rfl,h⟩:=h;replace h:=biL h;obtain ⟨_,rfl,h⟩:=h;replace h:=biL h;obtain ⟨_,rfl,h⟩:=h;replace h:=bq h;obtain ⟨_,hh,h⟩:=h;obtain rfl:=dCe_eq hh;clear hh
  split at h
  case h_2=>cases h
  (iterate 2 (replace h:=biI h;obtain ⟨_,rfl,h⟩:=h));replace h:=bq h;obtain ⟨_,hh,h⟩:=h;obtain rfl:=dCe_eq hh;clear hh
  split at h
  case h_2=>cases h
  (iterate 2 (replace h:=biI h;obtain ⟨_,rfl,h⟩:=h));replace h:=bq h;obtain ⟨_,hh,h⟩:=h;obtain rfl:=dCe_eq hh;clear hh
  split at h
  case h_2=>cases h
  (iterate 2 (replace h:=biI h;obtain ⟨_,rfl,h⟩:=h));replace h:=bq h;obtain ⟨_,hh,h⟩:=h;obtain rfl:=dCe_eq hh;clear hh
  split at h
  case h_2=>cases h
  (iterate 2 (replace h:=biI h;obtain ⟨_,rfl,h⟩:=h));simp only[Option.some.injEq,Prod.mk.injEq]at h;obtain ⟨rfl,rfl⟩:=h;subst hc
  refine ⟨_,_,rfl,(Forgets.refl _),lenIs_eq _ _ hlen,?_⟩
  intro kv hk;simp only[Lp20_62x0,List.zip_cons_cons,List.zip_nil_right,List.mem_cons,List.not_mem_nil,or_false]at hk
  rcases hk with rfl | rfl | rfl | rfl | rfl<;>assumption
 ·cases h
theorem kl20_62x0:∃J,Known Try.prog (la20_62x0 J):=by
 exact LoopS.knownB noNG mixed ok20_62x0 (Known.or known13 (Known.or known54 (Known.or known63 known64))) (n:=60) (rd:=rd20_62x0) (fun x j _=>T20_62x0  x j) (fun x=>x.hb) (fun x=>x.hw) dec20_62x0 alt20_62x0 hd20_62x0 ha20_62x0
structure X20_62x1 where
 (hb:Nat)
 hw:List Nat
 (v0:Array Value)
 (v1 v2:Nat)
 (v3 v4:Int)
 (v5:ByteArray)
 (v6 v7:Int)
 (v8:Array Value)
 (v9 v10:Nat)
 (v11:Array Value)
 (v12 v13:Nat)
 (v14:Array Value)
 (v15 v16:Nat)
 (v17 v18:Int)
 (v19 v20:Int)
 (v21 v22:Int)
 (v23 v24:Int)
 (v25 v26:Int)
inductive D20_62x1 where
 | k0 (d0:ByteArray) (d1 d2:Int) (d3:Array Value) (d4 d5:Nat) (d6:Array Value) (d7 d8:Nat) (d9:Array Value) (d10 d11:Nat) (d12 d13:Int) (d14 d15:Int) (d16 d17:Int) (d18 d19:Int) (d20 d21:Int)
def Lp20_62x1:LoopS X20_62x1 D20_62x1 where
 c:=(theLoop Try.prog 62 1)
 N:=55
 M:=6
 S:=[2,4,6,8,37,38,39]
 Bs:=[]
 q:=none
 sz:=0
 z:=0
 own:=fun x=>none
 sl:=fun x=>[(.func (.func 64) ⟨[]⟩ ⟨[]⟩),(Value.pointer (Option.some (Addr.mk 3 0 Option.none))),(Value.pointer (Option.some (Addr.mk 4 0 Option.none))),(Value.pointer (Option.some (Addr.mk 5 0 Option.none))),(lstV x.v0 x.v1 x.v2 3),(.int .i64 x.v3),(.int .i64 x.v4)]
 hp:=fun x w=>[.cells ⟨[(.string x.v5),(.int .i64 x.v6),(.int .i64 x.v7),(lstV x.v8 x.v9 x.v10 2),(lstV x.v11 x.v12 x.v13 13),(lstV x.v14 x.v15 x.v16 13)]⟩ false,.cells ⟨[(.int .i64 x.v17),(.int .i64 x.v18)]⟩ false,.cells ⟨[(.int .i64 x.v19),(.int .i64 x.v20)]⟩ false,.cells ⟨[(.int .i64 x.v21),(.int .i64 x.v22)]⟩ false,.cells ⟨[(.int .i64 x.v23),(.int .i64 x.v24)]⟩ false,.cells ⟨[(.int .i64 x.v25),(.int .i64 x.v26)]⟩ false]
 ex:=fun d=>match d with | .k0 ..=>.exit 2
 pick:=fun e=>match e with | .exit 2=>[6,8] | _=>[]
 dv:=fun d=>match d with | .k0 d0 d1 d2 d3 d4 d5 d6 d7 d8 d9 d10 d11 d12 d13 d14 d15 d16 d17 d18 d19 d20 d21=>[(Value.pointer (Option.some (Addr.mk 4 0 Option.none))),(Value.pointer (Option.some (Addr.mk 5 0 Option.none)))]
 dh:=fun d=>match d with | .k0 d0 d1 d2 d3 d4 d5 d6 d7 d8 d9 d10 d11 d12 d13 d14 d15 d16 d17 d18 d19 d20 d21=>[.cells ⟨[(.string d0),(.int .i64 d1),(.int .i64 d2),(lstV d3 d4 d5 2),(lstV d6 d7 d8 13),(lstV d9 d10 d11 13)]⟩ false,.cells ⟨[(.int .i64 d12),(.int .i64 d13)]⟩ false,.cells ⟨[(.int .i64 d14),(.int .i64 d15)]⟩ false,.cells ⟨[(.int .i64 d16),(.int .i64 d17)]⟩ false,.cells ⟨[(.int .i64 d18),(.int .i64 d19)]⟩ false,.cells ⟨[(.int .i64 d20),(.int .i64 d21)]⟩ false]
theorem ok20_62x1:Lp20_62x1.OkS:=⟨fun x=>rfl,fun x=>rfl,fun x w=>rfl,fun x=>(fun _=>rfl),fun x w=>rfl,fun x w=>rfl,(fun q j h=>by cases h),fun d=>by cases d<;>rfl,fun d=>by cases d<;>rfl,fun d=>match d with | .k0 d0 d1 d2 d3 d4 d5 d6 d7 d8 d9 d10 d11 d12 d13 d14 d15 d16 d17 d18 d19 d20 d21=>(fun _=>rfl),fun d=>by cases d<;>(intro h;cases h),fun d=>by cases d<;>rfl,fun d=>by cases d<;>rfl,by decide,by decide⟩
def rd20_62x1 (x:X20_62x1):RT (Sum X20_62x1 D20_62x1):=match x with
 | ⟨hb,hw,v0,v1,v2,v3,v4,v5,v6,v7,v8,v9,v10,v11,v12,v13,v14,v15,v16,v17,v18,v19,v20,v21,v22,v23,v24,v25,v26⟩ =>let u0:=(Int.toNat v4);
   .br (decide (v4<v3)) (.br (and (decide ((0:Int)≤v4)) (decide (v4<(Int.ofNat v2)))) (.br (rdOk v0 [(Leaf.int .i64),(Leaf.int .i64),(Leaf.int .i64)] (v1+(u0*3))) (.br (decide (v22<(getInt v0 (v1+(u0*3))))) (.leaf (.inr (.k0 v5 v6 v7 v8 v9 v10 v11 v12 v13 v14 v15 v16 v17 v18 v19 v20 v21 v22 v23 v24 v25 v26))) (.leaf (.inl ⟨hb,hw,v0,v1,v2,v3,(IntKind.wrap .i64 (v4+(1:Int))),v5,v6,v7,v8,v9,v10,v11,v12,v13,v14,v15,v16,v17,v18,v19,v20,v21,v22,v23,v24,(F64_0 v25 v26 (getInt v0 ((v1+(u0*3))+1)) (getInt v0 (((v1+(u0*3))+1)+1))),(F64_1 v25 v26 (getInt v0 ((v1+(u0*3))+1)) (getInt v0 (((v1+(u0*3))+1)+1)))⟩))) (.no)) (.no)) (.leaf (.inr (.k0 v5 v6 v7 v8 v9 v10 v11 v12 v13 v14 v15 v16 v17 v18 v19 v20 v21 v22 v23 v24 v25 v26)))
theorem T20_62x1n  (y:List Value) (hb:Nat) (hw:List Nat) (v0:Array Value) (v1 v2:Nat) (v3 v4:Int) (v5:ByteArray) (v6 v7:Int) (v8:Array Value) (v9 v10:Nat) (v11:Array Value) (v12 v13:Nat) (v14:Array Value) (v15 v16:Nat) (v17 v18:Int) (v19 v20:Int) (v21 v22:Int) (v23 v24:Int) (v25 v26:Int):evC Try.prog (Ans.c (p13.or (p54.or (p63.or p64)))) 60 (.code none (theLoop Try.prog 62 1) ⟨sets (junkF 55 y) [(2,(.func (.func 64) ⟨[]⟩ ⟨[]⟩)),(4,(Value.pointer (some (Addr.mk 3 0 none)))),(6,(Value.pointer (some (Addr.mk 4 0 none)))),(8,(Value.pointer (some (Addr.mk 5 0 none)))),(37,(lstV v0 v1 v2 3)),(38,(.int .i64 v3)),(39,(.int .i64 v4))],[],⟨[.cells ⟨[(.string v5),(.int .i64 v6),(.int .i64 v7),(lstV v8 v9 v10 2),(lstV v11 v12 v13 13),(lstV v14 v15 v16 13)]⟩ false,.cells ⟨[(.int .i64 v17),(.int .i64 v18)]⟩ false,.cells ⟨[(.int .i64 v19),(.int .i64 v20)]⟩ false,.cells ⟨[(.int .i64 v21),(.int .i64 v22)]⟩ false,.cells ⟨[(.int .i64 v23),(.int .i64 v24)]⟩ false,.cells ⟨[(.int .i64 v25),(.int .i64 v26)]⟩ false],0,[]⟩⟩) (kS 55 6 [2,4,6,8,37,38,39] Lp20_62x1.pick [] 0 none)=(rd20_62x1 ⟨hb,hw,v0,v1,v2,v3,v4,v5,v6,v7,v8,v9,v10,v11,v12,v13,v14,v15,v16,v17,v18,v19,v20,v21,v22,v23,v24,v25,v26⟩).out Lp20_62x1.encS:=by kernel_rfl
theorem T20_62x1  (x:X20_62x1) (y:List Value):evC Try.prog (Ans.c (p13.or (p54.or (p63.or p64)))) 60 (Lp20_62x1.headS x y) (kS Lp20_62x1.N Lp20_62x1.M Lp20_62x1.S Lp20_62x1.pick Lp20_62x1.Bs Lp20_62x1.z Lp20_62x1.q)=(rd20_62x1 x).out Lp20_62x1.encS:=by
 obtain ⟨hb,hw,v0,v1,v2,v3,v4,v5,v6,v7,v8,v9,v10,v11,v12,v13,v14,v15,v16,v17,v18,v19,v20,v21,v22,v23,v24,v25,v26⟩:=x;exact T20_62x1n  y hb hw v0 v1 v2 v3 v4 v5 v6 v7 v8 v9 v10 v11 v12 v13 v14 v15 v16 v17 v18 v19 v20 v21 v22 v23 v24 v25 v26
def L20_62x1 (x:X20_62x1):Option D20_62x1:=loopR rd20_62x1 x
def L20_62x1_k0 (x:X20_62x1):Bool:=match L20_62x1 x with | some (.k0 ..)=>true | _=>false
def L20_62x1_k0_0 (x:X20_62x1):ByteArray:=match L20_62x1 x with | some (.k0 (d0:=d) ..)=>d | _=>ByteArray.empty
def L20_62x1_k0_1 (x:X20_62x1):Int:=match L20_62x1 x with | some (.k0 (d1:=d) ..)=>d | _=>0
def L20_62x1_k0_2 (x:X20_62x1):Int:=match L20_62x1 x with | some (.k0 (d2:=d) ..)=>d | _=>0
def L20_62x1_k0_3 (x:X20_62x1):Array Value:=match L20_62x1 x with | some (.k0 (d3:=d) ..)=>d | _=>#[]
def L20_62x1_k0_4 (x:X20_62x1):Nat:=match L20_62x1 x with | some (.k0 (d4:=d) ..)=>d | _=>0
def L20_62x1_k0_5 (x:X20_62x1):Nat:=match L20_62x1 x with | some (.k0 (d5:=d) ..)=>d | _=>0
def L20_62x1_k0_6 (x:X20_62x1):Array Value:=match L20_62x1 x with | some (.k0 (d6:=d) ..)=>d | _=>#[]
def L20_62x1_k0_7 (x:X20_62x1):Nat:=match L20_62x1 x with | some (.k0 (d7:=d) ..)=>d | _=>0
def L20_62x1_k0_8 (x:X20_62x1):Nat:=match L20_62x1 x with | some (.k0 (d8:=d) ..)=>d | _=>0
def L20_62x1_k0_9 (x:X20_62x1):Array Value:=match L20_62x1 x with | some (.k0 (d9:=d) ..)=>d | _=>#[]
def L20_62x1_k0_10 (x:X20_62x1):Nat:=match L20_62x1 x with | some (.k0 (d10:=d) ..)=>d | _=>0
def L20_62x1_k0_11 (x:X20_62x1):Nat:=match L20_62x1 x with | some (.k0 (d11:=d) ..)=>d | _=>0
def L20_62x1_k0_12 (x:X20_62x1):Int:=match L20_62x1 x with | some (.k0 (d12:=d) ..)=>d | _=>0
def L20_62x1_k0_13 (x:X20_62x1):Int:=match L20_62x1 x with | some (.k0 (d13:=d) ..)=>d | _=>0
def L20_62x1_k0_14 (x:X20_62x1):Int:=match L20_62x1 x with | some (.k0 (d14:=d) ..)=>d | _=>0
def L20_62x1_k0_15 (x:X20_62x1):Int:=match L20_62x1 x with | some (.k0 (d15:=d) ..)=>d | _=>0
def L20_62x1_k0_16 (x:X20_62x1):Int:=match L20_62x1 x with | some (.k0 (d16:=d) ..)=>d | _=>0
def L20_62x1_k0_17 (x:X20_62x1):Int:=match L20_62x1 x with | some (.k0 (d17:=d) ..)=>d | _=>0
def L20_62x1_k0_18 (x:X20_62x1):Int:=match L20_62x1 x with | some (.k0 (d18:=d) ..)=>d | _=>0
def L20_62x1_k0_19 (x:X20_62x1):Int:=match L20_62x1 x with | some (.k0 (d19:=d) ..)=>d | _=>0
def L20_62x1_k0_20 (x:X20_62x1):Int:=match L20_62x1 x with | some (.k0 (d20:=d) ..)=>d | _=>0
def L20_62x1_k0_21 (x:X20_62x1):Int:=match L20_62x1 x with | some (.k0 (d21:=d) ..)=>d | _=>0
def dec20_62x1:Task→Option (Code×X20_62x1)
 | .code none (.loop code) ⟨t,[],⟨[b0,b1,b2,b3,b4,b5],hb,hw⟩⟩ =>
  (match Nat.beq (firstReg code) 6,lenIs t 55 with
  | true,true=>((dFn 64 (lget t 2)).bind fun q0=>match q0.1,q0.2 with | [],[]=>((dPt 3 0 (lget t 4)).bind fun _=>(dPt 4 0 (lget t 6)).bind fun _=>(dPt 5 0 (lget t 8)).bind fun _=>(dLs 3 (lget t 37)).bind fun q4=>(fun v0 v1 v2=>(dI .i64 (lget t 38)).bind fun v3=>(dI .i64 (lget t 39)).bind fun v4=>(dCe b0).bind fun l7=>match l7 with | [y7_0,y7_1,y7_2,y7_3,y7_4,y7_5]=>((dSt y7_0).bind fun v5=>(dI .i64 y7_1).bind fun v6=>(dI .i64 y7_2).bind fun v7=>(dLs 2 y7_3).bind fun q11=>(fun v8 v9 v10=>(dLs 13 y7_4).bind fun q12=>(fun v11 v12 v13=>(dLs 13 y7_5).bind fun q13=>(fun v14 v15 v16=>(dCe b1).bind fun l14=>match l14 with | [y14_0,y14_1]=>((dI .i64 y14_0).bind fun v17=>(dI .i64 y14_1).bind fun v18=>(dCe b2).bind fun l17=>match l17 with | [y17_0,y17_1]=>((dI .i64 y17_0).bind fun v19=>(dI .i64 y17_1).bind fun v20=>(dCe b3).bind fun l20=>match l20 with | [y20_0,y20_1]=>((dI .i64 y20_0).bind fun v21=>(dI .i64 y20_1).bind fun v22=>(dCe b4).bind fun l23=>match l23 with | [y23_0,y23_1]=>((dI .i64 y23_0).bind fun v23=>(dI .i64 y23_1).bind fun v24=>(dCe b5).bind fun l26=>match l26 with | [y26_0,y26_1]=>((dI .i64 y26_0).bind fun v25=>(dI .i64 y26_1).bind fun v26=>some (code,⟨hb,hw,v0,v1,v2,v3,v4,v5,v6,v7,v8,v9,v10,v11,v12,v13,v14,v15,v16,v17,v18,v19,v20,v21,v22,v23,v24,v25,v26⟩)) | _=>none) | _=>none) | _=>none) | _=>none) | _=>none) q13.1 q13.2.1 q13.2.2) q12.1 q12.2.1 q12.2.2) q11.1 q11.2.1 q11.2.2) | _=>none) q4.1 q4.2.1 q4.2.2) | _,_=>none)
  | _,_=>none)
 | _=>none
def alt20_62x1 (x:X20_62x1)(j:List Value):AT:=.br (L20_62x1_k0 x) (loopEnd 55 (.exit 2) [(6,(Value.pointer (Option.some (Addr.mk 4 0 Option.none)))),(8,(Value.pointer (Option.some (Addr.mk 5 0 Option.none))))] ⟨[.cells ⟨[(.string (L20_62x1_k0_0 x)),(.int .i64 (L20_62x1_k0_1 x)),(.int .i64 (L20_62x1_k0_2 x)),(lstV (L20_62x1_k0_3 x) (L20_62x1_k0_4 x) (L20_62x1_k0_5 x) 2),(lstV (L20_62x1_k0_6 x) (L20_62x1_k0_7 x) (L20_62x1_k0_8 x) 13),(lstV (L20_62x1_k0_9 x) (L20_62x1_k0_10 x) (L20_62x1_k0_11 x) 13)]⟩ false,.cells ⟨[(.int .i64 (L20_62x1_k0_12 x)),(.int .i64 (L20_62x1_k0_13 x))]⟩ false,.cells ⟨[(.int .i64 (L20_62x1_k0_14 x)),(.int .i64 (L20_62x1_k0_15 x))]⟩ false,.cells ⟨[(.int .i64 (L20_62x1_k0_16 x)),(.int .i64 (L20_62x1_k0_17 x))]⟩ false,.cells ⟨[(.int .i64 (L20_62x1_k0_18 x)),(.int .i64 (L20_62x1_k0_19 x))]⟩ false,.cells ⟨[(.int .i64 (L20_62x1_k0_20 x)),(.int .i64 (L20_62x1_k0_21 x))]⟩ false],x.hb,0::1::2::3::4::5::x.hw⟩ j) (.no)
def la20_62x1 (J:Task→List Value):Ans:=loopAns Lp20_62x1.c dec20_62x1 alt20_62x1 J
theorem ha20_62x1:∀(x:X20_62x1) (j:List Value)(o:Out),(alt20_62x1 x j).out=some o→Lp20_62x1.good x∧∃d,loopR rd20_62x1 x=some d∧o=Lp20_62x1.tailB x d j x.hb x.hw:=by
 intro x j o h;simp only[alt20_62x1,AT.out]at h
 refine ⟨⟨rfl,fun a l e=>(by cases e)⟩,?_⟩
 cases hL:L20_62x1 x with
 | none=>simp only[L20_62x1_k0,L20_62x1_k0_0,L20_62x1_k0_1,L20_62x1_k0_2,L20_62x1_k0_3,L20_62x1_k0_4,L20_62x1_k0_5,L20_62x1_k0_6,L20_62x1_k0_7,L20_62x1_k0_8,L20_62x1_k0_9,L20_62x1_k0_10,L20_62x1_k0_11,L20_62x1_k0_12,L20_62x1_k0_13,L20_62x1_k0_14,L20_62x1_k0_15,L20_62x1_k0_16,L20_62x1_k0_17,L20_62x1_k0_18,L20_62x1_k0_19,L20_62x1_k0_20,L20_62x1_k0_21,hL,AT.out,cond_false]at h;cases h
 | some d =>
  refine ⟨d,hL,?_⟩
  cases d<;>(simp only[L20_62x1_k0,L20_62x1_k0_0,L20_62x1_k0_1,L20_62x1_k0_2,L20_62x1_k0_3,L20_62x1_k0_4,L20_62x1_k0_5,L20_62x1_k0_6,L20_62x1_k0_7,L20_62x1_k0_8,L20_62x1_k0_9,L20_62x1_k0_10,L20_62x1_k0_11,L20_62x1_k0_12,L20_62x1_k0_13,L20_62x1_k0_14,L20_62x1_k0_15,L20_62x1_k0_16,L20_62x1_k0_17,L20_62x1_k0_18,L20_62x1_k0_19,L20_62x1_k0_20,L20_62x1_k0_21,hL,AT.out,loopEnd,cond_true,cond_false,Option.some.injEq]at h;rw[← h];rfl)
theorem hd20_62x1:∀(t:Task) (c:Code)(x:X20_62x1),dec20_62x1 t=some (c,x)→c=Lp20_62x1.c→∃T H',t=.code none (.loop Lp20_62x1.c) ⟨T,[],⟨H',x.hb,x.hw⟩⟩∧Forgets H' (Lp20_62x1.H x)∧T.length=Lp20_62x1.N∧∀kv∈Lp20_62x1.S.zip (Lp20_62x1.sl x),lget T kv.1=kv.2:=by
 intro t c x h hc;unfold dec20_62x1 at h
 split at h
 ·split at h
  case h_2=>cases h
  rename_i hreg hlen;replace h:=bq h;obtain ⟨⟨_,_⟩,hh,h⟩:=h
  dsimp only at hh h
  have hh:=dFn_eq hh
  split at h
  case h_2=>cases h
  replace h:=bq h;obtain ⟨_,hh,h⟩:=h;have hh:=dPt_eq hh;replace h:=bq h;obtain ⟨_,hh,h⟩:=h;have hh:=dPt_eq hh;replace h:=bq h;obtain ⟨_,hh,h⟩:=h;have hh:=dPt_eq hh;replace h:=bq h;obtain ⟨_,hh,h⟩:=h;have hh:=dLs_eq hh;replace h:=bq h;obtain ⟨_,hh,h⟩:=h;have hh:=dI_eq hh;replace h:=bq h;obtain ⟨_,hh,h⟩:=h;have hh:=dI_eq hh;replace h:=bq h;obtain ⟨_,hh,h⟩:=h;obtain rfl:=dCe_eq hh;clear hh
  split at h
  case h_2=>cases h
  replace h:=bq h;obtain ⟨_,hh,h⟩:=h;obtain rfl:=dSt_eq hh;clear hh;(iterate 2 (replace h:=biI h;obtain ⟨_,rfl,h⟩:=h));replace h:=biL h;obtain ⟨_,rfl,h⟩:=h;replace h:=biL h;obtain ⟨_,rfl,h⟩:=h;replace h:=biL h;obtain ⟨_,rfl,h⟩:=h;replace h:=bq h;obtain ⟨_,hh,h⟩:=h;obtain rfl:=dCe_eq hh;clear hh
  split at h
  case h_2=>cases h
  (iterate 2 (replace h:=biI h;obtain ⟨_,rfl,h⟩:=h));replace h:=bq h;obtain ⟨_,hh,h⟩:=h;obtain rfl:=dCe_eq hh;clear hh
  split at h
  case h_2=>cases h
  (iterate 2 (replace h:=biI h;obtain ⟨_,rfl,h⟩:=h));replace h:=bq h;obtain ⟨_,hh,h⟩:=h;obtain rfl:=dCe_eq hh;clear hh
  split at h
  case h_2=>cases h
  (iterate 2 (replace h:=biI h;obtain ⟨_,rfl,h⟩:=h));replace h:=bq h;obtain ⟨_,hh,h⟩:=h;obtain rfl:=dCe_eq hh;clear hh
  split at h
  case h_2=>cases h
  (iterate 2 (replace h:=biI h;obtain ⟨_,rfl,h⟩:=h));replace h:=bq h;obtain ⟨_,hh,h⟩:=h;obtain rfl:=dCe_eq hh;clear hh
  split at h
  case h_2=>cases h
  (iterate 2 (replace h:=biI h;obtain ⟨_,rfl,h⟩:=h));simp only[Option.some.injEq,Prod.mk.injEq]at h;obtain ⟨rfl,rfl⟩:=h;subst hc
  refine ⟨_,_,rfl,(Forgets.refl _),lenIs_eq _ _ hlen,?_⟩
  intro kv hk;simp only[Lp20_62x1,List.zip_cons_cons,List.zip_nil_right,List.mem_cons,List.not_mem_nil,or_false]at hk
  rcases hk with rfl | rfl | rfl | rfl | rfl | rfl | rfl<;>assumption
 ·cases h
theorem kl20_62x1:∃J,Known Try.prog (la20_62x1 J):=by
 exact LoopS.knownB noNG mixed ok20_62x1 (Known.or known13 (Known.or known54 (Known.or known63 known64))) (n:=60) (rd:=rd20_62x1) (fun x j _=>T20_62x1  x j) (fun x=>x.hb) (fun x=>x.hw) dec20_62x1 alt20_62x1 hd20_62x1 ha20_62x1
structure R20 where
 (r0 r1 r2:Int)
structure A20 where
 (a0:ByteArray)
 (a1 a2:Int)
 (a3:Array Value)
 (a4 a5:Nat)
 (a6:Array Value)
 (a7 a8:Nat)
 (a9:Array Value)
 (a10 a11:Nat)
 (a12 a13:Int)
def Y20_0 (a0:ByteArray)(a1 a2:Int)(a3:Array Value)(a4 a5:Nat)(a6:Array Value)(a7 a8:Nat)(a9:Array Value)(a10 a11:Nat)(a12 a13:Int):X20_62x0:=(X20_62x0.mk 3 [] (F63_0 (a3) a4 a5) (F63_1 (a3) a4 a5) (F63_2 (a3) a4 a5) (0:Int) a0 a1 a2 (a3) a4 a5 (a6) a7 a8 (a9) a10 a11 a12 a13 (0:Int) (0:Int) a12 a13 (0:Int) (0:Int))
def Y20_1 (a0:ByteArray)(a1 a2:Int)(a3:Array Value)(a4 a5:Nat)(a6:Array Value)(a7 a8:Nat)(a9:Array Value)(a10 a11:Nat)(a12 a13:Int):X20_62x1:=(X20_62x1.mk 3 [0,1,2,3,4] (L20_62x0_k0_0 (Y20_0 a0 a1 a2 a3 a4 a5 a6 a7 a8 a9 a10 a11 a12 a13)) ((L20_62x0_k0_1 (Y20_0 a0 a1 a2 a3 a4 a5 a6 a7 a8 a9 a10 a11 a12 a13))+((Int.toNat (IntKind.wrap .i64 ((L20_62x0_k0_3 (Y20_0 a0 a1 a2 a3 a4 a5 a6 a7 a8 a9 a10 a11 a12 a13))+(1:Int))))*3)) ((L20_62x0_k0_2 (Y20_0 a0 a1 a2 a3 a4 a5 a6 a7 a8 a9 a10 a11 a12 a13))-(Int.toNat (IntKind.wrap .i64 ((L20_62x0_k0_3 (Y20_0 a0 a1 a2 a3 a4 a5 a6 a7 a8 a9 a10 a11 a12 a13))+(1:Int))))) (Int.ofNat ((L20_62x0_k0_2 (Y20_0 a0 a1 a2 a3 a4 a5 a6 a7 a8 a9 a10 a11 a12 a13))-(Int.toNat (IntKind.wrap .i64 ((L20_62x0_k0_3 (Y20_0 a0 a1 a2 a3 a4 a5 a6 a7 a8 a9 a10 a11 a12 a13))+(1:Int)))))) (0:Int) (L20_62x0_k0_4 (Y20_0 a0 a1 a2 a3 a4 a5 a6 a7 a8 a9 a10 a11 a12 a13)) (L20_62x0_k0_5 (Y20_0 a0 a1 a2 a3 a4 a5 a6 a7 a8 a9 a10 a11 a12 a13)) (L20_62x0_k0_6 (Y20_0 a0 a1 a2 a3 a4 a5 a6 a7 a8 a9 a10 a11 a12 a13)) (L20_62x0_k0_7 (Y20_0 a0 a1 a2 a3 a4 a5 a6 a7 a8 a9 a10 a11 a12 a13)) (L20_62x0_k0_8 (Y20_0 a0 a1 a2 a3 a4 a5 a6 a7 a8 a9 a10 a11 a12 a13)) (L20_62x0_k0_9 (Y20_0 a0 a1 a2 a3 a4 a5 a6 a7 a8 a9 a10 a11 a12 a13)) (L20_62x0_k0_10 (Y20_0 a0 a1 a2 a3 a4 a5 a6 a7 a8 a9 a10 a11 a12 a13)) (L20_62x0_k0_11 (Y20_0 a0 a1 a2 a3 a4 a5 a6 a7 a8 a9 a10 a11 a12 a13)) (L20_62x0_k0_12 (Y20_0 a0 a1 a2 a3 a4 a5 a6 a7 a8 a9 a10 a11 a12 a13)) (L20_62x0_k0_13 (Y20_0 a0 a1 a2 a3 a4 a5 a6 a7 a8 a9 a10 a11 a12 a13)) (L20_62x0_k0_14 (Y20_0 a0 a1 a2 a3 a4 a5 a6 a7 a8 a9 a10 a11 a12 a13)) (L20_62x0_k0_15 (Y20_0 a0 a1 a2 a3 a4 a5 a6 a7 a8 a9 a10 a11 a12 a13)) (L20_62x0_k0_16 (Y20_0 a0 a1 a2 a3 a4 a5 a6 a7 a8 a9 a10 a11 a12 a13)) (L20_62x0_k0_17 (Y20_0 a0 a1 a2 a3 a4 a5 a6 a7 a8 a9 a10 a11 a12 a13)) (L20_62x0_k0_18 (Y20_0 a0 a1 a2 a3 a4 a5 a6 a7 a8 a9 a10 a11 a12 a13)) (L20_62x0_k0_19 (Y20_0 a0 a1 a2 a3 a4 a5 a6 a7 a8 a9 a10 a11 a12 a13)) (L20_62x0_k0_20 (Y20_0 a0 a1 a2 a3 a4 a5 a6 a7 a8 a9 a10 a11 a12 a13)) (L20_62x0_k0_21 (Y20_0 a0 a1 a2 a3 a4 a5 a6 a7 a8 a9 a10 a11 a12 a13)) (L20_62x0_k0_22 (Y20_0 a0 a1 a2 a3 a4 a5 a6 a7 a8 a9 a10 a11 a12 a13)) (L20_62x0_k0_23 (Y20_0 a0 a1 a2 a3 a4 a5 a6 a7 a8 a9 a10 a11 a12 a13)) (getInt (L20_62x0_k0_0 (Y20_0 a0 a1 a2 a3 a4 a5 a6 a7 a8 a9 a10 a11 a12 a13)) (((L20_62x0_k0_1 (Y20_0 a0 a1 a2 a3 a4 a5 a6 a7 a8 a9 a10 a11 a12 a13))+((Int.toNat (L20_62x0_k0_3 (Y20_0 a0 a1 a2 a3 a4 a5 a6 a7 a8 a9 a10 a11 a12 a13)))*3))+1)) (getInt (L20_62x0_k0_0 (Y20_0 a0 a1 a2 a3 a4 a5 a6 a7 a8 a9 a10 a11 a12 a13)) ((((L20_62x0_k0_1 (Y20_0 a0 a1 a2 a3 a4 a5 a6 a7 a8 a9 a10 a11 a12 a13))+((Int.toNat (L20_62x0_k0_3 (Y20_0 a0 a1 a2 a3 a4 a5 a6 a7 a8 a9 a10 a11 a12 a13)))*3))+1)+1)))
def rt20 (a0:ByteArray)(a1 a2:Int)(a3:Array Value)(a4 a5:Nat)(a6:Array Value)(a7 a8:Nat)(a9:Array Value)(a10 a11:Nat)(a12 a13:Int):RT R20 :=let u0:=(Y20_0 a0 a1 a2 a3 a4 a5 a6 a7 a8 a9 a10 a11 a12 a13);let u1:=(Y20_1 a0 a1 a2 a3 a4 a5 a6 a7 a8 a9 a10 a11 a12 a13);let u2:=(L20_62x0_k0_3 u0);
 .br (F13_ok a0 a1 a2 a3 a4 a5 a6 a7 a8 a9 a10 a11) (.br (not (decide ((F13_2 a0 a1 a2 a3 a4 a5 a6 a7 a8 a9 a10 a11)=(0:Int)))) (.leaf ⟨(0:Int),(0:Int),(F13_2 a0 a1 a2 a3 a4 a5 a6 a7 a8 a9 a10 a11)⟩) (.br (F54_ok a12 a13 (2000000000:Int)) (.br (not (F54_0 a12 a13 (2000000000:Int))) (.leaf ⟨(0:Int),(0:Int),(7:Int)⟩) (.br (F63_ok a3 a4 a5)
   (.sw (eqCode (Lp20_62x0.c) (Lp20_62x0.c)) true (by simp only[eqCode_self,arrEq_self]) (.br (L20_62x0_k0 u0) (.br (and (decide ((0:Int)≤u2)) (decide (u2<(Int.ofNat (L20_62x0_k0_2 u0))))) (.br (rdOk (L20_62x0_k0_0 u0) [(Leaf.int .i64),(Leaf.int .i64)] (((L20_62x0_k0_1 u0)+((Int.toNat u2)*3))+1))
   (.br (and (decide ((0:Int)≤(IntKind.wrap .i64 (u2+(1:Int))))) (and true (and (decide ((Int.toNat (IntKind.wrap .i64 (u2+(1:Int))))≤(L20_62x0_k0_2 u0))) (decide ((L20_62x0_k0_2 u0)≤(L20_62x0_k0_2 u0))))))
       (.sw (eqCode (Lp20_62x1.c) (Lp20_62x1.c)) true (by simp only[eqCode_self,arrEq_self]) (.br (L20_62x1_k0 u1) (mq a12 (mq a13 (mq a12 (mq a13 (.leaf ⟨(L20_62x1_k0_20 u1),(L20_62x1_k0_21 u1),(0:Int)⟩))))) (.no)) (.no)) (.no)) (.no)) (.no)) (.no)) (.no)) (.no))) (.no))) (.no)
def en20 (r:R20):Value:=(.tuple ⟨[(.agg ⟨[(.int .i64 r.r0),(.int .i64 r.r1)]⟩),(.int .i64 r.r2)]⟩)
theorem T20 (J62x0:Task→List Value)(J62x1:Task→List Value)(a0:ByteArray)(a1 a2:Int)(a3:Array Value)(a4 a5:Nat)(a6:Array Value)(a7 a8:Nat)(a9:Array Value)(a10 a11:Nat)(a12 a13:Int):evC Try.prog (Ans.c (p13.or (p54.or (p63.or (p64.or ((la20_62x0 J62x0).or (la20_62x1 J62x1))))))) 60 (.call 20 ⟨[(.agg ⟨[(.string a0),(.int .i64 a1),(.int .i64 a2),(lstV a3 a4 a5 2),(lstV a6 a7 a8 13),(lstV a9 a10 a11 13)]⟩),(.agg ⟨[(.int .i64 a12),(.int .i64 a13)]⟩)]⟩ ⟨[],0,[]⟩) (frzK [0,0])=(rt20 a0 a1 a2 a3 a4 a5 a6 a7 a8 a9 a10 a11 a12 a13).out (fun r=>.ret (en20 r) ⟨[],0,[]⟩):=by kernel_rfl
def F20 (a0:ByteArray)(a1 a2:Int)(a3:Array Value)(a4 a5:Nat)(a6:Array Value)(a7 a8:Nat)(a9:Array Value)(a10 a11:Nat)(a12 a13:Int):Option R20:=(rt20 a0 a1 a2 a3 a4 a5 a6 a7 a8 a9 a10 a11 a12 a13).val
section
variable (a0:ByteArray) (a1 a2:Int) (a3:Array Value) (a4 a5:Nat) (a6:Array Value) (a7 a8:Nat) (a9:Array Value) (a10 a11:Nat) (a12 a13:Int)
def F20_ok:Bool:=(F20 a0 a1 a2 a3 a4 a5 a6 a7 a8 a9 a10 a11 a12 a13).isSome
def F20_0:Int:=match F20 a0 a1 a2 a3 a4 a5 a6 a7 a8 a9 a10 a11 a12 a13 with | some r=>r.r0 | none=>0
def F20_1:Int:=match F20 a0 a1 a2 a3 a4 a5 a6 a7 a8 a9 a10 a11 a12 a13 with | some r=>r.r1 | none=>0
def F20_2:Int:=match F20 a0 a1 a2 a3 a4 a5 a6 a7 a8 a9 a10 a11 a12 a13 with | some r=>r.r2 | none=>0
end
def dec20:Task→Option (A20×Hp)
 | .call g ⟨[(.agg ⟨[(.string a0),(.int .i64 a1),(.int .i64 a2),(.func (.via 0 ⟨[]⟩ 0 true) a3 ⟨[.slice (some ⟨0,a4,none⟩) a5 2]⟩),(.func (.via 0 ⟨[]⟩ 0 true) a6 ⟨[.slice (some ⟨0,a7,none⟩) a8 13]⟩),(.func (.via 0 ⟨[]⟩ 0 true) a9 ⟨[.slice (some ⟨0,a10,none⟩) a11 13]⟩)]⟩),(.agg ⟨[(.int .i64 a12),(.int .i64 a13)]⟩)]⟩ h=>(match Nat.beq g 20 with | true=>some (⟨a0,a1,a2,a3,a4,a5,a6,a7,a8,a9,a10,a11,a12,a13⟩,h) | false=>none)
 | _=>none
def alt20 (x:A20)(h:Hp):AT:=.br (F20_ok x.a0 x.a1 x.a2 x.a3 x.a4 x.a5 x.a6 x.a7 x.a8 x.a9 x.a10 x.a11 x.a12 x.a13) (.leaf (.ret (.tuple ⟨[(.agg ⟨[(.int .i64 (F20_0 x.a0 x.a1 x.a2 x.a3 x.a4 x.a5 x.a6 x.a7 x.a8 x.a9 x.a10 x.a11 x.a12 x.a13)),(.int .i64 (F20_1 x.a0 x.a1 x.a2 x.a3 x.a4 x.a5 x.a6 x.a7 x.a8 x.a9 x.a10 x.a11 x.a12 x.a13))]⟩),(.int .i64 (F20_2 x.a0 x.a1 x.a2 x.a3 x.a4 x.a5 x.a6 x.a7 x.a8 x.a9 x.a10 x.a11 x.a12 x.a13))]⟩) h)) .no
def p20:Ans:=fnAns dec20 alt20
theorem ha20:∀(x:A20) (h:Hp)(o:Out),(alt20 x h).out=some o→∃r,(rt20 x.a0 x.a1 x.a2 x.a3 x.a4 x.a5 x.a6 x.a7 x.a8 x.a9 x.a10 x.a11 x.a12 x.a13).val=some r∧o=.ret (en20 r) h:=by
 intro x h o e;unfold alt20 at e;simp only[AT.out]at e;obtain ⟨g,e⟩:=cond_some e;unfold F20_ok at g;obtain ⟨r,hF⟩:=Option.isSome_iff_exists.1 g
 refine ⟨r,by delta F20 at hF;exact hF,?_⟩
 simp only[Option.some.injEq]at e;rw[← e]
 unfold F20_0 F20_1 F20_2;rw[hF]<;>rfl
theorem hd20:∀(t:Task) (x:A20)(h:Hp),dec20 t=some (x,h)→t=.call 20 ⟨[(.agg ⟨[(.string x.a0),(.int .i64 x.a1),(.int .i64 x.a2),(lstV x.a3 x.a4 x.a5 2),(lstV x.a6 x.a7 x.a8 13),(lstV x.a9 x.a10 x.a11 13)]⟩),(.agg ⟨[(.int .i64 x.a12),(.int .i64 x.a13)]⟩)]⟩ h:=by
 intro t x h e;unfold dec20 at e
 split at e
 case h_2=>cases e
 split at e
 case h_2=>cases e
 rename_i hg;simp only[Option.some.injEq,Prod.mk.injEq]at e;obtain ⟨rfl,rfl⟩:=e;rw[Nat.eq_of_beq_eq_true hg]
theorem known20:Known Try.prog p20:=by
 obtain ⟨J62x0,hJ62x0⟩:=kl20_62x0;obtain ⟨J62x1,hJ62x1⟩:=kl20_62x1
 exact Known.fn noNG mixed (Known.or known13 (Known.or known54 (Known.or known63 (Known.or known64 (Known.or hJ62x0 hJ62x1))))) (n:=60) (zs:=[0,0]) 20 (fun x:A20=>[(.agg ⟨[(.string x.a0),(.int .i64 x.a1),(.int .i64 x.a2),(lstV x.a3 x.a4 x.a5 2),(lstV x.a6 x.a7 x.a8 13),(lstV x.a9 x.a10 x.a11 13)]⟩),(.agg ⟨[(.int .i64 x.a12),(.int .i64 x.a13)]⟩)]) (fun x=>rt20 x.a0 x.a1 x.a2 x.a3 x.a4 x.a5 x.a6 x.a7 x.a8 x.a9 x.a10 x.a11 x.a12 x.a13) en20 (fun x=>T20 J62x0 J62x1 x.a0 x.a1 x.a2 x.a3 x.a4 x.a5 x.a6 x.a7 x.a8 x.a9 x.a10 x.a11 x.a12 x.a13) (fun x=>rfl) dec20 alt20 hd20 ha20
structure R26 where
 (r0 r1:Int)
structure A26 where
 (a0 a1:Int)
def rt26 (a0 a1:Int):RT R26 :=
 .leaf ⟨a0,a1⟩
def en26 (r:R26):Value:=(.agg ⟨[(.int .i64 r.r0),(.int .i64 r.r1)]⟩)
theorem T26  (a0 a1:Int):evC Try.prog (Ans.c (fun _=>none:Ans)) 60 (.call 26 ⟨[(.int .i64 a0),(.int .i64 a1)]⟩ ⟨[],0,[]⟩) (frzK [0])=(rt26 a0 a1).out (fun r=>.ret (en26 r) ⟨[],0,[]⟩):=by kernel_rfl
def F26 (a0 a1:Int):Option R26:=(rt26 a0 a1).val
section
variable (a0 a1:Int)
def F26_ok:Bool:=(F26 a0 a1).isSome
def F26_0:Int:=match F26 a0 a1 with | some r=>r.r0 | none=>0
def F26_1:Int:=match F26 a0 a1 with | some r=>r.r1 | none=>0
end
def dec26:Task→Option (A26×Hp)
 | .call g ⟨[(.int .i64 a0),(.int .i64 a1)]⟩ h=>(match Nat.beq g 26 with | true=>some (⟨a0,a1⟩,h) | false=>none)
 | _=>none
def alt26 (x:A26)(h:Hp):AT:=.br (F26_ok x.a0 x.a1) (.leaf (.ret (.agg ⟨[(.int .i64 (F26_0 x.a0 x.a1)),(.int .i64 (F26_1 x.a0 x.a1))]⟩) h)) .no
def p26:Ans:=fnAns dec26 alt26
theorem ha26:∀(x:A26) (h:Hp)(o:Out),(alt26 x h).out=some o→∃r,(rt26 x.a0 x.a1).val=some r∧o=.ret (en26 r) h:=by
 intro x h o e;unfold alt26 at e;simp only[AT.out]at e;obtain ⟨g,e⟩:=cond_some e;unfold F26_ok at g;obtain ⟨r,hF⟩:=Option.isSome_iff_exists.1 g
 refine ⟨r,by delta F26 at hF;exact hF,?_⟩
 simp only[Option.some.injEq]at e;rw[← e]
 unfold F26_0 F26_1;rw[hF]<;>rfl
theorem hd26:∀(t:Task) (x:A26)(h:Hp),dec26 t=some (x,h)→t=.call 26 ⟨[(.int .i64 x.a0),(.int .i64 x.a1)]⟩ h:=by
 intro t x h e;unfold dec26 at e
 split at e
 case h_2=>cases e
 split at e
 case h_2=>cases e
 rename_i hg;simp only[Option.some.injEq,Prod.mk.injEq]at e;obtain ⟨rfl,rfl⟩:=e;rw[Nat.eq_of_beq_eq_true hg]
theorem known26:Known Try.prog p26:=by
 exact Known.fn noNG mixed (Known.nothing Try.prog) (n:=60) (zs:=[0]) 26 (fun x:A26=>[(.int .i64 x.a0),(.int .i64 x.a1)]) (fun x=>rt26 x.a0 x.a1) en26 (fun x=>T26  x.a0 x.a1) (fun x=>rfl) dec26 alt26 hd26 ha26
structure R40 where
 (r0:Bool)
structure A40 where
 (a0 a1:Int)
 (a2 a3:Int)
def rt40 (a0 a1:Int)(a2 a3:Int):RT R40 :=
 .br (decide (a0≤a2)) (.leaf ⟨(decide (a3≤a1))⟩) (.leaf ⟨false⟩)
def en40 (r:R40):Value:=(.bool r.r0)
theorem T40  (a0 a1:Int) (a2 a3:Int):evC Try.prog (Ans.c (fun _=>none:Ans)) 60 (.call 40 ⟨[(.agg ⟨[(.int .i64 a0),(.int .i64 a1)]⟩),(.agg ⟨[(.int .i64 a2),(.int .i64 a3)]⟩)]⟩ ⟨[],0,[]⟩) (frzK [0])=(rt40 a0 a1 a2 a3).out (fun r=>.ret (en40 r) ⟨[],0,[]⟩):=by kernel_rfl
def F40 (a0 a1:Int)(a2 a3:Int):Option R40:=(rt40 a0 a1 a2 a3).val
section
variable (a0 a1:Int) (a2 a3:Int)
def F40_ok:Bool:=(F40 a0 a1 a2 a3).isSome
def F40_0:Bool:=match F40 a0 a1 a2 a3 with | some r=>r.r0 | none=>false
end
def dec40:Task→Option (A40×Hp)
 | .call g ⟨[(.agg ⟨[(.int .i64 a0),(.int .i64 a1)]⟩),(.agg ⟨[(.int .i64 a2),(.int .i64 a3)]⟩)]⟩ h=>(match Nat.beq g 40 with | true=>some (⟨a0,a1,a2,a3⟩,h) | false=>none)
 | _=>none
def alt40 (x:A40)(h:Hp):AT:=.br (F40_ok x.a0 x.a1 x.a2 x.a3) (.leaf (.ret (.bool (F40_0 x.a0 x.a1 x.a2 x.a3)) h)) .no
def p40:Ans:=fnAns dec40 alt40
theorem ha40:∀(x:A40) (h:Hp)(o:Out),(alt40 x h).out=some o→∃r,(rt40 x.a0 x.a1 x.a2 x.a3).val=some r∧o=.ret (en40 r) h:=by
 intro x h o e;unfold alt40 at e;simp only[AT.out]at e;obtain ⟨g,e⟩:=cond_some e;unfold F40_ok at g;obtain ⟨r,hF⟩:=Option.isSome_iff_exists.1 g
 refine ⟨r,by delta F40 at hF;exact hF,?_⟩
 simp only[Option.some.injEq]at e;rw[← e]
 unfold F40_0;rw[hF]<;>rfl
theorem hd40:∀(t:Task) (x:A40)(h:Hp),dec40 t=some (x,h)→t=.call 40 ⟨[(.agg ⟨[(.int .i64 x.a0),(.int .i64 x.a1)]⟩),(.agg ⟨[(.int .i64 x.a2),(.int .i64 x.a3)]⟩)]⟩ h:=by
 intro t x h e;unfold dec40 at e
 split at e
 case h_2=>cases e
 split at e
 case h_2=>cases e
 rename_i hg;simp only[Option.some.injEq,Prod.mk.injEq]at e;obtain ⟨rfl,rfl⟩:=e;rw[Nat.eq_of_beq_eq_true hg]
theorem known40:Known Try.prog p40:=by
 exact Known.fn noNG mixed (Known.nothing Try.prog) (n:=60) (zs:=[0]) 40 (fun x:A40=>[(.agg ⟨[(.int .i64 x.a0),(.int .i64 x.a1)]⟩),(.agg ⟨[(.int .i64 x.a2),(.int .i64 x.a3)]⟩)]) (fun x=>rt40 x.a0 x.a1 x.a2 x.a3) en40 (fun x=>T40  x.a0 x.a1 x.a2 x.a3) (fun x=>rfl) dec40 alt40 hd40 ha40
structure R80 where
 (r0:Bool)
structure A80 where
 (a0:Int)
def rt80 (a0:Int):RT R80 :=
 .br (decide ((0:Int)≤a0)) (.leaf ⟨(decide (a0<(100000000:Int)))⟩) (.leaf ⟨false⟩)
def en80 (r:R80):Value:=(.bool r.r0)
theorem T80  (a0:Int):evC Try.prog (Ans.c (fun _=>none:Ans)) 60 (.call 80 ⟨[(.int .i64 a0)]⟩ ⟨[],0,[]⟩) (frzK [0])=(rt80 a0).out (fun r=>.ret (en80 r) ⟨[],0,[]⟩):=by kernel_rfl
def F80 (a0:Int):Option R80:=(rt80 a0).val
section
variable (a0:Int)
def F80_ok:Bool:=(F80 a0).isSome
def F80_0:Bool:=match F80 a0 with | some r=>r.r0 | none=>false
end
def dec80:Task→Option (A80×Hp)
 | .call g ⟨[(.int .i64 a0)]⟩ h=>(match Nat.beq g 80 with | true=>some (⟨a0⟩,h) | false=>none)
 | _=>none
def alt80 (x:A80)(h:Hp):AT:=.br (F80_ok x.a0) (.leaf (.ret (.bool (F80_0 x.a0)) h)) .no
def p80:Ans:=fnAns dec80 alt80
theorem ha80:∀(x:A80) (h:Hp)(o:Out),(alt80 x h).out=some o→∃r,(rt80 x.a0).val=some r∧o=.ret (en80 r) h:=by
 intro x h o e;unfold alt80 at e;simp only[AT.out]at e;obtain ⟨g,e⟩:=cond_some e;unfold F80_ok at g;obtain ⟨r,hF⟩:=Option.isSome_iff_exists.1 g
 refine ⟨r,by delta F80 at hF;exact hF,?_⟩
 simp only[Option.some.injEq]at e;rw[← e]
 unfold F80_0;rw[hF]<;>rfl
theorem hd80:∀(t:Task) (x:A80)(h:Hp),dec80 t=some (x,h)→t=.call 80 ⟨[(.int .i64 x.a0)]⟩ h:=by
 intro t x h e;unfold dec80 at e
 split at e
 case h_2=>cases e
 split at e
 case h_2=>cases e
 rename_i hg;simp only[Option.some.injEq,Prod.mk.injEq]at e;obtain ⟨rfl,rfl⟩:=e;rw[Nat.eq_of_beq_eq_true hg]
theorem known80:Known Try.prog p80:=by
 exact Known.fn noNG mixed (Known.nothing Try.prog) (n:=60) (zs:=[0]) 80 (fun x:A80=>[(.int .i64 x.a0)]) (fun x=>rt80 x.a0) en80 (fun x=>T80  x.a0) (fun x=>rfl) dec80 alt80 hd80 ha80
end
end Go.Proofs.Ytggaomgopenkfaa
