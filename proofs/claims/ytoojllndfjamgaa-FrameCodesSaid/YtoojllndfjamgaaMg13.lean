/- Part 13 of the texts below the claim. Conditions: none. -/
import Derived.Test.YtoojllndfjamgaaMg7
import Derived.Test.YtoojllndfjamgaaMg10
import Derived.Test.YtoojllndfjamgaaMg12
import Derived.Test.YtoojllndfjamgaaMg11
import Derived.Test.YtoojllndfjamgaaMg8
import Derived.Test.YtoojllndfjamgaaMg5
import Derived.Test.YtoojllndfjamgaaMg6
set_option linter.unusedVariables false
set_option linter.unusedSimpArgs false
namespace Go.Proofs.Ytoojllndfjamgaa
open Go.Gi Go.RowKit Go.Proofs.Ytoojllndfjamgaa.Old
noncomputable section
set_option maxRecDepth 100000
set_option maxHeartbeats 4000000
structure X25_0 where
  own0:Option (Array Value×Nat)
  v0:Array Value
  v1:Nat
  v2:Nat
  v3:Int
  v4:Int
  v5:ByteArray
  v6:Int
  v7:Int
  v8:Array Value
  v9:Nat
  v10:Nat
  v11:Int
inductive D25_0 where
  | k0 (d0:ByteArray) (d1:Int) (d2:Int) (d3:Array Value) (d4:Nat) (d5:Nat) (d6:Int)
  | k1 (d0:Array Value) (d1:Nat) (d2:ByteArray) (d3:Int) (d4:Int) (d5:Array Value) (d6:Nat) (d7:Nat) (d8:Int)
def Lp25_0:LoopT X25_0 D25_0 where
  c:=(theLoop Try.prog 25 0)
  N:=43
  M:=3
  S:=[29,30,31]
  Bs:=[]
  os:=[9]
  szs:=[1]
  sl:=fun x=>[(lstV x.v0 x.v1 x.v2 1),(.int .i64 x.v3),(.int .i64 x.v4)]
  hp:=fun x=>[.cells ⟨[(.string x.v5),(.int .i64 x.v6),(.int .i64 x.v7),(lstV x.v8 x.v9 x.v10 4)]⟩ false,.dead,.cells ⟨[(.int .u8 x.v11)]⟩ false]
  own:=fun x=>[x.own0]
  ex:=fun d=>match d with | .k0 ..=>.exit 0 | .k1 ..=>.exit 0
  pick:=fun e=>match e with | .exit 0=>[] | _=>[]
  dv:=fun d=>match d with | .k0 d0 d1 d2 d3 d4 d5 d6=>[] | .k1 d0 d1 d2 d3 d4 d5 d6 d7 d8=>[]
  dh:=fun d=>match d with | .k0 d0 d1 d2 d3 d4 d5 d6=>[.cells ⟨[(.string d0),(.int .i64 d1),(.int .i64 d2),(lstV d3 d4 d5 4)]⟩ false,.dead,.cells ⟨[(.int .u8 d6)]⟩ false] | .k1 d0 d1 d2 d3 d4 d5 d6 d7 d8=>[.cells ⟨[(.string d2),(.int .i64 d3),(.int .i64 d4),(lstV d5 d6 d7 4)]⟩ false,.dead,.cells ⟨[(.int .u8 d8)]⟩ false]
  od:=fun d=>match d with | .k0 d0 d1 d2 d3 d4 d5 d6=>[none] | .k1 d0 d1 d2 d3 d4 d5 d6 d7 d8=>[some (d0,d1)]
theorem ok25_0:Lp25_0.OkT:=⟨fun x=>rfl,fun x=>rfl,fun x=>rfl,fun x=>(fun _=>rfl),fun x=>rfl,rfl,fun d=>by cases d<;>rfl,fun d=>by cases d<;>rfl,fun d=>by cases d<;>rfl,fun d=>match d with | .k0 d0 d1 d2 d3 d4 d5 d6=>(fun _=>rfl) | .k1 d0 d1 d2 d3 d4 d5 d6 d7 d8=>(fun _=>rfl),fun d=>by cases d<;>(intro h;cases h),fun d=>by cases d<;>rfl⟩
def rd25_0 (x:X25_0):RT (Sum X25_0 D25_0):=match x with
  | ⟨none,v0,v1,v2,v3,v4,v5,v6,v7,v8,v9,v10,v11⟩ =>
     .br (decide (v4<v3)) (.br (and (decide ((0:Int)≤v4)) (decide (v4<(Int.ofNat v2)))) (.br (isInt .i64 v0 (v1+((Int.toNat v4)*1))) (.leaf (.inl ⟨(some (⟨[(Value.int .u8 (IntKind.wrap .u8 (Int.fdiv (getInt v0 (v1+((Int.toNat v4)*1))) (256:Int)))),(Value.int .u8 (IntKind.wrap .u8 (getInt v0 (v1+((Int.toNat v4)*1)))))]⟩,2)),v0,v1,v2,v3,(IntKind.wrap .i64 (v4+(1:Int))),v5,v6,v7,v8,v9,v10,v11⟩)) (.no)) (.no)) (.leaf (.inr (.k0 (v5) (v6) (v7) (v8) (v9) (v10) (v11))))
  | ⟨some (oa0,ol0),v0,v1,v2,v3,v4,v5,v6,v7,v8,v9,v10,v11⟩ =>
     .br (decide (v4<v3)) (.br (and (decide ((0:Int)≤v4)) (decide (v4<(Int.ofNat v2)))) (.br (isInt .i64 v0 (v1+((Int.toNat v4)*1))) (.br (and (decide (((ol0+2)*1)≤140737488355328)) (decide ((ol0+2)≤4611686018427387904))) (.br (decide ((0+(ol0*1))≤(Array.size oa0))) (.br (allFz (apB (Array.extract oa0 0 (0+(ol0*1))) ⟨[(Value.int .u8 (IntKind.wrap .u8 (Int.fdiv (getInt v0 (v1+((Int.toNat v4)*1))) (256:Int)))),(Value.int .u8 (IntKind.wrap .u8 (getInt v0 (v1+((Int.toNat v4)*1)))))]⟩)) (.leaf (.inl ⟨(some ((apB (Array.extract oa0 0 (0+(ol0*1))) ⟨[(Value.int .u8 (IntKind.wrap .u8 (Int.fdiv (getInt v0 (v1+((Int.toNat v4)*1))) (256:Int)))),(Value.int .u8 (IntKind.wrap .u8 (getInt v0 (v1+((Int.toNat v4)*1)))))]⟩),(ol0+2))),v0,v1,v2,v3,(IntKind.wrap .i64 (v4+(1:Int))),v5,v6,v7,v8,v9,v10,v11⟩)) (.no)) (.no)) (.no)) (.no)) (.no)) (.br (allFz oa0) (.leaf (.inr (.k1 (oa0) (ol0) (v5) (v6) (v7) (v8) (v9) (v10) (v11)))) (.no))
theorem T25_0n  (y:List Value) (v0:Array Value) (v1:Nat) (v2:Nat) (v3:Int) (v4:Int) (v5:ByteArray) (v6:Int) (v7:Int) (v8:Array Value) (v9:Nat) (v10:Nat) (v11:Int):evC Try.prog (Ans.c ((p20.or (thawG 20 [[1]] p20)).or p59)) 60 (.code none (theLoop Try.prog 25 0) ⟨sets (junkF 43 y) [(9,(.slice none 0 0)),(29,(lstV v0 v1 v2 1)),(30,(.int .i64 v3)),(31,(.int .i64 v4))],[],⟨[.cells ⟨[(.string v5),(.int .i64 v6),(.int .i64 v7),(lstV v8 v9 v10 4)]⟩ false,.dead,.cells ⟨[(.int .u8 v11)]⟩ false,.dead],0,[]⟩⟩) (kT 43 3 [29,30,31] Lp25_0.pick [] [9] [1])=(rd25_0 ⟨none,v0,v1,v2,v3,v4,v5,v6,v7,v8,v9,v10,v11⟩).out Lp25_0.encT:=by kernel_rfl
theorem T25_0s  (y:List Value) (oa0:Array Value) (ol0:Nat) (v0:Array Value) (v1:Nat) (v2:Nat) (v3:Int) (v4:Int) (v5:ByteArray) (v6:Int) (v7:Int) (v8:Array Value) (v9:Nat) (v10:Nat) (v11:Int):evC Try.prog (Ans.c ((p20.or (thawG 20 [[1]] p20)).or p59)) 60 (.code none (theLoop Try.prog 25 0) ⟨sets (junkF 43 y) [(9,(.slice (some ⟨3,0,none⟩) ol0 1)),(29,(lstV v0 v1 v2 1)),(30,(.int .i64 v3)),(31,(.int .i64 v4))],[],⟨[.cells ⟨[(.string v5),(.int .i64 v6),(.int .i64 v7),(lstV v8 v9 v10 4)]⟩ false,.dead,.cells ⟨[(.int .u8 v11)]⟩ false,.cells oa0 false],0,[]⟩⟩) (kT 43 3 [29,30,31] Lp25_0.pick [] [9] [1])=(rd25_0 ⟨some (oa0,ol0),v0,v1,v2,v3,v4,v5,v6,v7,v8,v9,v10,v11⟩).out Lp25_0.encT:=by kernel_rfl
theorem T25_0  (x:X25_0) (y:List Value):evC Try.prog (Ans.c ((p20.or (thawG 20 [[1]] p20)).or p59)) 60 (Lp25_0.headT x y) (kT Lp25_0.N Lp25_0.M Lp25_0.S Lp25_0.pick Lp25_0.Bs Lp25_0.os Lp25_0.szs)=(rd25_0 x).out Lp25_0.encT:=by
  obtain ⟨own0,v0,v1,v2,v3,v4,v5,v6,v7,v8,v9,v10,v11⟩:=x
  cases own0 with
  | none =>
    exact T25_0n  y v0 v1 v2 v3 v4 v5 v6 v7 v8 v9 v10 v11
  | some al0 =>
    obtain ⟨oa0,ol0⟩:=al0
    exact T25_0s  y oa0 ol0 v0 v1 v2 v3 v4 v5 v6 v7 v8 v9 v10 v11
def L25_0 (x:X25_0):Option D25_0:=loopR rd25_0 x
section
variable (x:X25_0)
def L25_0_k0:Bool:=match L25_0 x with | some (.k0 ..)=>true | _=>false
def Qx0:ByteArray:=match L25_0 x with | some (.k0 d _ _ _ _ _ _)=>d | _=>ByteArray.empty
def Qx1:Int:=match L25_0 x with | some (.k0 _ d _ _ _ _ _)=>d | _=>0
def Qx2:Int:=match L25_0 x with | some (.k0 _ _ d _ _ _ _)=>d | _=>0
def Qx3:Array Value:=match L25_0 x with | some (.k0 _ _ _ d _ _ _)=>d | _=>#[]
def Qx4:Nat:=match L25_0 x with | some (.k0 _ _ _ _ d _ _)=>d | _=>0
def Qx5:Nat:=match L25_0 x with | some (.k0 _ _ _ _ _ d _)=>d | _=>0
def Qx6:Int:=match L25_0 x with | some (.k0 _ _ _ _ _ _ d)=>d | _=>0
def L25_0_k1:Bool:=match L25_0 x with | some (.k1 ..)=>true | _=>false
def Qy0:Array Value:=match L25_0 x with | some (.k1 d _ _ _ _ _ _ _ _)=>d | _=>#[]
def Qy1:Nat:=match L25_0 x with | some (.k1 _ d _ _ _ _ _ _ _)=>d | _=>0
def Qy2:ByteArray:=match L25_0 x with | some (.k1 _ _ d _ _ _ _ _ _)=>d | _=>ByteArray.empty
def Qy3:Int:=match L25_0 x with | some (.k1 _ _ _ d _ _ _ _ _)=>d | _=>0
def Qy4:Int:=match L25_0 x with | some (.k1 _ _ _ _ d _ _ _ _)=>d | _=>0
def Qy5:Array Value:=match L25_0 x with | some (.k1 _ _ _ _ _ d _ _ _)=>d | _=>#[]
def Qy6:Nat:=match L25_0 x with | some (.k1 _ _ _ _ _ _ d _ _)=>d | _=>0
def Qy7:Nat:=match L25_0 x with | some (.k1 _ _ _ _ _ _ _ d _)=>d | _=>0
def Qy8:Int:=match L25_0 x with | some (.k1 _ _ _ _ _ _ _ _ d)=>d | _=>0
end
def dec25_0:Task→Option (Code×X25_0)
  | .code none (.loop code) ⟨t,[],⟨[b0,b1,b2],0,[]⟩⟩ =>
    (match Nat.beq (firstReg code) 6,lenIs t 43 with
    | true,true=>(((dNl (lget t 9)).bind fun _=>(dLs 1 (lget t 29)).bind fun q0=>(fun v0 v1 v2=>(dI .i64 (lget t 30)).bind fun v3=>(dI .i64 (lget t 31)).bind fun v4=>(dCe b0).bind fun l3=>match l3 with | [y3_0,y3_1,y3_2,y3_3]=>((dSt y3_0).bind fun v5=>(dI .i64 y3_1).bind fun v6=>(dI .i64 y3_2).bind fun v7=>(dLs 4 y3_3).bind fun q7=>(fun v8 v9 v10=>(dDe b1).bind fun _=>(dCe b2).bind fun l9=>match l9 with | [y9_0]=>((dI .u8 y9_0).bind fun v11=>some (code,⟨none,v0,v1,v2,v3,v4,v5,v6,v7,v8,v9,v10,v11⟩)) | _=>none) q7.1 q7.2.1 q7.2.2) | _=>none) q0.1 q0.2.1 q0.2.2))
    | _,_=>none)
  | .code none (.loop code) ⟨t,[],⟨[b0,b1,b2,bo0],0,[]⟩⟩ =>
    (match Nat.beq (firstReg code) 6,lenIs t 43 with
    | true,true=>(((dSl 3 1 (lget t 9)).bind fun ol0=>(dLs 1 (lget t 29)).bind fun q0=>(fun v0 v1 v2=>(dI .i64 (lget t 30)).bind fun v3=>(dI .i64 (lget t 31)).bind fun v4=>(dCe b0).bind fun l3=>match l3 with | [y3_0,y3_1,y3_2,y3_3]=>((dSt y3_0).bind fun v5=>(dI .i64 y3_1).bind fun v6=>(dI .i64 y3_2).bind fun v7=>(dLs 4 y3_3).bind fun q7=>(fun v8 v9 v10=>(dDe b1).bind fun _=>(dCe b2).bind fun l9=>match l9 with | [y9_0]=>((dI .u8 y9_0).bind fun v11=>(dAr bo0).bind fun oa0=>some (code,⟨(some (oa0,ol0)),v0,v1,v2,v3,v4,v5,v6,v7,v8,v9,v10,v11⟩)) | _=>none) q7.1 q7.2.1 q7.2.2) | _=>none) q0.1 q0.2.1 q0.2.2))
    | _,_=>none)
  | _=>none
def alt25_0 (x:X25_0)(j:List Value):AT:=match x.own0 with
  | none=>.br (L25_0_k0 x) (loopEnd 43 (.exit 0) [(9,(.slice none 0 0))] ⟨[.cells ⟨[(.string (Qx0 x)),(.int .i64 (Qx1 x)),(.int .i64 (Qx2 x)),(lstV (Qx3 x) (Qx4 x) (Qx5 x) 4)]⟩ false,.dead,.cells ⟨[(.int .u8 (Qx6 x))]⟩ false,.dead],0,[]⟩ j) (.br (L25_0_k1 x) (loopEnd 43 (.exit 0) [(9,(.slice (some ⟨3,0,none⟩) (Qy1 x) 1))] ⟨[.cells ⟨[(.string (Qy2 x)),(.int .i64 (Qy3 x)),(.int .i64 (Qy4 x)),(lstV (Qy5 x) (Qy6 x) (Qy7 x) 4)]⟩ false,.dead,.cells ⟨[(.int .u8 (Qy8 x))]⟩ false,.cells (Qy0 x) false],0,[]⟩ j) (.no))
  | some (oa0,ol0)=>.br (allFz oa0) (.br (L25_0_k0 x) (loopEnd 43 (.exit 0) [(9,(.slice none 0 0))] ⟨[.cells ⟨[(.string (Qx0 x)),(.int .i64 (Qx1 x)),(.int .i64 (Qx2 x)),(lstV (Qx3 x) (Qx4 x) (Qx5 x) 4)]⟩ false,.dead,.cells ⟨[(.int .u8 (Qx6 x))]⟩ false,.dead,.dead],0,[]⟩ j) (.br (L25_0_k1 x) (loopEnd 43 (.exit 0) [(9,(.slice (some ⟨4,0,none⟩) (Qy1 x) 1))] ⟨[.cells ⟨[(.string (Qy2 x)),(.int .i64 (Qy3 x)),(.int .i64 (Qy4 x)),(lstV (Qy5 x) (Qy6 x) (Qy7 x) 4)]⟩ false,.dead,.cells ⟨[(.int .u8 (Qy8 x))]⟩ false,.dead,.cells (Qy0 x) false],0,[]⟩ j) (.no))) .no
def la25_0 (J:Task→List Value):Ans:=loopAns Lp25_0.c dec25_0 alt25_0 J
theorem ha25_0:∀(x:X25_0) (j:List Value)(o:Out),(alt25_0 x j).out=some o→Lp25_0.good x∧∃d,loopR rd25_0 x=some d∧o=Lp25_0.tailT x d j 0 []:=by
  intro x j o h
  obtain ⟨own0,v0,v1,v2,v3,v4,v5,v6,v7,v8,v9,v10,v11⟩:=x
  cases own0 with
  | none =>
    replace h:(alt25_0 ⟨none,v0,v1,v2,v3,v4,v5,v6,v7,v8,v9,v10,v11⟩ j).out=some o:=h
    simp only [alt25_0,AT.out]at h
    refine ⟨⟨rfl,(fun a l hal=>by
        replace hal:some (a,l)∈([none]:List Own):=hal
        simp only [List.mem_cons,List.not_mem_nil,or_false,Option.some.injEq,Prod.mk.injEq,reduceCtorEq,false_or]at hal
        )⟩,?_⟩
    cases hL:L25_0 ⟨none,v0,v1,v2,v3,v4,v5,v6,v7,v8,v9,v10,v11⟩ with
    | none=>simp only [L25_0_k0,Qx0,Qx1,Qx2,Qx3,Qx4,Qx5,Qx6,L25_0_k1,Qy0,Qy1,Qy2,Qy3,Qy4,Qy5,Qy6,Qy7,Qy8,hL,AT.out,cond_false]at h;cases h
    | some d =>
      refine ⟨d,hL,?_⟩
      cases d<;>(simp only [L25_0_k0,Qx0,Qx1,Qx2,Qx3,Qx4,Qx5,Qx6,L25_0_k1,Qy0,Qy1,Qy2,Qy3,Qy4,Qy5,Qy6,Qy7,Qy8,hL,AT.out,loopEnd,cond_true,cond_false,Option.some.injEq]at h;rw [← h];rfl)
  | some al0 =>
    obtain ⟨oa0,ol0⟩:=al0
    replace h:(alt25_0 ⟨some (oa0,ol0),v0,v1,v2,v3,v4,v5,v6,v7,v8,v9,v10,v11⟩ j).out=some o:=h
    simp only [alt25_0,AT.out]at h
    obtain ⟨w0,h⟩:=cond_some h
    refine ⟨⟨rfl,(fun a l hal=>by
        replace hal:some (a,l)∈([some (oa0,ol0)]:List Own):=hal
        simp only [List.mem_cons,List.not_mem_nil,or_false,Option.some.injEq,Prod.mk.injEq,reduceCtorEq,false_or]at hal
        rw [hal.1];exact w0)⟩,?_⟩
    cases hL:L25_0 ⟨some (oa0,ol0),v0,v1,v2,v3,v4,v5,v6,v7,v8,v9,v10,v11⟩ with
    | none=>simp only [L25_0_k0,Qx0,Qx1,Qx2,Qx3,Qx4,Qx5,Qx6,L25_0_k1,Qy0,Qy1,Qy2,Qy3,Qy4,Qy5,Qy6,Qy7,Qy8,hL,AT.out,cond_false]at h;cases h
    | some d =>
      refine ⟨d,hL,?_⟩
      cases d<;>(simp only [L25_0_k0,Qx0,Qx1,Qx2,Qx3,Qx4,Qx5,Qx6,L25_0_k1,Qy0,Qy1,Qy2,Qy3,Qy4,Qy5,Qy6,Qy7,Qy8,hL,AT.out,loopEnd,cond_true,cond_false,Option.some.injEq]at h;rw [← h];rfl)
theorem hd25_0:∀(t:Task) (c:Code)(x:X25_0),dec25_0 t=some (c,x)→c=Lp25_0.c→∃T H',t=.code none (.loop Lp25_0.c) ⟨T,[],⟨H',0,[]⟩⟩∧Forgets H' (Lp25_0.H0 x)∧T.length=Lp25_0.N∧∀kv∈(Lp25_0.os++Lp25_0.S).zip (ownW Lp25_0.M Lp25_0.szs (Lp25_0.own x)++Lp25_0.sl x),lget T kv.1=kv.2:=by
  intro t c x h hc
  unfold dec25_0 at h
  split at h
  · split at h
    case h_2=>cases h
    rename_i hreg hlen
    have e2:=Option.bind_eq_some_iff.1 h
    clear h
    obtain ⟨_,hh,h⟩:=e2
    have hh:=dNl_eq hh
    have e2:=Option.bind_eq_some_iff.1 h
    clear h
    obtain ⟨_,hh,h⟩:=e2
    have hh:=dLs_eq hh
    have e2:=Option.bind_eq_some_iff.1 h
    clear h
    obtain ⟨_,hh,h⟩:=e2
    have hh:=dI_eq hh
    have e2:=Option.bind_eq_some_iff.1 h
    clear h
    obtain ⟨_,hh,h⟩:=e2
    have hh:=dI_eq hh
    have e2:=Option.bind_eq_some_iff.1 h
    clear h
    obtain ⟨_,hh,h⟩:=e2
    obtain rfl:=dCe_eq hh
    clear hh
    split at h
    case h_2=>cases h
    have e2:=Option.bind_eq_some_iff.1 h
    clear h
    obtain ⟨_,hh,h⟩:=e2
    obtain rfl:=dSt_eq hh
    clear hh
    have e2:=Option.bind_eq_some_iff.1 h
    clear h
    obtain ⟨_,hh,h⟩:=e2
    obtain rfl:=dI_eq hh
    clear hh
    have e2:=Option.bind_eq_some_iff.1 h
    clear h
    obtain ⟨_,hh,h⟩:=e2
    obtain rfl:=dI_eq hh
    clear hh
    have e2:=Option.bind_eq_some_iff.1 h
    clear h
    obtain ⟨_,hh,h⟩:=e2
    obtain rfl:=dLs_eq hh
    clear hh
    have e2:=Option.bind_eq_some_iff.1 h
    clear h
    obtain ⟨_,hh,h⟩:=e2
    obtain rfl:=dDe_eq hh
    clear hh
    have e2:=Option.bind_eq_some_iff.1 h
    clear h
    obtain ⟨_,hh,h⟩:=e2
    obtain rfl:=dCe_eq hh
    clear hh
    split at h
    case h_2=>cases h
    have e2:=Option.bind_eq_some_iff.1 h
    clear h
    obtain ⟨_,hh,h⟩:=e2
    obtain rfl:=dI_eq hh
    clear hh
    simp only [Option.some.injEq,Prod.mk.injEq]at h
    obtain ⟨rfl,rfl⟩:=h
    subst hc
    refine ⟨_,_,rfl,(Forgets.refl _),lenIs_eq _ _ hlen,?_⟩
    intro kv hk
    simp only [Lp25_0,ownW,List.cons_append,List.nil_append,List.zip_cons_cons,List.zip_nil_right,List.mem_cons,List.not_mem_nil,or_false]at hk
    rcases hk with rfl | rfl | rfl | rfl<;>assumption
  · split at h
    case h_2=>cases h
    rename_i hreg hlen
    have e2:=Option.bind_eq_some_iff.1 h
    clear h
    obtain ⟨_,hh,h⟩:=e2
    have hh:=dSl_eq hh
    have e2:=Option.bind_eq_some_iff.1 h
    clear h
    obtain ⟨_,hh,h⟩:=e2
    have hh:=dLs_eq hh
    have e2:=Option.bind_eq_some_iff.1 h
    clear h
    obtain ⟨_,hh,h⟩:=e2
    have hh:=dI_eq hh
    have e2:=Option.bind_eq_some_iff.1 h
    clear h
    obtain ⟨_,hh,h⟩:=e2
    have hh:=dI_eq hh
    have e2:=Option.bind_eq_some_iff.1 h
    clear h
    obtain ⟨_,hh,h⟩:=e2
    obtain rfl:=dCe_eq hh
    clear hh
    split at h
    case h_2=>cases h
    have e2:=Option.bind_eq_some_iff.1 h
    clear h
    obtain ⟨_,hh,h⟩:=e2
    obtain rfl:=dSt_eq hh
    clear hh
    have e2:=Option.bind_eq_some_iff.1 h
    clear h
    obtain ⟨_,hh,h⟩:=e2
    obtain rfl:=dI_eq hh
    clear hh
    have e2:=Option.bind_eq_some_iff.1 h
    clear h
    obtain ⟨_,hh,h⟩:=e2
    obtain rfl:=dI_eq hh
    clear hh
    have e2:=Option.bind_eq_some_iff.1 h
    clear h
    obtain ⟨_,hh,h⟩:=e2
    obtain rfl:=dLs_eq hh
    clear hh
    have e2:=Option.bind_eq_some_iff.1 h
    clear h
    obtain ⟨_,hh,h⟩:=e2
    obtain rfl:=dDe_eq hh
    clear hh
    have e2:=Option.bind_eq_some_iff.1 h
    clear h
    obtain ⟨_,hh,h⟩:=e2
    obtain rfl:=dCe_eq hh
    clear hh
    split at h
    case h_2=>cases h
    have e2:=Option.bind_eq_some_iff.1 h
    clear h
    obtain ⟨_,hh,h⟩:=e2
    obtain rfl:=dI_eq hh
    clear hh
    have e2:=Option.bind_eq_some_iff.1 h
    clear h
    obtain ⟨_,hh,h⟩:=e2
    obtain rfl:=dAr_eq hh
    clear hh
    simp only [Option.some.injEq,Prod.mk.injEq]at h
    obtain ⟨rfl,rfl⟩:=h
    subst hc
    refine ⟨_,_,rfl,(Forgets.refl _),lenIs_eq _ _ hlen,?_⟩
    intro kv hk
    simp only [Lp25_0,ownW,List.cons_append,List.nil_append,List.zip_cons_cons,List.zip_nil_right,List.mem_cons,List.not_mem_nil,or_false]at hk
    rcases hk with rfl | rfl | rfl | rfl<;>assumption
  · cases h
theorem kl25_0:∃J,Known Try.prog (la25_0 J):=by
  exact LoopT.known noNG mixed ok25_0 (Known.or (Known.or known20 (Known.thawG known20 20 [[1]])) known59) (n:=60) (rd:=rd25_0) (fun x j _=>T25_0  x j) (fun _=>0) (fun _=>[]) (fun _=>[]) (fun x=>.inl ⟨rfl,rfl,rfl⟩) dec25_0 alt25_0 hd25_0 ha25_0
structure R25 where
  r0:Array Value
  r1:Nat
  r2:Nat
  r3:Int
structure A25 where
  a0:ByteArray
  a1:Int
  a2:Int
  a3:Array Value
  a4:Nat
  a5:Nat
  a6:Int
  a7:Array Value
  a8:Nat
  a9:Nat
def rt25 (a0:ByteArray)(a1:Int)(a2:Int)(a3:Array Value)(a4:Nat)(a5:Nat)(a6:Int)(a7:Array Value)(a8:Nat)(a9:Nat):RT R25 :=
  .br (F59_ok a0 a1 a2 (a3) a4 a5 a6 (a7) a8 a9 a1) (.br (not (decide ((F59_0 a0 a1 a2 (a3) a4 a5 a6 (a7) a8 a9 a1)=(0:Int)))) (.leaf ⟨⟨[]⟩,0,0,(F59_0 a0 a1 a2 (a3) a4 a5 a6 (a7) a8 a9 a1)⟩) (.br (and (decide ((((ByteArray.size a0)+1)*1)≤140737488355328)) (decide (((ByteArray.size a0)+1)≤4611686018427387904))) (.br (decide ((0+((ByteArray.size a0)*1))≤(Array.size (strBytes a0))))
     (.sw (eqCode (Lp25_0.c) (Lp25_0.c)) true (by simp only [eqCode_self,arrEq_self]) (.br (allFz ((Array.extract (strBytes a0) 0 (0+((ByteArray.size a0)*1)))++⟨[(Value.int .u8 (IntKind.wrap .u8 (Int.tmod a6 (256:Int))))]⟩)) (.br (L25_0_k0 (X25_0.mk (Option.some (Prod.mk ((Array.extract (strBytes a0) 0 (0+((ByteArray.size a0)*1)))++⟨[(Value.int .u8 (IntKind.wrap .u8 (Int.tmod a6 (256:Int))))]⟩) ((ByteArray.size a0)+1))) (a7) a8 a9 (Int.ofNat a9) (0:Int) a0 a1 a2 (a3) a4 a5 (IntKind.wrap .u8 (Int.tmod a6 (256:Int))))) (.leaf ⟨⟨[(Value.int .u8 (255:Int)),(Value.int .u8 (255:Int))]⟩,0,2,(0:Int)⟩) (.br (L25_0_k1 (X25_0.mk (Option.some (Prod.mk ((Array.extract (strBytes a0) 0 (0+((ByteArray.size a0)*1)))++⟨[(Value.int .u8 (IntKind.wrap .u8 (Int.tmod a6 (256:Int))))]⟩) ((ByteArray.size a0)+1))) (a7) a8 a9 (Int.ofNat a9) (0:Int) a0 a1 a2 (a3) a4 a5 (IntKind.wrap .u8 (Int.tmod a6 (256:Int)))))
     (.br (and (and (allFz (Qy0 (X25_0.mk (Option.some (Prod.mk ((Array.extract (strBytes a0) 0 (0+((ByteArray.size a0)*1)))++⟨[(Value.int .u8 (IntKind.wrap .u8 (Int.tmod a6 (256:Int))))]⟩) ((ByteArray.size a0)+1))) (a7) a8 a9 (Int.ofNat a9) (0:Int) a0 a1 a2 (a3) a4 a5 (IntKind.wrap .u8 (Int.tmod a6 (256:Int)))))) (decide ((0+((Qy1 (X25_0.mk (Option.some (Prod.mk ((Array.extract (strBytes a0) 0 (0+((ByteArray.size a0)*1)))++⟨[(Value.int .u8 (IntKind.wrap .u8 (Int.tmod a6 (256:Int))))]⟩) ((ByteArray.size a0)+1))) (a7) a8 a9 (Int.ofNat a9) (0:Int) a0 a1 a2 (a3) a4 a5 (IntKind.wrap .u8 (Int.tmod a6 (256:Int)))))*1))≤(Array.size (Qy0 (X25_0.mk (Option.some (Prod.mk ((Array.extract (strBytes a0) 0 (0+((ByteArray.size a0)*1)))++⟨[(Value.int .u8 (IntKind.wrap .u8 (Int.tmod a6 (256:Int))))]⟩) ((ByteArray.size a0)+1))) (a7) a8 a9 (Int.ofNat a9) (0:Int) a0 a1 a2 (a3) a4 a5 (IntKind.wrap .u8 (Int.tmod a6 (256:Int))))))))) true)
     (.br (F20_ok (Qy0 (X25_0.mk (Option.some (Prod.mk ((Array.extract (strBytes a0) 0 (0+((ByteArray.size a0)*1)))++⟨[(Value.int .u8 (IntKind.wrap .u8 (Int.tmod a6 (256:Int))))]⟩) ((ByteArray.size a0)+1))) (a7) a8 a9 (Int.ofNat a9) (0:Int) a0 a1 a2 (a3) a4 a5 (IntKind.wrap .u8 (Int.tmod a6 (256:Int))))) 0 (Qy1 (X25_0.mk (Option.some (Prod.mk ((Array.extract (strBytes a0) 0 (0+((ByteArray.size a0)*1)))++⟨[(Value.int .u8 (IntKind.wrap .u8 (Int.tmod a6 (256:Int))))]⟩) ((ByteArray.size a0)+1))) (a7) a8 a9 (Int.ofNat a9) (0:Int) a0 a1 a2 (a3) a4 a5 (IntKind.wrap .u8 (Int.tmod a6 (256:Int))))))
     (.br (and (decide ((((Qy1 (X25_0.mk (Option.some (Prod.mk ((Array.extract (strBytes a0) 0 (0+((ByteArray.size a0)*1)))++⟨[(Value.int .u8 (IntKind.wrap .u8 (Int.tmod a6 (256:Int))))]⟩) ((ByteArray.size a0)+1))) (a7) a8 a9 (Int.ofNat a9) (0:Int) a0 a1 a2 (a3) a4 a5 (IntKind.wrap .u8 (Int.tmod a6 (256:Int)))))+2)*1)≤140737488355328)) (decide (((Qy1 (X25_0.mk (Option.some (Prod.mk ((Array.extract (strBytes a0) 0 (0+((ByteArray.size a0)*1)))++⟨[(Value.int .u8 (IntKind.wrap .u8 (Int.tmod a6 (256:Int))))]⟩) ((ByteArray.size a0)+1))) (a7) a8 a9 (Int.ofNat a9) (0:Int) a0 a1 a2 (a3) a4 a5 (IntKind.wrap .u8 (Int.tmod a6 (256:Int)))))+2)≤4611686018427387904)))
     (.br (decide ((0+((Qy1 (X25_0.mk (Option.some (Prod.mk ((Array.extract (strBytes a0) 0 (0+((ByteArray.size a0)*1)))++⟨[(Value.int .u8 (IntKind.wrap .u8 (Int.tmod a6 (256:Int))))]⟩) ((ByteArray.size a0)+1))) (a7) a8 a9 (Int.ofNat a9) (0:Int) a0 a1 a2 (a3) a4 a5 (IntKind.wrap .u8 (Int.tmod a6 (256:Int)))))*1))≤(Array.size (Qy0 (X25_0.mk (Option.some (Prod.mk ((Array.extract (strBytes a0) 0 (0+((ByteArray.size a0)*1)))++⟨[(Value.int .u8 (IntKind.wrap .u8 (Int.tmod a6 (256:Int))))]⟩) ((ByteArray.size a0)+1))) (a7) a8 a9 (Int.ofNat a9) (0:Int) a0 a1 a2 (a3) a4 a5 (IntKind.wrap .u8 (Int.tmod a6 (256:Int))))))))
     (.br (and (allFz ((Array.extract (Qy0 (X25_0.mk (Option.some (Prod.mk ((Array.extract (strBytes a0) 0 (0+((ByteArray.size a0)*1)))++⟨[(Value.int .u8 (IntKind.wrap .u8 (Int.tmod a6 (256:Int))))]⟩) ((ByteArray.size a0)+1))) (a7) a8 a9 (Int.ofNat a9) (0:Int) a0 a1 a2 (a3) a4 a5 (IntKind.wrap .u8 (Int.tmod a6 (256:Int))))) 0 (0+((Qy1 (X25_0.mk (Option.some (Prod.mk ((Array.extract (strBytes a0) 0 (0+((ByteArray.size a0)*1)))++⟨[(Value.int .u8 (IntKind.wrap .u8 (Int.tmod a6 (256:Int))))]⟩) ((ByteArray.size a0)+1))) (a7) a8 a9 (Int.ofNat a9) (0:Int) a0 a1 a2 (a3) a4 a5 (IntKind.wrap .u8 (Int.tmod a6 (256:Int)))))*1)))++⟨[(Value.int .u8 (IntKind.wrap .u8 (Int.fdiv (F20_0 (Qy0 (X25_0.mk (Option.some (Prod.mk ((Array.extract (strBytes a0) 0 (0+((ByteArray.size a0)*1)))++⟨[(Value.int .u8 (IntKind.wrap .u8 (Int.tmod a6 (256:Int))))]⟩) ((ByteArray.size a0)+1))) (a7) a8 a9 (Int.ofNat a9) (0:Int) a0 a1 a2 (a3) a4 a5 (IntKind.wrap .u8 (Int.tmod a6 (256:Int))))) 0 (Qy1 (X25_0.mk (Option.some (Prod.mk ((Array.extract (strBytes a0) 0 (0+((ByteArray.size a0)*1)))++⟨[(Value.int .u8 (IntKind.wrap .u8 (Int.tmod a6 (256:Int))))]⟩) ((ByteArray.size a0)+1))) (a7) a8 a9 (Int.ofNat a9) (0:Int) a0 a1 a2 (a3) a4 a5 (IntKind.wrap .u8 (Int.tmod a6 (256:Int)))))) (256:Int)))),(Value.int .u8 (IntKind.wrap .u8 (F20_0 (Qy0 (X25_0.mk (Option.some (Prod.mk ((Array.extract (strBytes a0) 0 (0+((ByteArray.size a0)*1)))++⟨[(Value.int .u8 (IntKind.wrap .u8 (Int.tmod a6 (256:Int))))]⟩) ((ByteArray.size a0)+1))) (a7) a8 a9 (Int.ofNat a9) (0:Int) a0 a1 a2 (a3) a4 a5 (IntKind.wrap .u8 (Int.tmod a6 (256:Int))))) 0 (Qy1 (X25_0.mk (Option.some (Prod.mk ((Array.extract (strBytes a0) 0 (0+((ByteArray.size a0)*1)))++⟨[(Value.int .u8 (IntKind.wrap .u8 (Int.tmod a6 (256:Int))))]⟩) ((ByteArray.size a0)+1))) (a7) a8 a9 (Int.ofNat a9) (0:Int) a0 a1 a2 (a3) a4 a5 (IntKind.wrap .u8 (Int.tmod a6 (256:Int))))))))]⟩)) (decide ((0+(((Qy1 (X25_0.mk (Option.some (Prod.mk ((Array.extract (strBytes a0) 0 (0+((ByteArray.size a0)*1)))++⟨[(Value.int .u8 (IntKind.wrap .u8 (Int.tmod a6 (256:Int))))]⟩) ((ByteArray.size a0)+1))) (a7) a8 a9 (Int.ofNat a9) (0:Int) a0 a1 a2 (a3) a4 a5 (IntKind.wrap .u8 (Int.tmod a6 (256:Int)))))+2)*1))≤(Array.size ((Array.extract (Qy0 (X25_0.mk (Option.some (Prod.mk ((Array.extract (strBytes a0) 0 (0+((ByteArray.size a0)*1)))++⟨[(Value.int .u8 (IntKind.wrap .u8 (Int.tmod a6 (256:Int))))]⟩) ((ByteArray.size a0)+1))) (a7) a8 a9 (Int.ofNat a9) (0:Int) a0 a1 a2 (a3) a4 a5 (IntKind.wrap .u8 (Int.tmod a6 (256:Int))))) 0 (0+((Qy1 (X25_0.mk (Option.some (Prod.mk ((Array.extract (strBytes a0) 0 (0+((ByteArray.size a0)*1)))++⟨[(Value.int .u8 (IntKind.wrap .u8 (Int.tmod a6 (256:Int))))]⟩) ((ByteArray.size a0)+1))) (a7) a8 a9 (Int.ofNat a9) (0:Int) a0 a1 a2 (a3) a4 a5 (IntKind.wrap .u8 (Int.tmod a6 (256:Int)))))*1)))++⟨[(Value.int .u8 (IntKind.wrap .u8 (Int.fdiv (F20_0 (Qy0 (X25_0.mk (Option.some (Prod.mk ((Array.extract (strBytes a0) 0 (0+((ByteArray.size a0)*1)))++⟨[(Value.int .u8 (IntKind.wrap .u8 (Int.tmod a6 (256:Int))))]⟩) ((ByteArray.size a0)+1))) (a7) a8 a9 (Int.ofNat a9) (0:Int) a0 a1 a2 (a3) a4 a5 (IntKind.wrap .u8 (Int.tmod a6 (256:Int))))) 0 (Qy1 (X25_0.mk (Option.some (Prod.mk ((Array.extract (strBytes a0) 0 (0+((ByteArray.size a0)*1)))++⟨[(Value.int .u8 (IntKind.wrap .u8 (Int.tmod a6 (256:Int))))]⟩) ((ByteArray.size a0)+1))) (a7) a8 a9 (Int.ofNat a9) (0:Int) a0 a1 a2 (a3) a4 a5 (IntKind.wrap .u8 (Int.tmod a6 (256:Int)))))) (256:Int)))),(Value.int .u8 (IntKind.wrap .u8 (F20_0 (Qy0 (X25_0.mk (Option.some (Prod.mk ((Array.extract (strBytes a0) 0 (0+((ByteArray.size a0)*1)))++⟨[(Value.int .u8 (IntKind.wrap .u8 (Int.tmod a6 (256:Int))))]⟩) ((ByteArray.size a0)+1))) (a7) a8 a9 (Int.ofNat a9) (0:Int) a0 a1 a2 (a3) a4 a5 (IntKind.wrap .u8 (Int.tmod a6 (256:Int))))) 0 (Qy1 (X25_0.mk (Option.some (Prod.mk ((Array.extract (strBytes a0) 0 (0+((ByteArray.size a0)*1)))++⟨[(Value.int .u8 (IntKind.wrap .u8 (Int.tmod a6 (256:Int))))]⟩) ((ByteArray.size a0)+1))) (a7) a8 a9 (Int.ofNat a9) (0:Int) a0 a1 a2 (a3) a4 a5 (IntKind.wrap .u8 (Int.tmod a6 (256:Int))))))))]⟩))))) (.leaf ⟨((Array.extract (Qy0 (X25_0.mk (Option.some (Prod.mk ((Array.extract (strBytes a0) 0 (0+((ByteArray.size a0)*1)))++⟨[(Value.int .u8 (IntKind.wrap .u8 (Int.tmod a6 (256:Int))))]⟩) ((ByteArray.size a0)+1))) (a7) a8 a9 (Int.ofNat a9) (0:Int) a0 a1 a2 (a3) a4 a5 (IntKind.wrap .u8 (Int.tmod a6 (256:Int))))) 0 (0+((Qy1 (X25_0.mk (Option.some (Prod.mk ((Array.extract (strBytes a0) 0 (0+((ByteArray.size a0)*1)))++⟨[(Value.int .u8 (IntKind.wrap .u8 (Int.tmod a6 (256:Int))))]⟩) ((ByteArray.size a0)+1))) (a7) a8 a9 (Int.ofNat a9) (0:Int) a0 a1 a2 (a3) a4 a5 (IntKind.wrap .u8 (Int.tmod a6 (256:Int)))))*1)))++⟨[(Value.int .u8 (IntKind.wrap .u8 (Int.fdiv (F20_0 (Qy0 (X25_0.mk (Option.some (Prod.mk ((Array.extract (strBytes a0) 0 (0+((ByteArray.size a0)*1)))++⟨[(Value.int .u8 (IntKind.wrap .u8 (Int.tmod a6 (256:Int))))]⟩) ((ByteArray.size a0)+1))) (a7) a8 a9 (Int.ofNat a9) (0:Int) a0 a1 a2 (a3) a4 a5 (IntKind.wrap .u8 (Int.tmod a6 (256:Int))))) 0 (Qy1 (X25_0.mk (Option.some (Prod.mk ((Array.extract (strBytes a0) 0 (0+((ByteArray.size a0)*1)))++⟨[(Value.int .u8 (IntKind.wrap .u8 (Int.tmod a6 (256:Int))))]⟩) ((ByteArray.size a0)+1))) (a7) a8 a9 (Int.ofNat a9) (0:Int) a0 a1 a2 (a3) a4 a5 (IntKind.wrap .u8 (Int.tmod a6 (256:Int)))))) (256:Int)))),(Value.int .u8 (IntKind.wrap .u8 (F20_0 (Qy0 (X25_0.mk (Option.some (Prod.mk ((Array.extract (strBytes a0) 0 (0+((ByteArray.size a0)*1)))++⟨[(Value.int .u8 (IntKind.wrap .u8 (Int.tmod a6 (256:Int))))]⟩) ((ByteArray.size a0)+1))) (a7) a8 a9 (Int.ofNat a9) (0:Int) a0 a1 a2 (a3) a4 a5 (IntKind.wrap .u8 (Int.tmod a6 (256:Int))))) 0 (Qy1 (X25_0.mk (Option.some (Prod.mk ((Array.extract (strBytes a0) 0 (0+((ByteArray.size a0)*1)))++⟨[(Value.int .u8 (IntKind.wrap .u8 (Int.tmod a6 (256:Int))))]⟩) ((ByteArray.size a0)+1))) (a7) a8 a9 (Int.ofNat a9) (0:Int) a0 a1 a2 (a3) a4 a5 (IntKind.wrap .u8 (Int.tmod a6 (256:Int))))))))]⟩),0,((Qy1 (X25_0.mk (Option.some (Prod.mk ((Array.extract (strBytes a0) 0 (0+((ByteArray.size a0)*1)))++⟨[(Value.int .u8 (IntKind.wrap .u8 (Int.tmod a6 (256:Int))))]⟩) ((ByteArray.size a0)+1))) (a7) a8 a9 (Int.ofNat a9) (0:Int) a0 a1 a2 (a3) a4 a5 (IntKind.wrap .u8 (Int.tmod a6 (256:Int)))))+2),(0:Int)⟩) (.no)) (.no)) (.no)) (.no)) (.no)) (.no))) (.no)) (.no)) (.no)) (.no))) (.no)
def en25 (r:R25):Value:=(.tuple ⟨[(lstV r.r0 r.r1 r.r2 1),(.int .i64 r.r3)]⟩)
theorem T25 (J0:Task→List Value)(a0:ByteArray)(a1:Int)(a2:Int)(a3:Array Value)(a4:Nat)(a5:Nat)(a6:Int)(a7:Array Value)(a8:Nat)(a9:Nat):evC Try.prog (Ans.c ((p20.or (thawG 20 [[1]] p20)).or (p59.or (la25_0 J0)))) 60 (.call 25 ⟨[(.agg ⟨[(.string a0),(.int .i64 a1),(.int .i64 a2),(lstV a3 a4 a5 4)]⟩),(.int .i64 a6),(lstV a7 a8 a9 1)]⟩ ⟨[],0,[]⟩) (frzK [1,0])=(rt25 a0 a1 a2 a3 a4 a5 a6 a7 a8 a9).out (fun r=>.ret (en25 r) ⟨[],0,[]⟩):=by kernel_rfl
def F25 (a0:ByteArray)(a1:Int)(a2:Int)(a3:Array Value)(a4:Nat)(a5:Nat)(a6:Int)(a7:Array Value)(a8:Nat)(a9:Nat):Option R25:=(rt25 a0 a1 a2 a3 a4 a5 a6 a7 a8 a9).val
section
variable (a0:ByteArray) (a1:Int) (a2:Int) (a3:Array Value) (a4:Nat) (a5:Nat) (a6:Int) (a7:Array Value) (a8:Nat) (a9:Nat)
def F25_ok:Bool:=(F25 a0 a1 a2 a3 a4 a5 a6 a7 a8 a9).isSome
def F25_0:Array Value:=match F25 a0 a1 a2 a3 a4 a5 a6 a7 a8 a9 with | some r=>r.r0 | none=>#[]
def F25_1:Nat:=match F25 a0 a1 a2 a3 a4 a5 a6 a7 a8 a9 with | some r=>r.r1 | none=>0
def F25_2:Nat:=match F25 a0 a1 a2 a3 a4 a5 a6 a7 a8 a9 with | some r=>r.r2 | none=>0
def F25_3:Int:=match F25 a0 a1 a2 a3 a4 a5 a6 a7 a8 a9 with | some r=>r.r3 | none=>0
end
def dec25:Task→Option (A25×Hp)
  | .call g ⟨[(.agg ⟨[(.string a0),(.int .i64 a1),(.int .i64 a2),(.func (.via 0 ⟨[]⟩ 0 true) a3 ⟨[.slice (some ⟨0,a4,none⟩) a5 4]⟩)]⟩),(.int .i64 a6),(.func (.via 0 ⟨[]⟩ 0 true) a7 ⟨[.slice (some ⟨0,a8,none⟩) a9 1]⟩)]⟩ h=>(match Nat.beq g 25 with | true=>some (⟨a0,a1,a2,a3,a4,a5,a6,a7,a8,a9⟩,h) | false=>none)
  | _=>none
def alt25 (x:A25)(h:Hp):AT:=.br (F25_ok x.a0 x.a1 x.a2 x.a3 x.a4 x.a5 x.a6 x.a7 x.a8 x.a9) (.leaf (.ret (.tuple ⟨[(lstV (F25_0 x.a0 x.a1 x.a2 x.a3 x.a4 x.a5 x.a6 x.a7 x.a8 x.a9) (F25_1 x.a0 x.a1 x.a2 x.a3 x.a4 x.a5 x.a6 x.a7 x.a8 x.a9) (F25_2 x.a0 x.a1 x.a2 x.a3 x.a4 x.a5 x.a6 x.a7 x.a8 x.a9) 1),(.int .i64 (F25_3 x.a0 x.a1 x.a2 x.a3 x.a4 x.a5 x.a6 x.a7 x.a8 x.a9))]⟩) h)) .no
def p25:Ans:=fnAns dec25 alt25
theorem ha25:∀(x:A25) (h:Hp)(o:Out),(alt25 x h).out=some o→∃r,(rt25 x.a0 x.a1 x.a2 x.a3 x.a4 x.a5 x.a6 x.a7 x.a8 x.a9).val=some r∧o=.ret (en25 r) h:=by
  intro x h o e
  unfold alt25 at e
  simp only [AT.out]at e
  obtain ⟨g,e⟩:=cond_some e
  unfold F25_ok at g
  obtain ⟨r,hF⟩:=Option.isSome_iff_exists.1 g
  have hv:F25 x.a0 x.a1 x.a2 x.a3 x.a4 x.a5 x.a6 x.a7 x.a8 x.a9=(rt25 x.a0 x.a1 x.a2 x.a3 x.a4 x.a5 x.a6 x.a7 x.a8 x.a9).val:=by delta F25;exact rfl
  refine ⟨r,hv.symm.trans hF,?_⟩
  simp only [Option.some.injEq]at e
  rw [← e]
  have k0:F25_0 x.a0 x.a1 x.a2 x.a3 x.a4 x.a5 x.a6 x.a7 x.a8 x.a9=r.r0:=by
    show (match F25 x.a0 x.a1 x.a2 x.a3 x.a4 x.a5 x.a6 x.a7 x.a8 x.a9 with | some r=>r.r0 | none=>#[])=r.r0
    rw [hF]
  have k1:F25_1 x.a0 x.a1 x.a2 x.a3 x.a4 x.a5 x.a6 x.a7 x.a8 x.a9=r.r1:=by
    show (match F25 x.a0 x.a1 x.a2 x.a3 x.a4 x.a5 x.a6 x.a7 x.a8 x.a9 with | some r=>r.r1 | none=>0)=r.r1
    rw [hF]
  have k2:F25_2 x.a0 x.a1 x.a2 x.a3 x.a4 x.a5 x.a6 x.a7 x.a8 x.a9=r.r2:=by
    show (match F25 x.a0 x.a1 x.a2 x.a3 x.a4 x.a5 x.a6 x.a7 x.a8 x.a9 with | some r=>r.r2 | none=>0)=r.r2
    rw [hF]
  have k3:F25_3 x.a0 x.a1 x.a2 x.a3 x.a4 x.a5 x.a6 x.a7 x.a8 x.a9=r.r3:=by
    show (match F25 x.a0 x.a1 x.a2 x.a3 x.a4 x.a5 x.a6 x.a7 x.a8 x.a9 with | some r=>r.r3 | none=>0)=r.r3
    rw [hF]
  rw [k0,k1,k2,k3]<;>rfl
theorem hd25:∀(t:Task) (x:A25)(h:Hp),dec25 t=some (x,h)→t=.call 25 ⟨[(.agg ⟨[(.string x.a0),(.int .i64 x.a1),(.int .i64 x.a2),(lstV x.a3 x.a4 x.a5 4)]⟩),(.int .i64 x.a6),(lstV x.a7 x.a8 x.a9 1)]⟩ h:=by
  intro t x h e
  unfold dec25 at e
  split at e
  case h_2=>cases e
  split at e
  case h_2=>cases e
  rename_i hg
  simp only [Option.some.injEq,Prod.mk.injEq]at e
  obtain ⟨rfl,rfl⟩:=e
  rw [Nat.eq_of_beq_eq_true hg]
theorem known25:Known Try.prog p25:=by
  obtain ⟨J0,hJ0⟩:=kl25_0
  exact Known.fn noNG mixed (Known.or (Known.or known20 (Known.thawG known20 20 [[1]])) (Known.or known59 hJ0)) (n:=60) (zs:=[1,0]) 25 (fun x:A25=>[(.agg ⟨[(.string x.a0),(.int .i64 x.a1),(.int .i64 x.a2),(lstV x.a3 x.a4 x.a5 4)]⟩),(.int .i64 x.a6),(lstV x.a7 x.a8 x.a9 1)]) (fun x=>rt25 x.a0 x.a1 x.a2 x.a3 x.a4 x.a5 x.a6 x.a7 x.a8 x.a9) en25 (fun x=>T25 J0 x.a0 x.a1 x.a2 x.a3 x.a4 x.a5 x.a6 x.a7 x.a8 x.a9) (fun x=>rfl) dec25 alt25 hd25 ha25
end
end Go.Proofs.Ytoojllndfjamgaa
namespace Go.Proofs.Ytoojllndfjamgaa
open Go.Gi Go.RowKit
noncomputable section
set_option maxRecDepth 100000
set_option maxHeartbeats 2000000
def hiW (w:Int):Int:=IntKind.wrap .u8 (Int.fdiv w 256)
def loW (w:Int):Int:=IntKind.wrap .u8 w
def ctB (num:Int):Int:=IntKind.wrap .u8 (Int.tmod num 256)
theorem hi_same {w:Int}(h0:0≤w) (h1:w<65536):IntKind.wrap .u8 (IntKind.wrap .i64 (Int.tdiv w 256))=hiW w:=by
  unfold hiW
  rw [Int.tdiv_eq_ediv_of_nonneg h0,Int.fdiv_eq_ediv_of_nonneg _ (by decide),wrap64_id (by omega) (by omega)]
theorem lo_same {w:Int}(h0:0≤w) (h1:w<65536):IntKind.wrap .u8 (Int.tmod w 256)=loW w:=by
  unfold loW
  rw [Int.tmod_eq_emod_of_nonneg h0]
  simp only [IntKind.wrap,IntKind.bits,IntKind.signed,Bool.false_and,Bool.false_eq_true,if_false]
  omega
theorem two (a b:Int):(⟨[Value.int .u8 a,Value.int .u8 b]⟩:Array Value)=intA .u8 [a,b]:=rfl
theorem one (a:Int):(⟨[Value.int .u8 a]⟩:Array Value)=intA .u8 [a]:=rfl
theorem bx2 (a b:Int):BX [IntKind.wrap .u8 a,IntKind.wrap .u8 b]:=by
  intro x hx
  simp only [List.mem_cons,List.not_mem_nil,or_false]at hx
  rcases hx with rfl | rfl
  · exact wrapU8_rng a
  · exact wrapU8_rng b
def enF (cv:Array Value)(k:Nat)(l:List Int):List Int:=l++[hiW (getInt cv (0+k)),loW (getInt cv (0+k))]
def enL (s:ByteArray)(num:Int)(cv:Array Value)(nv:Nat):List Int:=iterN (enF cv) nv 0 (strI s++[ctB num])
def enS (s:ByteArray)(num:Int)(cv:Array Value)(nv:Nat):Int:=(crc (intA .u8 (enL s num cv nv)) 0 (enL s num cv nv).length:Int)
def enA (s:ByteArray)(num:Int)(cv:Array Value)(nv:Nat):List Int:=enL s num cv nv++[hiW (enS s num cv nv),loW (enS s num cv nv)]
section
variable {cc cv:Array Value}{nc nv:Nat}{s:ByteArray}{ws dp num:Int}
def EI (s:ByteArray)(k:Nat)(l:List Int):Prop:=BX l∧l.length=s.size+1+2*k
theorem ei_next (k:Nat)(l:List Int)(h:EI s k l):EI s (k+1) (enF cv k l):=by
  refine ⟨h.1.app (bx2 _ _),?_⟩
  unfold enF
  rw [List.length_append,h.2]
  simp only [List.length_cons,List.length_nil]
  omega
theorem ei_0:EI s 0 (strI s++[ctB num]):=by
  refine ⟨(strI_bx s).app fun x hx=>?_,by rw [List.length_append,strI_len];rfl⟩
  simp only [List.mem_cons,List.not_mem_nil,or_false]at hx
  subst hx
  exact wrapU8_rng _
theorem ei_n:EI s nv (enL s num cv nv):=iterN_invK (I:=EI s) (n:=nv) (fun k l _ h=>ei_next k l h) nv 0 _ (by omega) ei_0
theorem step25 (gv:GL I1 1 cv nv)(hs:s.size≤4)(hn:nv≤32)(k:Nat)(l:List Int)(hk:k<nv)(hl:EI s k l) :
    (rd25_0 ⟨some (intA .u8 l,l.length),cv,0,nv,(nv:Int),(k:Int),s,ws,dp,cc,0,nc,ctB num⟩).val =
    some (.inl ⟨some (intA .u8 (enF cv k l),(enF cv k l).length),cv,0,nv,(nv:Int),((k+1:Nat):Int),s,ws,dp,cc,0,nc,ctB num⟩):=by
  have hki:(k:Int)<(nv:Int):=by omega
  have h0:(0:Int)≤(k:Int):=by omega
  have h3:IntKind.wrap .i64 ((k:Int)+1)=((k+1:Nat):Int):=by rw [wrap64_id (by omega) (by omega)];omega
  have hi:=isI gv hk
  have hll:=hl.2
  have e1:l.length+2≤140737488355328:=by omega
  have e2:l.length+2≤4611686018427387904:=by omega
  have e3:l.length≤(intA .u8 l).size:=by rw [intA_size];exact Nat.le_refl _
  have e4:(intA .u8 l).extract 0 l.length=intA .u8 l:=intA_all rfl
  have e5:(enF cv k l).length=l.length+2:=by unfold enF;rw [List.length_append];rfl
  rw [e5]
  unfold enF hiW loW
  simp only [rd25_0,RT.val,hki,h0,h3,hi,e1,e2,e3,e4,two,apB,intA_app,intA_fz,Int.toNat_natCast,Int.ofNat_eq_natCast,Nat.mul_one,Nat.zero_add l.length,decide_true,Bool.and_self,cond_true]
theorem step66 (gv:GL I1 1 cv nv)(hs:s.size≤4)(hn:nv≤32)(hw:∀k,k<nv→0≤getInt cv (0+k)∧getInt cv (0+k)<65536)(k:Nat)(l:List Int)(hk:k<nv)(hl:EI s k l) :
    (rd66_0 ⟨some (intA .u8 l,l.length),cv,0,nv,(k:Int),s,ws,dp,cc,0,nc,ctB num⟩).val =
    some (.inl ⟨some (intA .u8 (enF cv k l),(enF cv k l).length),cv,0,nv,((k+1:Nat):Int),s,ws,dp,cc,0,nc,ctB num⟩):=by
  have hki:(k:Int)<(nv:Int):=by omega
  have h0:(0:Int)≤(k:Int):=by omega
  have h3:IntKind.wrap .i64 ((k:Int)+1)=((k+1:Nat):Int):=by rw [wrap64_id (by omega) (by omega)];omega
  have hi:=isI gv hk
  have hll:=hl.2
  have e1:l.length+2≤140737488355328:=by omega
  have e2:l.length+2≤4611686018427387904:=by omega
  have e3:l.length≤(intA .u8 l).size:=by rw [intA_size];exact Nat.le_refl _
  have e4:(intA .u8 l).extract 0 l.length=intA .u8 l:=intA_all rfl
  have e5:(enF cv k l).length=l.length+2:=by unfold enF;rw [List.length_append];rfl
  have e6:=hi_same (hw k hk).1 (hw k hk).2
  have e7:=lo_same (hw k hk).1 (hw k hk).2
  rw [e5]
  unfold enF
  simp only [rd66_0,RT.val,hki,h0,h3,hi,e1,e2,e3,e4,e6,e7,two,apB,intA_app,intA_fz,Int.toNat_natCast,Int.ofNat_eq_natCast,Nat.mul_one,Nat.zero_add l.length,decide_true,Bool.and_self,cond_true]
theorem L25_of (gv:GL I1 1 cv nv)(hs:s.size≤4)(hn:nv≤32):L25_0 (X25_0.mk (some (intA .u8 (strI s++[ctB num]),(strI s++[ctB num]).length)) cv 0 nv (nv:Int) 0 s ws dp cc 0 nc (ctB num))=some (.k1 (intA .u8 (enL s num cv nv)) (enL s num cv nv).length s ws dp cc 0 nc (ctB num)):=by
  have z1:¬(nv:Int)<(nv:Int):=by omega
  exact loop_iterK (σ:=List Int) (rd:=rd25_0) (S:=fun k l=>X25_0.mk (some (intA .u8 l,l.length)) cv 0 nv (nv:Int) (k:Int) s ws dp cc 0 nc (ctB num)) (f:=enF cv) (n:=nv) (fin:=fun l=>D25_0.k1 (intA .u8 l) l.length s ws dp cc 0 nc (ctB num)) (I:=EI s)
    (fun k l _ h=>ei_next k l h) (fun k l hk h=>step25 gv hs hn k l hk h) (fun l h=>by simp only [rd25_0,RT.val,z1,intA_fz,decide_false,cond_true,cond_false]) nv 0 _ (by omega) ei_0
theorem L66_of (gv:GL I1 1 cv nv)(hs:s.size≤4)(hn:nv≤32)(hw:∀k,k<nv→0≤getInt cv (0+k)∧getInt cv (0+k)<65536):L66_0 (X66_0.mk (some (intA .u8 (strI s++[ctB num]),(strI s++[ctB num]).length)) cv 0 nv 0 s ws dp cc 0 nc (ctB num))=some (.k1 (intA .u8 (enL s num cv nv)) (enL s num cv nv).length s ws dp cc 0 nc (ctB num)):=by
  have z1:¬(nv:Int)<(nv:Int):=by omega
  exact loop_iterK (σ:=List Int) (rd:=rd66_0) (S:=fun k l=>X66_0.mk (some (intA .u8 l,l.length)) cv 0 nv (k:Int) s ws dp cc 0 nc (ctB num)) (f:=enF cv) (n:=nv) (fin:=fun l=>D66_0.k1 (intA .u8 l) l.length s ws dp cc 0 nc (ctB num)) (I:=EI s)
    (fun k l _ h=>ei_next k l h) (fun k l hk h=>step66 gv hs hn hw k l hk h) (fun l h=>by simp only [rd66_0,RT.val,z1,intA_fz,Int.ofNat_eq_natCast,decide_false,cond_true,cond_false]) nv 0 _ (by omega) ei_0
def enR (r num:Int)(s:ByteArray)(cv:Array Value)(nv:Nat)(ws:Int):Array Value×Nat×Int :=
  if erF r num cv nv ws=0 then (intA .u8 (enA s num cv nv),(enA s num cv nv).length,0) else (⟨[]⟩,0,erF r num cv nv ws)
theorem en_facts (hs:s.size≤4)(hn:nv≤32):BL (intA .u8 (enL s num cv nv)) (enL s num cv nv).length∧(enL s num cv nv).length≤100∧0≤enS s num cv nv∧enS s num cv nv<65536:=by
  have h:=ei_n (s:=s) (num:=num) (cv:=cv) (nv:=nv)
  have hl:=h.2
  have g:BL (intA .u8 (enL s num cv nv)) (enL s num cv nv).length:=h.1.bl (by unfold maxLen;omega)
  have hc:crc (intA .u8 (enL s num cv nv)) 0 (enL s num cv nv).length<65536:=iterN_inv (n:=(enL s num cv nv).length) (I:=fun s=>s<65536) (fun k s hk h=>wth_lt h (by rw [Nat.zero_add];exact g.lt hk)) _ 0 _ (by omega) (by decide)
  unfold enS
  exact ⟨g,by omega,by omega,by omega⟩
theorem F25_eq (g:GL C4 4 cc nc)(gv:GL I1 1 cv nv):F25 s ws dp cc 0 nc num cv 0 nv=some ⟨(enR (ckF s ws dp cc nc).2.2 num s cv nv ws).1,0,(enR (ckF s ws dp cc nc).2.2 num s cv nv ws).2.1,(enR (ckF s ws dp cc nc).2.2 num s cv nv ws).2.2⟩:=by
  obtain ⟨o,e⟩:=F59_of (s:=s) (ws:=ws) (dp:=dp) (num:=num) (want:=ws) g gv
  unfold F25 rt25 enR
  simp only [RT.val,o,e,Int.ofNat_eq_natCast,cond_true]
  by_cases hz:erF (ckF s ws dp cc nc).2.2 num cv nv ws=0
  case neg=>simp only [hz,decide_false,Bool.not_false,cond_true,if_false]
  rw [if_pos hz]
  obtain ⟨z1,z2,_⟩:=er_zero hz
  have f:=fmt_of z1
  have s2:=f.s2
  have w2:=f.w2
  have hn:nv≤32:=by omega
  obtain ⟨b1,b2,b3,b4⟩:=en_facts (s:=s) (num:=num) (cv:=cv) (nv:=nv) s2 hn
  have l:=L25_of (ws:=ws) (dp:=dp) (cc:=cc) (nc:=nc) (num:=num) gv s2 hn
  have e1:s.size+1≤140737488355328:=by omega
  have e2:s.size+1≤4611686018427387904:=by omega
  have e3:s.size≤(intA .u8 (strI s)).size:=by rw [intA_size,strI_len];exact Nat.le_refl _
  have e4:(intA .u8 (strI s)).extract 0 s.size=intA .u8 (strI s):=intA_all (strI_len s).symm
  have e5:s.size+1=(strI s++[ctB num]).length:=by rw [List.length_append,strI_len];rfl
  have e6:(enL s num cv nv).length+2≤140737488355328:=by omega
  have e7:(enL s num cv nv).length+2≤4611686018427387904:=by omega
  have e8:(enL s num cv nv).length≤(intA .u8 (enL s num cv nv)).size:=by rw [intA_size];exact Nat.le_refl _
  have e9:(intA .u8 (enL s num cv nv)).extract 0 (enL s num cv nv).length=intA .u8 (enL s num cv nv):=intA_all rfl
  have q20:=F20_of b1
  have o20:F20_ok (intA .u8 (enL s num cv nv)) 0 (enL s num cv nv).length=true:=by simp only [F20_ok,q20];rfl
  have v20:F20_0 (intA .u8 (enL s num cv nv)) 0 (enL s num cv nv).length=enS s num cv nv:=by simp only [F20_0,q20];rfl
  have ea:(enA s num cv nv).length=(enL s num cv nv).length+2:=by unfold enA;rw [List.length_append];rfl
  have eb:(enL s num cv nv).length+2≤(intA .u8 (enA s num cv nv)).size:=by rw [intA_size,ea];exact Nat.le_refl _
  have ec:intA .u8 (enL s num cv nv++[IntKind.wrap .u8 (Int.fdiv (enS s num cv nv) 256),IntKind.wrap .u8 (enS s num cv nv)])=intA .u8 (enA s num cv nv):=rfl
  have ed:IntKind.wrap .u8 (Int.tmod num 256)=ctB num:=rfl
  simp only [hz,strI_eq,Nat.mul_one,Nat.zero_add s.size,e1,e2,e3,e4,ed,one,intA_app,intA_fz,decide_true,Bool.not_true,Bool.and_self,cond_true,cond_false]
  simp only [e5,L25_0_k0,L25_0_k1,Qy0,Qy1,l,Nat.zero_add (enL s num cv nv).length,Nat.zero_add ((enL s num cv nv).length+2),e6,e7,e8,e9,o20,v20,two,intA_app,intA_fz,ec,eb,ea,decide_true,Bool.and_self,cond_true,cond_false]
theorem F66_eq (gv:GL I1 1 cv nv)(s2:s.size≤4)(hn:nv≤32)(hw:∀k,k<nv→0≤getInt cv (0+k)∧getInt cv (0+k)<65536):F66 s ws dp cc 0 nc num cv 0 nv=some ⟨intA .u8 (enA s num cv nv),0,(enA s num cv nv).length⟩:=by
  obtain ⟨b1,b2,b3,b4⟩:=en_facts (s:=s) (num:=num) (cv:=cv) (nv:=nv) s2 hn
  have l:=L66_of (ws:=ws) (dp:=dp) (cc:=cc) (nc:=nc) (num:=num) gv s2 hn hw
  have e1:s.size+1≤140737488355328:=by omega
  have e2:s.size+1≤4611686018427387904:=by omega
  have e3:s.size≤(intA .u8 (strI s)).size:=by rw [intA_size,strI_len];exact Nat.le_refl _
  have e4:(intA .u8 (strI s)).extract 0 s.size=intA .u8 (strI s):=intA_all (strI_len s).symm
  have e5:s.size+1=(strI s++[ctB num]).length:=by rw [List.length_append,strI_len];rfl
  have e6:(enL s num cv nv).length+2≤140737488355328:=by omega
  have e7:(enL s num cv nv).length+2≤4611686018427387904:=by omega
  have e8:(enL s num cv nv).length≤(intA .u8 (enL s num cv nv)).size:=by rw [intA_size];exact Nat.le_refl _
  have e9:(intA .u8 (enL s num cv nv)).extract 0 (enL s num cv nv).length=intA .u8 (enL s num cv nv):=intA_all rfl
  have q21:=F21_of b1
  have o21:F21_ok (intA .u8 (enL s num cv nv)) 0 (enL s num cv nv).length=true:=by simp only [F21_ok,q21];rfl
  have v21:F21_0 (intA .u8 (enL s num cv nv)) 0 (enL s num cv nv).length=enS s num cv nv:=by simp only [F21_0,q21];rfl
  have ea:(enA s num cv nv).length=(enL s num cv nv).length+2:=by unfold enA;rw [List.length_append];rfl
  have eb:(enL s num cv nv).length+2≤(intA .u8 (enA s num cv nv)).size:=by rw [intA_size,ea];exact Nat.le_refl _
  have ec:intA .u8 (enL s num cv nv++[hiW (enS s num cv nv),loW (enS s num cv nv)])=intA .u8 (enA s num cv nv):=rfl
  have ed:IntKind.wrap .u8 (Int.tmod num 256)=ctB num:=rfl
  have ee:=hi_same b3 b4
  have ef:=lo_same b3 b4
  unfold F66 rt66
  simp only [RT.val,strI_eq,Nat.mul_one,Nat.zero_add s.size,e1,e2,e3,e4,ed,one,intA_app,intA_fz,decide_true,Bool.not_true,Bool.and_self,cond_true,cond_false]
  simp only [e5,L66_0_k0,L66_0_k1,Qs0,Qs1,l,Nat.zero_add (enL s num cv nv).length,Nat.zero_add ((enL s num cv nv).length+2),e6,e7,e8,e9,o21,v21,ee,ef,two,intA_app,intA_fz,ec,eb,ea,decide_true,Bool.and_self,cond_true,cond_false]
theorem words_ok (h:(fst1 (wdE cv) nv 0).isSome=false) (k:Nat) (hk:k<nv):0≤getInt cv (0+k)∧getInt cv (0+k)<65536:=by
  have hn:fst1 (wdE cv) nv 0=none:=by cases hf:fst1 (wdE cv) nv 0 with | none=>rfl | some _=>rw [hf]at h;cases h
  have:=fst1_none hn k (Nat.zero_le _) (by omega)
  unfold wdE at this
  split at this
  · rename_i hb
    simp only [inB,Bool.and_eq_true,decide_eq_true_eq]at hb
    omega
  · cases this
theorem F26_eq (g:GL C4 4 cc nc)(gv:GL I1 1 cv nv):F26 s ws dp cc 0 nc num cv 0 nv=some ⟨(enR (ckF s ws dp cc nc).2.2 num s cv nv ws).1,0,(enR (ckF s ws dp cc nc).2.2 num s cv nv ws).2.1,(enR (ckF s ws dp cc nc).2.2 num s cv nv ws).2.2⟩:=by
  obtain ⟨o,e⟩:=F52_of (s:=s) (ws:=ws) (dp:=dp) g
  have e7:¬(7:Int)=0:=by decide
  have e8:¬(2:Int)=0:=by decide
  unfold F26 rt26 enR
  simp only [RT.val,o,e,(F61_of _).1,(F61_of _).2,L26_0_k0,Qt0,Qt1,Qt2,Qt3,Qt4,Qt5,Qt6,Qt7,Qt8,Qt9,Qt10,L26_0_of gv,Int.ofNat_eq_natCast,cond_true]
  by_cases hr:(ckF s ws dp cc nc).2.2=0
  case neg =>
    have q:erF (ckF s ws dp cc nc).2.2 num cv nv ws=(ckF s ws dp cc nc).2.2:=by unfold erF;rw [if_neg hr]
    have q2:wvE (ckF s ws dp cc nc).2.2 cv nv=(ckF s ws dp cc nc).2.2:=by unfold wvE;rw [if_neg hr]
    simp only [q,q2,hr,decide_false,Bool.not_false,cond_true,cond_false,if_false]
  have f:=fmt_of hr
  simp only [hr,decide_true,cond_true]
  unfold erF
  rw [if_pos rfl]
  cases hn:inB num 0 1000000 with
  | false =>
    have q2:wvE 7 cv nv=7:=rfl
    simp only [q2,e7,decide_false,Bool.not_false,Bool.false_eq_true,cond_true,if_false]
  | true =>
  simp only [Bool.not_true,cond_false,if_true]
  by_cases hv:(nv:Int)=ws
  case neg =>
    have q2:wvE 2 cv nv=2:=rfl
    simp only [hv,q2,e8,decide_false,Bool.not_false,cond_true,if_false]
  simp only [hv,decide_true,Bool.not_true,cond_false,if_true]
  have w2:=f.w2
  unfold wvE
  rw [if_pos rfl]
  cases hw:(fst1 (wdE cv) nv 0).isSome with
  | true=>simp only [e7,decide_false,Bool.not_false,cond_true,if_true,if_false]
  | false =>
    have q:=F66_eq (ws:=ws) (dp:=dp) (cc:=cc) (nc:=nc) (num:=num) gv f.s2 (by omega) (words_ok hw)
    have oq:F66_ok s ws dp cc 0 nc num cv 0 nv=true:=by simp only [F66_ok,q];rfl
    simp only [oq,F66_0,F66_1,F66_2,q,Bool.false_eq_true,decide_true,Bool.not_true,cond_true,cond_false,if_true,if_false]
end
end
end Go.Proofs.Ytoojllndfjamgaa
namespace Go.Gi
open Go.RowKit
noncomputable section
def AnyOk (P:Program)(os:Array Oper) (s s':St):Prop :=
  s.h.base≤s.h.bl.length→Pres s.h s'.h∧∀(K:Nat→Prop) (w0:World) (φ:Phi) (w:World) (a:Act) (F:Fence) (n:Nat) (rd:Option Nat) (Q:Exit→Act→World→Prop),
    Inv K w0 φ s.h.bl w→VRs φ s.t.toArray a.tmps→DRs φ s.d a.defers→FenceOk φ rd F→(∀x a w',CodeR K w0 φ .normal s' x a w'→Q x a w')→wpAnyIn F n P .any os Q os.size (Array.replicate os.size false) a { w with drawn:=w.drawn+1 }
theorem drawn_any {P:Program}{self:Self}(hN:NoNG P) (hs:SelfOk P self) {rd:Option Nat}{id:Nat}{os:Array Oper}{s:St}{o:Out}(h:drawn P self rd id os s=some o):∃s',o=.ex .normal s'∧AnyOk P os s s':=by
  unfold drawn at h
  split at h
  case isFalse=>cases h
  rename_i hp
  split at h
  case h_2=>cases h
  rename_i recs T h1 hr
  split at h
  case isFalse=>cases h
  rename_i hc
  simp only [Option.some.injEq]at h
  subst h
  have p:=plan_of hp hr hc
  refine ⟨_,rfl,fun hb=>⟨(p.tr.pres hs hb).1,?_⟩⟩
  intro K w0 φ w a F n rd Q hI ht hd hF hQ
  have h0:∀j,(Array.replicate os.size false).getD j false=false:=fun j=>by
    simp only [Array.getD_eq_getD_getElem?,Array.getElem?_replicate]
    split<;>rfl
  refine p.run hN hs hb os.size _ (List.range os.size) φ a _ (by simp) ?_ ?_ (by simp) ?_ ?_ hd hF hQ
  · intro j k hj;simp only [h0]at hj;cases hj
  · intro i hi _;exact List.mem_range.2 hi
  · rw [HD_none _ fun r _ _=>h0 r.i];exact hI.drew
  · rw [TD_none _ fun r _=>h0 r.i];exact ht
theorem drawnF_any {P:Program}{self:Self}(hN:NoNG P) (hs:SelfOk P self) {rd:Option Nat}{id:Nat}{os:Array Oper}{s:St}{o:Out}(h:drawnF P self rd id os s=some o):∃s',o=.ex .normal s'∧AnyOk P os s s':=by
  unfold drawnF at h
  split at h
  case isFalse=>cases h
  rename_i hp
  split at h
  case h_2=>cases h
  rename_i recs T h1 hr
  split at h
  case isFalse=>cases h
  rename_i hc
  simp only [Option.some.injEq]at h
  subst h
  simp only [Bool.and_eq_true]at hc
  have p:=planF_of hp hr hc.1 hc.2.1
  have hdl:∀r∈recs,r.loud=true→isAl r.o=true→∀t,r.o.dst=some t→t<s.t.length:=by
    intro r hr hl ha t ht
    have:=hc.2.2
    rw [List.all_eq_true]at this
    have:=this r hr
    rw [hl,ha,ht]at this
    simpa using this
  refine ⟨_,rfl,fun hb=>⟨(p.tr.pres hs hb).1,?_⟩⟩
  intro K w0 φ w a F n rd Q hI ht hd hF hQ
  have h0:∀j,(Array.replicate os.size false).getD j false=false:=fun j=>by
    simp only [Array.getD_eq_getD_getElem?,Array.getElem?_replicate]
    split<;>rfl
  have hnf:∀r,¬IsFl recs (fun j=>(Array.replicate os.size false).getD j false) (fun _=>false) r:=fun r hr=>by have:=hr.2.2.2.1;simp only [h0]at this;cases this
  have hI':=hI.drew
  refine p.run hN hs hb hdl os.size _ (List.range os.size) (fun _=>false) (fun _=>0) φ s.t a _ (by simp) ?_ (by simp) ?_ hd hF hQ
  · intro i hi _;exact List.mem_range.2 hi
  · refine ⟨fun i hi=>by (cases hi),fun r _ hD=>by (simp only [h0]at hD;cases hD),pw_all fun _ _ _ _ _ _ h=>by (cases h),fun j k hj=>by (simp only [h0]at hj;cases hj),rfl,fun t _=>?_,ht,?_,?_,fun r hr=>(hnf r hr).elim,fun r _ hr=>(hnf r hr).elim,fun r hr=>(hnf r hr).elim⟩
    · rw [TD_none _ fun r _=>rfl]
    · rw [HD_none _ fun r _ _=>rfl]
      refine hI'.rebase.weaken ?_
      rintro k (hk | ⟨r,hr,_⟩)
      · exact hk
      · exact (hnf r hr).elim
    · exact ⟨hI'.keep,hI'.klt,hI'.size,hI'.os,hI'.tape,hI'.output⟩
theorem drawnX_any {P:Program}{self:Self}(hN:NoNG P) (hs:SelfOk P self) {rd:Option Nat}{id:Nat}{os:Array Oper}{s:St}{o:Out}(h:drawnX P self rd id os s=some o):∃s',o=.ex .normal s'∧AnyOk P os s s':=by
  unfold drawnX at h
  split at h
  · exact drawnF_any hN hs h
  · exact drawn_any hN hs h
theorem blt_lt {a b:Nat}(h:Nat.blt a b=true):a<b:=by rwa [Nat.blt_eq]at h
def depsAt (os:Array Oper)(i:Nat):List Nat:=((os[i]?).map depsOf).getD []
def depsAsc (os:Array Oper):Bool:=(List.range os.size).all fun i=>(depsAt os i).all fun d=>Nat.blt d i
def guardsIn (os:Array Oper)(m:Nat):Bool:=(List.range m).all fun i=>match (os[i]?).bind (·.guard) with
  | none=>true
  | some (j,_)=>Nat.blt j m
def ancs (os:Array Oper):Nat→List Nat→List Nat
  | 0,s=>s
  | f+1,s=>ancs os f (s++((s.flatMap (depsAt os)).filter fun d=>!s.contains d).eraseDups)
def waits (os:Array Oper)(m:Nat):Bool:=depsAsc os&&(guardsIn os m&&(List.range m).all fun j=>(ancs os m (depsAt os m)).contains j)
theorem dep_mem {os:Array Oper}{i:Nat}{o:Oper}(ho:os[i]?=some o) {d:Nat}:d∈depsAt os i↔∃e∈o.after,Region.binds .any e=true∧e.on=d:=by
  unfold depsAt depsOf
  rw [ho]
  simp only [Option.map_some,Option.getD_some,List.mem_map,List.mem_filter,Array.mem_toList_iff,and_assoc]
def ShutL (os:Array Oper)(D:Nat→Prop):Prop:=∀i,D i→∀d∈depsAt os i,D d
theorem ancs_ok {os:Array Oper}{D:Nat→Prop}(hs:ShutL os D):∀(f:Nat) (s:List Nat),(∀i∈s,D i)→∀i∈ancs os f s,D i
  | 0,s,h=>h
  | f+1,s,h=>by
    refine ancs_ok hs f _ fun i hi=>?_
    rcases List.mem_append.1 hi with hi | hi
    · exact h i hi
    · rw [List.mem_eraseDups]at hi
      obtain ⟨hi,_⟩:=List.mem_filter.1 hi
      obtain ⟨j,hj,hij⟩:=List.mem_flatMap.1 hi
      exact hs j (h j hj) i hij
section
variable {P:Program}{F:Fence}{n:Nat}{Q:Exit→Act→World→Prop}
theorem upon_q {o:Oper}{a:Act}{K:Act→World→Prop} {Q':Exit→Act→World→Prop}(hq:∀c a w,Q' (.panic c) a w→Q (.panic c) a w) (hl:LetsOut Q'→LetsOut Q) {r:Result Next}(h:o.uponIn F n P a K Q' r):o.uponIn F n P a K Q r:=by
  cases r with
  | ok x w' =>
    cases x<;>simp only [Oper.uponIn]at h ⊢ <;>
      first
        | exact h
        | exact ⟨h.1,CallsIn.mono h.2 (fun e w'' he=>by cases e<;>first | exact he | exact hq _ _ _ he | exact hl he)⟩
        | exact ⟨h.1,RowsIn.mono h.2 (fun _ _ he=>he)⟩
        | exact ⟨h.1,RoundIn.mono h.2 (fun e w'' he=>by cases e<;>first | exact he | exact hq _ _ _ he | exact hl he)⟩
  | halt x w'=>cases x<;>simp only [Oper.uponIn]at h ⊢<;>first | exact h | exact hq _ _ _ h
theorem any_full {os:Array Oper}{a:Act}{w:World}:∀(fuel:Nat) (listed:Array Bool),(∀j,j<os.size→listed.getD j true=true)→Q .normal a w→wpAnyIn F n P .any os Q fuel listed a w:=by
  intro fuel listed hl hq
  have hr:Region.ready .any os listed=[]:=by
    rw [List.eq_nil_iff_forall_not_mem]
    intro i hi
    rw [mem_ready]at hi
    obtain ⟨h1,o,h2,_⟩:=hi
    rw [hl i (Array.getElem?_eq_some_iff.1 h2).1]at h1;cases h1
  cases fuel with
  | zero=>exact ⟨hr,hq⟩
  | succ fuel=>exact ⟨fun _=>hq,fun i hi=>by rw [hr]at hi;cases hi⟩
theorem getD_tf {l:Array Bool}{j:Nat}(h:j<l.size):l.getD j true=l.getD j false:=by
  simp only [Array.getD_eq_getD_getElem?,Array.getElem?_eq_getElem h,Option.getD_some]
def behind (F:Fence)(n:Nat)(P:Program)(os:Array Oper)(m:Nat)(Q:Exit→Act→World→Prop):Exit→Act→World→Prop
  | .normal,a,w=>wpOpsIn F n P os Q [m] a w
  | e,a,w=>Q e a w
theorem any_last {os:Array Oper}{m:Nat}(hsz:os.size=m+1) (hw:waits os m=true):∀(fuel:Nat) (listed:Array Bool) (a:Act) (w:World),listed.size=m+1→listed.getD m false=false →
    ShutL os (fun j=>listed.getD j false=true)→wpAnyIn F n P .any os.pop (behind F n P os m Q) fuel listed.pop a w→wpAnyIn F n P .any os Q (fuel+1) listed a w:=by
  simp only [waits,Bool.and_eq_true]at hw
  obtain ⟨hasc,hgu,hanc⟩:=hw
  have hpop:∀j,j<m→os.pop[j]?=os[j]?:=fun j hj=>by
    rw [Array.getElem?_pop]
    rw [if_pos (by omega)]
  have hlp:∀(l:Array Bool),l.size=m+1→∀j d,j<m→l.pop.getD j d=l.getD j d:=fun l hl j d hj=>by
    simp only [Array.getD_eq_getD_getElem?,Array.getElem?_pop]
    rw [if_pos (by omega)]
  have hdep:∀i,i<m+1→∀d∈depsAt os i,d<i:=fun i hi d hd=>by
    simp only [depsAsc,List.all_eq_true,List.mem_range,hsz]at hasc
    exact blt_lt (hasc i hi d hd)
  have hready:∀(listed:Array Bool),listed.size=m+1→∀i,i<m→(i∈Region.ready .any os.pop listed.pop↔i∈Region.ready .any os listed):=by
    intro listed hl i hi
    rw [mem_ready,mem_ready,hpop i hi,hlp listed hl i true hi]
    constructor
    · rintro ⟨h1,o,h2,h3⟩
      refine ⟨h1,o,h2,fun e he hb=>?_⟩
      have:=h3 e he hb
      rwa [hlp listed hl e.on false (by have:=hdep i (by omega) e.on ((dep_mem h2).2 ⟨e,he,hb,rfl⟩);omega)]at this
    · rintro ⟨h1,o,h2,h3⟩
      refine ⟨h1,o,h2,fun e he hb=>?_⟩
      rw [hlp listed hl e.on false (by have:=hdep i (by omega) e.on ((dep_mem h2).2 ⟨e,he,hb,rfl⟩);omega)]
      exact h3 e he hb
  have hlast:∀(listed:Array Bool),listed.size=m+1→ShutL os (fun j=>listed.getD j false=true)→m∈Region.ready .any os listed→∀j,j<m→listed.getD j false=true:=by
    intro listed hl hs hm j hj
    rw [mem_ready]at hm
    obtain ⟨_,o,ho,h3⟩:=hm
    simp only [List.all_eq_true,List.mem_range]at hanc
    have:=hanc j hj
    rw [List.contains_iff_mem]at this
    refine ancs_ok hs m _ (fun d hd=>?_) j this
    obtain ⟨e,he,hb,rfl⟩:=(dep_mem ho).1 hd
    exact h3 e he hb
  have hnone:∀(listed:Array Bool),listed.size=m+1→Region.ready .any os.pop listed.pop=[]→∀j,j<m→listed.getD j false=true:=by
    intro listed hl hr j
    induction j using Nat.strongRecOn with
    | _ j ih =>
      intro hj
      cases hc:listed.getD j false with
      | true=>rfl
      | false =>
        exfalso
        have hlt:j<os.size:=by omega
        have ho:os[j]?=some os[j]:=Array.getElem?_eq_getElem hlt
        have:j∈Region.ready .any os.pop listed.pop:=by
          rw [hready listed hl j hj,mem_ready]
          refine ⟨by rw [getD_tf (by omega)];exact hc,_,ho,fun e he hb=>?_⟩
          have hd:=hdep j (by omega) e.on ((dep_mem ho).2 ⟨e,he,hb,rfl⟩)
          exact ih e.on hd (by omega)
        rw [hr]at this;cases this
  have hall:∀(listed:Array Bool),listed.size=m+1→(∀j,j<m→listed.getD j false=true)→∀j,j<os.size→(listed.setIfInBounds m true).getD j true=true:=by
    intro listed hl h j hj
    by_cases hjm:j=m
    · subst hjm;simp [Array.getD_eq_getD_getElem?,hl]
    · rw [getD_set_ne true (Ne.symm hjm),getD_tf (by omega)]
      exact h j (by omega)
  have hend:∀(fuel:Nat) (listed:Array Bool) (a:Act) (w:World),listed.size=m+1→listed.getD m false=false→ShutL os (fun j=>listed.getD j false=true)→(∀j,j<m→listed.getD j false=true)→wpOpsIn F n P os Q [m] a w→wpAnyIn F n P .any os Q (fuel+1) listed a w:=by
    intro fuel listed a w hl hlm hs h hq
    have hms:m<os.size:=by omega
    have ho:os[m]?=some os[m]:=Array.getElem?_eq_getElem hms
    have hmr:m∈Region.ready .any os listed:=by
      rw [mem_ready]
      refine ⟨by rw [getD_tf (by omega)];exact hlm,_,ho,fun e he hb=>?_⟩
      exact h e.on (hdep m (by omega) e.on ((dep_mem ho).2 ⟨e,he,hb,rfl⟩))
    refine ⟨fun hr=>(by rw [hr]at hmr;cases hmr),fun i hi=>?_⟩
    have him:i=m:=by
      rw [mem_ready]at hi
      obtain ⟨h1,o,h2,_⟩:=hi
      have hi2:i<os.size:=(Array.getElem?_eq_some_iff.1 h2).1
      by_cases hlt:i<m
      · rw [getD_tf (by omega),h i hlt]at h1;cases h1
      · omega
    subst him
    rw [wpOpsIn_cons]at hq
    refine wpOpIn_mono (fun a w hk=>?_) hq
    exact any_full _ _ (hall listed hl h) hk
  intro fuel
  induction fuel with
  | zero =>
    intro listed a w hl hlm hs hh
    have hr:=hh.1
    have hq:=hh.2
    exact hend 0 listed a w hl hlm hs (hnone listed hl hr) hq
  | succ fuel ih =>
    intro listed a w hl hlm hs hh
    obtain ⟨hq,hi'⟩:=hh
    cases hr:Region.ready .any os.pop listed.pop with
    | nil=>exact hend (fuel+1) listed a w hl hlm hs (hnone listed hl hr) (hq hr)
    | cons x xs =>
      have hxm:∀i,i∈Region.ready .any os.pop listed.pop→i<m:=fun i hi=>by
        rw [mem_ready]at hi
        obtain ⟨_,o,h2,_⟩:=hi
        have:=(Array.getElem?_eq_some_iff.1 h2).1
        simp at this;omega
      have hx:x∈Region.ready .any os.pop listed.pop:=by rw [hr];simp
      have hxl:=(hready listed hl x (hxm x hx)).1 hx
      refine ⟨fun h=>(by rw [h]at hxl;cases hxl),fun i hi=>?_⟩
      by_cases him:i=m
      · subst him
        have:=hlast listed hl hs hi x (hxm x hx)
        rw [mem_ready]at hxl
        rw [getD_tf (by have:=hxm x hx;omega),this]at hxl
        cases hxl.1
      · have hilt:i<m:=by
          rw [mem_ready]at hi
          obtain ⟨_,o,h2,_⟩:=hi
          have:=(Array.getElem?_eq_some_iff.1 h2).1
          omega
        have h1:=hi' i ((hready listed hl i hilt).2 hi)
        have hlo:(listed.setIfInBounds i true).pop=listed.pop.setIfInBounds i true:=by
          apply Array.ext_getElem?
          intro j
          simp only [Array.getElem?_pop,Array.getElem?_setIfInBounds,Array.size_setIfInBounds,Array.size_pop]
          by_cases hj:j<listed.size-1
          · simp only [if_pos hj]
            by_cases hij:i=j
            · subst hij;simp [hj];omega
            · simp [hij]
          · simp only [if_neg hj]
            by_cases hij:i=j
            · subst hij;omega
            · simp [hij]
        have hrec:∀(a:Act) (w:World),wpAnyIn F n P .any os.pop (behind F n P os m Q) fuel (listed.pop.setIfInBounds i true) a w→wpAnyIn F n P .any os Q (fuel+1) (listed.setIfInBounds i true) a w:=by
          intro a w hk
          refine ih _ a w (by simp [hl]) ?_ ?_ (by rw [hlo];exact hk)
          · rw [getD_set_ne false him];exact hlm
          · intro j hj d hd
            have hi2:=hi
            rw [mem_ready]at hi2
            obtain ⟨_,o,h2,h3⟩:=hi2
            by_cases hji:j=i
            · subst hji
              obtain ⟨e,he,hb,rfl⟩:=(dep_mem h2).1 hd
              exact getD_set_true (h3 e he hb)
            · rw [getD_set_ne false (Ne.symm hji)]at hj
              exact getD_set_true (hs j hj d hd)
        have ho:=hpop i hilt
        unfold wpOpIn at h1 ⊢
        rw [ho]at h1
        split at h1
        · rename_i he;exact hrec a w h1
        · rename_i o he
          have hwant:Region.wanted o (yielded os.pop a.tmps)=Region.wanted o (yielded os a.tmps):=by
            unfold Region.wanted
            split
            · rfl
            · rename_i j want hg
              have:j<m:=by
                simp only [guardsIn,List.all_eq_true,List.mem_range]at hgu
                have:=hgu i hilt
                rw [he]at this
                simp only [Option.bind_some,hg]at this
                exact blt_lt this
              unfold yielded
              rw [hpop j this]
          rw [hwant]at h1
          split at h1
          · rename_i hwt
            rw [if_pos hwt]
            refine Oper.wpIn_mono (fun a w hk=>hrec a w hk) ⟨h1.1,upon_q (fun _ _ _ h=>h) (fun h=>h) h1.2⟩
          · rename_i hwt
            rw [if_neg hwt]
            exact ⟨h1.1,hrec _ _ h1.2⟩
end
def drawnW (P:Program)(self:Self)(rd:Option Nat)(id:Nat)(os:Array Oper)(s:St):Option Out :=
  match waits os (os.size-1)&&Nat.blt 0 os.size with
  | true=>(match drawnX P self rd id os.pop s with
    | some (.ex .normal s')=>runOps P self rd os [os.size-1] s'
    | _=>none)
  | false=>drawnX P self rd id os s
theorem drawnW_ok {P:Program}(hN:NoNG P) (hm:P.follows .mixedOrders=true):DrawnOk P drawnW:=by
  intro self hs rd id os s o h
  unfold drawnW at h
  split at h
  · rename_i hw
    rw [Bool.and_eq_true]at hw
    obtain ⟨hw,hz⟩:=hw
    have hz:0<os.size:=blt_lt hz
    obtain ⟨m,hm1⟩:∃m,os.size=m+1:=⟨os.size-1,by omega⟩
    rw [hm1,Nat.add_sub_cancel]at h hw
    split at h
    case h_2=>cases h
    rename_i s' hd1
    obtain ⟨s2,he,hA⟩:=drawnX_any hN hs hd1
    cases he
    by_cases hb:s.h.base≤s.h.bl.length
    · obtain ⟨hp,hA⟩:=hA hb
      have hb':s'.h.base≤s'.h.bl.length:=by rw [hp.base];exact Nat.le_trans hb hp.len
      obtain ⟨e,s3,rfl,hp2,hh⟩:=runOps_sound hN hs _ s' o h hb'
      refine fun _=>⟨hp.trans hp2,?_⟩
      intro K w0 φ w a F n hI ht hd hF
      refine wpIn_region_any hm ?_
      rw [hm1]
      have hrep:∀j,(Array.replicate (m+1) false).getD j false=false:=fun j=>by
        simp only [Array.getD_eq_getD_getElem?,Array.getElem?_replicate]
        split<;>rfl
      refine any_last hm1 hw m _ a _ (by simp) (hrep m) (fun i hi=>by have hi:(Array.replicate (m+1) false).getD i false=true:=hi;rw [hrep]at hi;cases hi) ?_
      have:=hA K w0 φ w a F n rd (behind F n P os m (CodeR K w0 φ e s3)) hI ht hd hF (fun x a w' hc=>?_)
      · have e1:(Array.replicate (m+1) false).pop=Array.replicate os.pop.size false:=by
          apply Array.ext_getElem?
          intro j
          simp only [Array.getElem?_pop,Array.getElem?_replicate,Array.size_replicate,Array.size_pop,hm1]
          by_cases hj:j<m
          · simp [hj];omega
          · simp [hj]
        have e2:os.pop.size=m:=by simp [hm1]
        rw [e1]
        rw [e2]at this ⊢
        exact this
      · obtain ⟨φ',hle,hx,hT,hD,hI'⟩:=hc
        cases hx
        exact hh K w0 φ' w' a F n _ hI' hT hD (hF.mono hle) (fun x a w' hq=>hq.mono hle)
    · obtain ⟨e,s3,rfl⟩:=step_ok.runOps_ex _ _ _ h
      exact fun h=>absurd h hb
  · exact drawnX_ok hN hm self hs rd id os s o h
abbrev vT:Value:=.bool true
abbrev vF:Value:=.bool false
abbrev vI (n:Nat):Value:=.int .i64 (.ofNat n)
abbrev vJ (n:Nat):Value:=.int .i64 (.negSucc n)
structure CF where
  g:Nat
  args:List Value
  u:Value
def CF.Ok (P:Program)(c:CF):Prop:=∀h,Fact P (.call c.g ⟨c.args⟩ h) (.ret c.u h)
def lookCF (f:Nat)(vs:List Value)(h:Hp):List CF→Option AT
  | []=>none
  | c::r=>match Nat.beq f c.g with
    | true=>(match eqLs (eqVn 8) vs c.args with
      | true=>some (.leaf (.ret c.u h))
      | false=>lookCF f vs h r)
    | false=>lookCF f vs h r
def tabA (l:List CF):Ans:=fun t=>match t with
  | .call f vs h=>lookCF f vs.toList h l
  | _=>none
inductive CFs (P:Program):List CF→Prop
  | nil:CFs P []
  | cons {c:CF} {l:List CF} (h:c.Ok P) (r:CFs P l):CFs P (c::l)
theorem lookCF_ok {P:Program}{f:Nat}{vs:List Value}{h:Hp}:∀{l:List CF},CFs P l→∀{x:AT}{o:Out},lookCF f vs h l=some x→x.out=some o→Fact P (.call f ⟨vs⟩ h) o
  | [],_,x,o,hx,_=>by cases hx
  | c::r,hl,x,o,hx,ho=>by
    cases hl with
    | cons hc hr =>
      unfold lookCF at hx
      split at hx
      · rename_i hf
        split at hx
        · rename_i ha
          simp only [Option.some.injEq]at hx
          subst hx
          simp only [AT.out,Option.some.injEq]at ho
          subst ho
          rw [Nat.eq_of_beq_eq_true hf,eqLs_eq (fun _ _ h=>eqVn_eq h) ha]
          exact hc h
        · exact lookCF_ok hr hx ho
      · exact lookCF_ok hr hx ho
theorem tabA_ok {P:Program}{l:List CF}(hl:CFs P l):Known P (tabA l):=by
  intro t x o h ho
  unfold tabA at h
  split at h
  · rename_i f vs hh
    exact lookCF_ok hl h ho
  · cases h
def frDs (f:Value→Option Value):List Value→Option (List Value)
  | []=>some []
  | v::r=>match f v with
    | some u=>(match frDs f r with
      | some l=>some (u::l)
      | none=>none)
    | none=>none
def frC (f:Value→Option Value)(v:Value):Option Value:=match v with
  | .slice none 0 0=>some (lstV ⟨[]⟩ 0 0 1)
  | v=>f v
def frD (bl:List Ob):Nat→Value→Option Value
  | 0,_=>none
  | n+1,v=>match v with
    | .slice (some ⟨b,off,none⟩) len sz=>(match nthO bl b with
      | some (.cells c false)=>(match frDs (frC (frD bl n)) c.toList with
        | some l=>if off+len*sz≤c.size then some (lstV ⟨l⟩ off len sz) else none
        | none=>none)
      | _=>none)
    | .pointer (some ⟨b,off,none⟩)=>(match nthO bl b with
      | some (.cells c false)=>(match frDs (frC (frD bl n)) c.toList with
        | some l=>some (dptV ⟨l⟩ off)
        | none=>none)
      | _=>none)
    | .agg ⟨l⟩=>(match frDs (frD bl n) l with
      | some l=>some (.agg ⟨l⟩)
      | none=>none)
    | .iface t v=>(match frD bl n v with
      | some v=>some (.iface t v)
      | none=>none)
    | .func (.func g) ⟨l⟩ ⟨m⟩=>(match frDs (frD bl n) l,frDs (frD bl n) m with
      | some l,some m=>some (.func (.func g) ⟨l⟩ ⟨m⟩)
      | _,_=>none)
    | v=>if fz0 v then some v else none
def frDV (bl:List Ob)(v:Value):Option Value:=match v with
  | .tuple ⟨x::l⟩=>(match frDs (frD bl 8) (x::l) with
    | some l=>some (.tuple ⟨l⟩)
    | none=>none)
  | v=>frD bl 8 v
def frDK:Kn
  | .ret v h=>(match frDV h.bl v with
    | some v=>some (.ret v ⟨[],0,[]⟩)
    | none=>none)
  | _=>none
section
variable {K:Nat→Prop}{w0 w:World} {φ:Phi}{X:List Ob}{z:Nat→Option Obj}
theorem frDs_ok {f:Value→Option Value}(hf:∀v u v',f v=some u→VR φ v v'→FR z u v'):∀{l us l':List Value},frDs f l=some us→VRl φ l l'→FRl z us l'
  | [],us,_,h,hv=>by
    cases hv
    simp only [frDs,Option.some.injEq]at h
    subst h;exact .nil
  | v::r,us,_,h,hv=>by
    cases hv with
    | cons h1 h2 =>
      simp only [frDs]at h
      split at h
      · rename_i u hu
        split at h
        · rename_i l hl
          simp only [Option.some.injEq]at h
          subst h
          exact .cons (hf _ _ _ hu h1) (frDs_ok hf hl h2)
        · cases h
      · cases h
theorem FRl.fn {z:Nat→Option Obj} {l l' m m':List Value}(g:FuncId) (h:FRl z l l') (h2:FRl z m m'):FR z (.func (.func g) ⟨l⟩ ⟨m⟩) (.func (.func g) ⟨l'⟩ ⟨m'⟩):=by
  have hh:∀{us ys:List Value},FRl z us ys→(⟨us⟩:Array Value).size=(⟨ys⟩:Array Value).size∧∀i,i<(⟨us⟩:Array Value).size→FR z ((⟨us⟩:Array Value).getD i undef) ((⟨ys⟩:Array Value).getD i undef):=by
    intro us ys hf
    refine ⟨by simpa using hf.agg.1,fun i hi=>?_⟩
    rcases hf.agg.2 i with h5 | h5
    · exact h5
    · simp at hi;omega
  exact .fn (hh h).1 (hh h).2 (hh h2).1 (hh h2).2
theorem cells_frl {c C:Array Value}{base:Nat}(hC:base+c.size≤C.size) (h2:∀(i:Nat) (v:Value),c[i]?=some v→∃v',C[base+i]?=some v'∧VR φ v v'):VRl φ c.toList ((C.toList.drop base).take c.size):=by
  have key:∀(l:List Value) (m:List Value),l.length=m.length→(∀(i:Nat) (v:Value),l[i]?=some v→∃v',m[i]?=some v'∧VR φ v v')→VRl φ l m:=by
    intro l
    induction l with
    | nil=>intro m hl _;cases m with
      | nil=>exact .nil
      | cons _ _=>simp at hl
    | cons x r ih=>intro m hl hh;cases m with
      | nil=>simp at hl
      | cons y s =>
        refine .cons ?_ (ih s (by simpa using hl) fun i v hv=>by simpa using hh (i+1) v (by simpa using hv))
        obtain ⟨v',h3,h4⟩:=hh 0 x rfl
        simp only [List.getElem?_cons_zero,Option.some.injEq]at h3
        rw [h3];exact h4
  refine key _ _ (by simp;omega) fun i v hv=>?_
  have hv2:c[i]?=some v:=by rw [← Array.getElem?_toList];exact hv
  obtain ⟨v',h3,h4⟩:=h2 i v hv2
  refine ⟨v',?_,h4⟩
  have hi:i<c.size:=by rw [Array.getElem?_eq_some_iff]at hv2;exact hv2.1
  rw [List.getElem?_take,if_pos hi,List.getElem?_drop,Array.getElem?_toList]
  exact h3
theorem FRl.cells {l:List Value}{C:Array Value}{base n:Nat}(h:FRl z l ((C.toList.drop base).take n)) (hC:base+n≤C.size):l.length=n∧∀i,i<(⟨l⟩:Array Value).size→FR z ((⟨l⟩:Array Value).getD i undef) (C.getD (base+i) undef):=by
  have hn:l.length=n:=by rw [h.agg.1];simp;omega
  refine ⟨hn,fun i hi=>?_⟩
  have hi':i<n:=by simpa [hn] using hi
  rcases h.agg.2 i with h1 | h1
  · have e:(⟨(C.toList.drop base).take n⟩:Array Value).getD i undef=C.getD (base+i) undef:=by
      rw [Array.getD_eq_getD_getElem?,Array.getD_eq_getD_getElem?]
      have:(⟨(C.toList.drop base).take n⟩:Array Value)[i]?=C[base+i]?:=by
        rw [← Array.getElem?_toList,List.getElem?_take,if_pos hi',List.getElem?_drop,Array.getElem?_toList]
      rw [this]
    rw [← e];exact h1
  · omega
theorem frC_ok {f:Value→Option Value}(hf:∀v u v',f v=some u→VR φ v v'→FR z u v'):∀v u v',frC f v=some u→VR φ v v'→FR z u v':=by
  intro v u v' h hv
  unfold frC at h
  split at h
  · cases h;cases hv;exact .lstZ _ _ _ _
  · exact hf _ _ _ h hv
theorem frD_ok (h:Made 0 z φ X w):∀{n:Nat} {v u v':Value},frD X n v=some u→VR φ v v'→FR z u v'
  | 0,_,_,_,hk,_=>by cases hk
  | n+1,v,u,v',hk,hv=>by
    have ih:∀v u v',frD X n v=some u→VR φ v v'→FR z u v':=fun v u v' h1 h2=>frD_ok h h1 h2
    unfold frD at hk
    split at hk
    · rename_i b off len sz
      rw [nthO_eq]at hk
      split at hk
      · rename_i c hb
        split at hk
        · rename_i l hl
          split at hk
          · rename_i hle
            simp only [Option.some.injEq]at hk
            subst hk
            obtain ⟨B,base,tot,C,el,fr,h3,hz,h8,h6⟩:=h.obs b _ hb (Nat.zero_le _)
            cases hv with
            | sliceZ _ a' k'=>exact .lstZ _ _ _ _
            | slice hφ hl1 hc =>
              rw [h3]at hφ;cases hφ
              obtain ⟨k1,k2⟩:=(frDs_ok (frC_ok ih) hl (cells_frl h8 h6)).cells h8
              exact .lst hz (by simpa [k1] using h8) k2 hl1 (by simpa [k1] using hle)
          · cases hk
        · cases hk
      · cases hk
    · rename_i b off
      rw [nthO_eq]at hk
      split at hk
      · rename_i c hb
        split at hk
        · rename_i l hl
          simp only [Option.some.injEq]at hk
          subst hk
          obtain ⟨B,base,tot,C,el,fr,h3,hz,h8,h6⟩:=h.obs b _ hb (Nat.zero_le _)
          cases hv with
          | ptr hφ =>
            rw [h3]at hφ;cases hφ
            obtain ⟨k1,k2⟩:=(frDs_ok (frC_ok ih) hl (cells_frl h8 h6)).cells h8
            exact .dpt hz (by simpa [k1] using h8) k2
        · cases hk
      · cases hk
    · rename_i l
      split at hk
      · rename_i us hl
        simp only [Option.some.injEq]at hk
        subst hk
        obtain ⟨⟨ys⟩,rfl,hs⟩:=hv.agg_inv
        exact (frDs_ok ih hl hs.toList).fr
      · cases hk
    · rename_i t x
      split at hk
      · rename_i y hy
        simp only [Option.some.injEq]at hk
        subst hk
        cases hv with
        | iface _ hv=>exact .iface _ (ih _ _ _ hy hv)
      · cases hk
    · rename_i g l m
      split at hk
      · rename_i us ws hl hm
        simp only [Option.some.injEq]at hk
        subst hk
        cases hv with
        | @fn _ _ first' _ cap' hg h1 h2 h3 h4 =>
          obtain ⟨first'⟩:=first'
          obtain ⟨cap'⟩:=cap'
          exact FRl.fn g (frDs_ok ih hl (VRs.toList (VRs.of h1 h2))) (frDs_ok ih hm (VRs.toList (VRs.of h3 h4)))
      · cases hk
    · split at hk
      · rename_i hf
        simp only [Option.some.injEq]at hk
        subst hk
        exact fz0_fr h hf hv
      · cases hk
theorem frDV_ok {ψ:Phi}(h:Made 0 ψ.z φ X w) {v u v':Value}(hk:frDV X v=some u) (hv:VR φ v v'):VR ψ u v':=by
  unfold frDV at hk
  split at hk
  · rename_i x l
    split at hk
    · rename_i us hl
      simp only [Option.some.injEq]at hk
      subst hk
      obtain ⟨⟨ys⟩,rfl,hs⟩:=hv.tuple_inv rfl
      exact (frDs_ok (fun _ _ _ h1 h2=>frD_ok h h1 h2) hl hs.toList).vrl.vrs.tuple
    · cases hk
  · exact (frD_ok h hk hv).vr
end
section
variable {P:Program}
theorem Fact.liftD {f:FuncId}{args:Array Value}{v u:Value}{h1:Hp}(hf:Fact P (.call f args ⟨[],0,[]⟩) (.ret v h1)) (hfz:frDV h1.bl v=some u)
    (ha:args.toList.all pureA=true) (h:Hp):Fact P (.call f args h) (.ret u h):=by
  obtain ⟨_,hh⟩:=hf.1 (Nat.le_refl _)
  refine ⟨fun hb=>⟨Pres.refl _,?_⟩,trivial⟩
  intro K w0 φ w args' n hI hA
  have hI':Inv K w0 φ ([]++h.bl) w:=hI
  have hN:=hI'.narrow (H0:=[]) (fun b ob h=>by simp at h)
  have hA1:VRs (cut φ ([]:List Ob).length) args args':=VRs.of hA.size fun i hi=>scT_cut (all_getD (p:=pureA) ha hi) (hA.getD i)
  refine (hh _ w _ w args' n hN hA1).mono ?_
  intro e w' he
  cases e with
  | returned v' =>
    obtain ⟨φ',hle,hv',hF⟩:=he
    have hZ:=hF.freeze (H1:=[]) (k:=0) (fun b ob h=>by simp at h)
    have k1:=frDV_ok (ψ:=⟨fun b=>if b<([]:List Ob).length+0 then φ' b else none,zF φ' h1.bl 0 w'⟩) (zF_made hF 0) hfz hv'
    have hle2:le (cut φ ([]:List Ob).length) ⟨fun b=>if b<([]:List Ob).length+0 then φ' b else none,zF φ' h1.bl 0 w'⟩:=by
      refine ⟨fun b x hx=>?_,fun B o hB=>(zF_made hF 0).le B o (hle.zz B o hB)⟩
      rw [cut_ge (show ([]:List Ob).length≤b from Nat.zero_le b)]at hx;cases hx
    obtain ⟨φ'',q1,q2,q3⟩:=hI'.widen (H1:=[]) (X:=[]) hZ hle2 .nil
    refine ⟨φ'',q1,?_,q3⟩
    have hc:cut ⟨fun b=>if b<([]:List Ob).length+0 then φ' b else none,zF φ' h1.bl ([]:List Ob).length w'⟩ ([]:List Ob).length=⟨fun b=>if b<([]:List Ob).length+0 then φ' b else none,zF φ' h1.bl 0 w'⟩:=by
      unfold cut
      simp
    rw [hc]at q2
    exact k1.mono q2
  | panicked ch=>exact he.elim
  | outgrown=>exact he.elim
end
def hasApp (os:Array Oper):Bool:=os.toList.any fun o=>match o.op with
  | .call { callee:=.builtin b,.. }=>(match b with | .append | .copy=>true | _=>false)
  | _=>false
def forceK (k:Kn):Kn:=fun o=>match o with
  | .ex e s=>forceE s.h.bl fun bl=>k (.ex e ⟨s.t,s.d,⟨bl,s.h.base,s.h.wr⟩⟩)
  | o=>k o
theorem forceK_eq (k:Kn):forceK k=k:=by
  funext o
  cases o with
  | ex e s=>simp only [forceK,forceE_eq]
  | _=>rfl
def catL:List Value→Nat→Nat→List Value→List Value
  | [],_,_,m=>m
  | x::r,off,n,m=>match off with
    | o+1=>catL r o n m
    | 0=>(match n with
      | k+1=>x::catL r 0 k m
      | 0=>m)
theorem catL_eq:∀(l:List Value) (off n:Nat) (m:List Value),catL l off n m=(l.drop off).take n++m
  | [],off,n,m=>by simp [catL]
  | x::r,0,0,m=>by simp [catL]
  | x::r,0,k+1,m=>by simp [catL,catL_eq r 0 k m]
  | x::r,o+1,n,m=>by simp [catL,catL_eq r o n m]
theorem catA_eq (c:Array Value)(off n:Nat)(m:Array Value):(⟨catL c.toList off n m.toList⟩:Array Value)=c.extract off (off+n)++m:=by
  apply Array.ext'
  rw [catL_eq,Array.toList_append,Array.toList_extract,List.extract]
  simp
def appendZ (P:Program)(h:Hp)(ts tx:TypeId)(s x:Value)(k:Value→Hp→Option Out):Option Out :=
  match P.underlying ts,P.underlying tx with
  | some (.slice e),some d =>
    if intB d=true then none else
    match P.info? e,zeroB P e with
    | some inf,some z =>
      natF inf.size fun isz=>natF inf.bytes fun iby =>
      match s,lenB x with
      | .slice base sl sz,some n =>
        natF n fun n =>
        cond (decide (n=0)) (k (.slice base sl sz) h)
        (newC h.bl isz n x fun news =>
          cond (decide (news.size=n*isz)&&(oneAll news&&decide (z.cells.size=isz))) (cond (decide ((sl+n)*iby≤140737488355328)&&decide (sl+n≤4611686018427387904))
            (match base with
            | none=>cond (decide (sl=0)) (k (.slice (some ⟨h.bl.length,0,none⟩) n isz) (h.push (.cells news false))) none
            | some ⟨b,off,none⟩ =>
              match nthO h.bl b with
              | some (.cells c false) =>
                cond (decide (sz=isz)) (cond (decide (off+sl*isz≤c.size))
                  (k (.slice (some ⟨h.bl.length,0,none⟩) (sl+n) isz) ((h.put b .dead).push (.cells ⟨catL c.toList off (sl*isz) news.toList⟩ false))) none) none
              | _=>none
            | _=>none) none) none)
      | _,_=>none
    | _,_=>none
  | _,_=>none
theorem appendZ_eq:appendZ=appendC:=by
  funext P h ts tx s x k
  simp only [appendZ,appendC,catA_eq]
  rfl
def loudZ (P:Program) (ρ:Operand→Value)(h:Hp)(o:Oper)(k:Ends):Option Out :=
  match o.op with
  | .call { callee:=.builtin .append,args,argTypes } =>
    match args.toList,argTypes.toList with
    | [s,x],[ts,tx]=>if okO s&&okO x then appendZ P h ts tx (ρ s) (ρ x) k.val else none
    | _,_=>none
  | _=>loudC P ρ h o k
theorem loudZ_eq:loudZ=loudC:=by
  funext P ρ h o k
  unfold loudZ
  split
  · rename_i args ts ho
    unfold loudC
    simp only [ho,appendZ_eq]
    rfl
  · rfl
def opDZ (P:Program)(self:SelfC)(T:List Value)(h:Hp)(o:Oper)(k:Value→Hp→Bool→Option Out):Option Out :=
  match o.op with
  | .pick c a b=>if okO c&&okO a&&okO b then (match evalT T c with | .bool t=>cond t (k (evalT T a) h false) (k (evalT T b) h false) | _=>none) else none
  | _ =>
    match symR P (evalT T) h.bl o with
    | some (b,v)=>cond b (k v h false) none
    | none=>match aread P (evalT T) h.bl o with
      | some v=>k v h false
      | none=>loudZ P (evalT T) h o {
        val:=fun v h'=>heapK h' fun h'=>k v h' true
        enter:=fun f args=>headsK args fun args=>self (.call f ⟨args⟩ h) fun | .ret v h'=>k v h' true | _=>none
        yield:=fun l args=>headsK args fun args=>self (.round l ⟨args⟩ h) fun | .ret v h'=>k v h' true | _=>none
        defer:=fun _=>none
        panic:=fun _=>none }
theorem opDZ_eq:opDZ=opD:=by
  funext P self T h o k
  simp only [opDZ,loudZ_eq]
  rfl
def drunZ (P:Program)(self:SelfC)(os:Array Oper):List Nat→List Value→Hp→(List Rec→List Value→Hp→Option Out)→Option Out
  | [],T,h,k=>k [] T h
  | i::r,T,h,k =>
    match os[i]? with
    | none=>none
    | some o =>
      guardC os o T
        (fun T=>opDZ P self T h o fun v h' loud=>headK v fun v=>setK' T o.dst v fun T'=>drunZ P self os r T' h' fun l T2 h2=>k (⟨i,o,T,v,h,h',loud⟩::l) T2 h2)
        (fun T=>setK' T o.dst undef fun T'=>drunZ P self os r T' h fun l T2 h2=>k (⟨i,o,T,undef,h,h,false⟩::l) T2 h2)
theorem drunZ_eq (P:Program)(self:SelfC)(os:Array Oper):∀l,drunZ P self os l=drunC P self os l
  | []=>rfl
  | i::r=>by
    funext T h k
    simp only [drunZ,drunC,drunZ_eq P self os r,opDZ_eq]
    rfl
def drawnFZ (P:Program)(self:SelfC)(os:Array Oper)(s:St)(k:Ex→St→Option Out):Option Out :=
  if planOk os (late os) (mkClo os (late os) (List.replicate os.size 0)) then
    drunZ P self os (late os) s.t s.h fun recs T h =>
      if floatOk (mkClo os (late os) (List.replicate os.size 0)) [] recs&&recs.all fun r=>!(r.loud&&isAl r.o)||r.o.dst.all fun t=>decide (t<s.t.length) then
        fchkC P os (mkClo os (late os) (List.replicate os.size 0)) recs (k .normal { t:=T,d:=s.d,h:=h })
      else none
  else none
def drawnNZ (P:Program)(self:SelfC)(os:Array Oper)(s:St)(k:Ex→St→Option Out):Option Out :=
  if planOk os (Region.linearise .any os 0) (mkClo os (Region.linearise .any os 0) (List.replicate os.size 0)) then
    drunZ P self os (Region.linearise .any os 0) s.t s.h fun recs T h =>
      chkC P os (mkClo os (Region.linearise .any os 0) (List.replicate os.size 0)) recs (k .normal { t:=T,d:=s.d,h:=h })
  else none
def drawnXZ (P:Program)(self:SelfC)(os:Array Oper)(s:St)(k:Ex→St→Option Out):Option Out :=
  match floaty os (mkClo os (Region.linearise .any os 0) (List.replicate os.size 0)) with
  | true=>drawnFZ P self os s k
  | false=>drawnNZ P self os s k
theorem drawnXZ_eq:drawnXZ=drawnXC:=by
  funext P self os s k
  simp only [drawnXZ,drawnXC,drawnFZ,drawnFC,drawnNZ,drawnC,drunZ_eq]
  rfl
def opZ (P:Program) (ρ:Operand→Value)(h:Hp)(o:Oper)(k:Ends):Option Out :=
  match o.op with
  | .pick c a b=>if okO c&&okO a&&okO b then (match ρ c with | .bool t=>cond t (k.val (ρ a) h) (k.val (ρ b) h) | _=>none) else none
  | _ =>
    match symR P ρ h.bl o with
    | some (b,v)=>cond b (k.val v h) none
    | none=>match aread P ρ h.bl o with
      | some v=>k.val v h
      | none=>loudZ P ρ h o k.heap
theorem opZ_eq:opZ=opC:=by
  funext P ρ h o k
  simp only [opZ,loudZ_eq]
  rfl
def runOpsZ (P:Program)(self:SelfC)(rd:Option Nat)(os:Array Oper):List Nat→St→(Ex→St→Option Out)→Option Out
  | [],s,k=>k .normal s
  | i::r,s,k =>
    match os[i]? with
    | none=>runOpsZ P self rd os r s k
    | some o =>
      guardC os o s.t
        (fun t=>opZ P (evalT t) s.h o {
          val:=fun v h=>setK' t o.dst v fun t=>runOpsZ P self rd os r { t:=t,d:=s.d,h:=h } k
          enter:=fun f args=>headsK args fun args=>self (.call f ⟨args⟩ s.h) fun
            | .ret v h=>setK' t o.dst v fun t=>runOpsZ P self rd os r { t:=t,d:=s.d,h:=h } k
            | .pan v h=>k (.panic v) { t:=t,d:=s.d,h:=h }
            | _=>none
          yield:=fun l args=>headsK args fun args=>self (.round l ⟨args⟩ s.h) fun
            | .ret v h=>setK' t o.dst v fun t=>runOpsZ P self rd os r { t:=t,d:=s.d,h:=h } k
            | _=>none
          defer:=fun d=>if rd.isNone then setK' t o.dst undef fun t=>runOpsZ P self rd os r { t:=t,d:=d::s.d,h:=s.h } k else none
          panic:=fun v=>k (.panic v) { t:=t,d:=s.d,h:=s.h } })
        (fun t=>setK' t o.dst undef fun t=>runOpsZ P self rd os r { t:=t,d:=s.d,h:=s.h } k)
theorem runOpsZ_eq (P:Program)(self:SelfC)(rd:Option Nat)(os:Array Oper):∀l,runOpsZ P self rd os l=runOpsC P self rd os l
  | []=>rfl
  | i::r=>by
    funext s k
    simp only [runOpsZ,runOpsC,runOpsZ_eq P self rd os r,opZ_eq]
    rfl
def drawnWZ (P:Program)(self:SelfC)(rd:Option Nat)(os:Array Oper)(s:St)(k:Ex→St→Option Out):Option Out :=
  match waits os (os.size-1)&&Nat.blt 0 os.size with
  | true=>drawnXZ P self os.pop s fun e s'=>(match e with
    | .normal=>runOpsZ P self rd os [os.size-1] s' k
    | _=>none)
  | false=>drawnXZ P self os s k
theorem drawnWZ_ok {P:Program}{self:SelfC}{sd:Self}(hs:CpsOk self sd) {rd:Option Nat}{id:Nat}{os:Array Oper}{s:St}{k:Ex→St→Option Out}{r:Out}(hc:drawnWZ P self rd os s k=some r) :
    ∃e s',drawnW P sd rd id os s=some (.ex e s')∧k e s'=some r:=by
  unfold drawnWZ at hc
  unfold drawnW
  by_cases hw:(waits os (os.size-1)&&Nat.blt 0 os.size)=true
  · rw [hw]at hc ⊢
    simp only [drawnXZ_eq]at hc
    obtain ⟨e,s',h1,h2⟩:=drawnXC_ok (rd:=rd) (id:=id) hs hc
    simp only [h1]
    cases e with
    | normal =>
      simp only at h2 ⊢
      rw [runOpsZ_eq]at h2
      exact runOpsC_ok hs h2
    | _=>cases h2
  · rw [Bool.eq_false_iff.2 hw]at hc ⊢
    simp only [drawnXZ_eq]at hc
    exact drawnXC_ok hs hc
def stepZ (P:Program)(self:SelfC):SelfC:=fun t k=>match t with
  | .code rd (.region id os dr) s=>(match dr with
    | true=>drawnWZ P self rd os s fun e s'=>(match hasApp os with
      | true=>forceK k (.ex e s')
      | false=>k (.ex e s'))
    | false=>(match hasApp os with
      | true=>runOpsZ P self rd os (List.range os.size) s fun e s'=>forceK k (.ex e s')
      | false=>stepC P self (.code rd (.region id os false) s) k))
  | t=>stepC P self t k
theorem stepF_drawn {P:Program}{sd:Self}{t:Task}{d1 d2:Program→Self→Option Nat→Nat→Array Oper→St→Option Out}(h:∀rd id os s,t≠.code rd (.region id os true) s):stepF d1 P sd t=stepF d2 P sd t:=by
  cases t with
  | code rd c s =>
    cases c with
    | region id os dr =>
      cases dr with
      | true=>exact (h rd id os s rfl).elim
      | false=>rfl
    | _=>rfl
  | _=>rfl
theorem stepZ_ok {P:Program}{self:SelfC}{sd:Self}(hs:CpsOk self sd):CpsOk (stepZ P self) (stepF drawnW P sd):=by
  intro t k r hc
  unfold stepZ at hc
  split at hc
  · rename_i rd id os dr s
    cases dr with
    | true =>
      simp only at hc
      obtain ⟨e,s',h1,h2⟩:=drawnWZ_ok (id:=id) hs hc
      refine ⟨.ex e s',by simpa only [stepF,if_true] using h1,?_⟩
      split at h2
      · rw [forceK_eq]at h2;exact h2
      · exact h2
    | false =>
      simp only at hc
      split at hc
      · rw [runOpsZ_eq,forceK_eq]at hc
        obtain ⟨o,h1,h2⟩:=stepC_ok hs (.code rd (.region id os false) s) k r hc
        exact ⟨o,(stepF_drawn (fun _ _ _ _ h=>by cases h)).trans h1,h2⟩
      · obtain ⟨o,h1,h2⟩:=stepC_ok hs (.code rd (.region id os false) s) k r hc
        exact ⟨o,(stepF_drawn (fun _ _ _ _ h=>by cases h)).trans h1,h2⟩
  · rename_i hn
    obtain ⟨o,h1,h2⟩:=stepC_ok hs _ k r hc
    exact ⟨o,(stepF_drawn (fun rd id os s h=>hn rd id os true s h)).trans h1,h2⟩
def evZ (P:Program)(oc:Task→Kn→Option (Option Out)):Nat→SelfC
  | 0,_,_=>none
  | n+1,t,k=>match oc t k with
    | some r=>r
    | none=>stepZ P (evZ P oc n) t k
theorem evZ_ok {P:Program}{oc:Task→Kn→Option (Option Out)}{orc:Self}(ho:OcOk oc orc):∀n,CpsOk (evZ P oc n) (iterO orc drawnW P n)
  | 0=>fun _ _ _ h=>by cases h
  | n+1=>by
    intro t k r h
    simp only [evZ]at h
    simp only [iterO]
    split at h
    · rename_i r' hr
      subst h
      obtain ⟨o,h1,h2⟩:=ho.1 _ _ _ hr
      rw [h1];exact ⟨_,rfl,h2⟩
    · rename_i hr
      rw [ho.2 _ _ hr]
      exact stepZ_ok (evZ_ok ho n) t k r h
theorem Known.factZ {P:Program}(hN:NoNG P) (hm:P.follows .mixedOrders=true) {a:Ans}(hk:Known P a) {n:Nat}{t:Task}{k:Kn}{r:Out}(h:evZ P a.c n t k=some r):∃o,k o=some r∧Fact P t o:=by
  obtain ⟨o',h1,h2⟩:=evZ_ok (P:=P) a.oc n t k r h
  have hh:=iterO_ok (drawn:=drawnW) hN (drawnW_ok hN hm) hk.selfOk hk.loopOk n
  refine ⟨o',h2,hh.1 _ _ h1,?_⟩
  unfold LoopFact
  split
  · exact fun hb=>hh.2 _ _ _ _ _ h1 hb
  · trivial
def CF.chk (P:Program)(l:List CF)(n:Nat)(c:CF):Bool:=match evZ P (tabA l).c n (.call c.g ⟨c.args⟩ ⟨[],0,[]⟩) frDK with
  | some (.ret u ⟨[],0,[]⟩)=>(match eqVn 12 u c.u with
    | true=>c.args.all pureA
    | false=>false)
  | _=>false
section
variable {P:Program}(hN:NoNG P) (hm:P.follows .mixedOrders=true)
include hN hm
theorem CF.of2 {l:List CF}(hl:CFs P l) (n:Nat) {c:CF}(h:c.chk P l n=true):c.Ok P:=by
  unfold CF.chk at h
  split at h
  · rename_i u he
    split at h
    · rename_i hu
      have e:=eqVn_eq hu
      subst e
      intro hp
      obtain ⟨o,h3,hf⟩:=(tabA_ok hl).factZ hN hm he
      cases o with
      | ret v h' =>
        simp only [frDK]at h3
        split at h3
        · rename_i u hu
          simp only [Option.some.injEq,Out.ret.injEq,and_true]at h3
          subst h3
          exact hf.liftD hu h hp
        · cases h3
      | _=>cases h3
    · cases h
  · cases h
end
end
end Go.Gi
namespace Go.Proofs.Ytoojllndfjamgaa
open Go.Gi Go.RowKit
noncomputable section
set_option maxRecDepth 100000
set_option maxHeartbeats 4000000
def wAwake0:Array Value:=⟨[.string ⟨⟨[65]⟩⟩,vI 1,vI 2,lstV ⟨[.string ⟨⟨[97]⟩⟩,vI 0,vI 2,vI 0,.string ⟨⟨[98]⟩⟩,vI 0,vI 2,vI 1]⟩ 0 2 4]⟩
def wAwake1:Array Value:=⟨[.int .u8 (.ofNat 65),.int .u8 (.ofNat 1),.int .u8 (.ofNat 1),.int .u8 (.ofNat 2),.int .u8 (.ofNat 184),.int .u8 (.ofNat 171)]⟩
def KAwake0:CF:=⟨56,[],.agg wAwake0⟩
theorem kAwake0:KAwake0.Ok Try.prog:=CF.of2 noNG mixed (l:=[]) .nil 3000 (by kernel_rfl)
def KAwake1:CF:=⟨42,[vI 1,vI 1,vI 4],vT⟩
theorem kAwake1:KAwake1.Ok Try.prog:=CF.of2 noNG mixed (l:=[]) .nil 3000 (by kernel_rfl)
def KAwake2:CF:=⟨42,[vI 1,vI 1,vI 32],vT⟩
theorem kAwake2:KAwake2.Ok Try.prog:=CF.of2 noNG mixed (l:=[]) .nil 3000 (by kernel_rfl)
def KAwake3:CF:=⟨101,[.int .u8 (.ofNat 97)],vT⟩
theorem kAwake3:KAwake3.Ok Try.prog:=CF.of2 noNG mixed (l:=[]) .nil 3000 (by kernel_rfl)
def KAwake4:CF:=⟨79,[.string ⟨⟨[97]⟩⟩],vT⟩
theorem kAwake4:KAwake4.Ok Try.prog:=CF.of2 noNG mixed (l:=[KAwake3]) (.cons kAwake3 .nil) 3000 (by kernel_rfl)
def KAwake5:CF:=⟨42,[vI 0,vI 0,vI 0],vT⟩
theorem kAwake5:KAwake5.Ok Try.prog:=CF.of2 noNG mixed (l:=[]) .nil 3000 (by kernel_rfl)
def KAwake6:CF:=⟨82,[vI 2,vI 2],vT⟩
theorem kAwake6:KAwake6.Ok Try.prog:=CF.of2 noNG mixed (l:=[]) .nil 3000 (by kernel_rfl)
def KAwake7:CF:=⟨42,[vI 0,vI 0,vI 1],vT⟩
theorem kAwake7:KAwake7.Ok Try.prog:=CF.of2 noNG mixed (l:=[]) .nil 3000 (by kernel_rfl)
def KAwake8:CF:=⟨44,[.agg wAwake0,.agg ⟨[.string ⟨⟨[97]⟩⟩,vI 0,vI 2,vI 0]⟩,lstV ⟨[.string ⟨⟨[97]⟩⟩,vI 0,vI 2,vI 0,.string ⟨⟨[98]⟩⟩,vI 0,vI 2,vI 1]⟩ 0 0 4],vI 0⟩
theorem kAwake8:KAwake8.Ok Try.prog:=CF.of2 noNG mixed (l:=[KAwake4,KAwake5,KAwake6,KAwake7]) (.cons kAwake4 (.cons kAwake5 (.cons kAwake6 (.cons kAwake7 .nil)))) 3000 (by kernel_rfl)
def KAwake9:CF:=⟨101,[.int .u8 (.ofNat 98)],vT⟩
theorem kAwake9:KAwake9.Ok Try.prog:=CF.of2 noNG mixed (l:=[]) .nil 3000 (by kernel_rfl)
def KAwake10:CF:=⟨79,[.string ⟨⟨[98]⟩⟩],vT⟩
theorem kAwake10:KAwake10.Ok Try.prog:=CF.of2 noNG mixed (l:=[KAwake9]) (.cons kAwake9 .nil) 3000 (by kernel_rfl)
def KAwake11:CF:=⟨42,[vI 1,vI 0,vI 1],vT⟩
theorem kAwake11:KAwake11.Ok Try.prog:=CF.of2 noNG mixed (l:=[]) .nil 3000 (by kernel_rfl)
def KAwake12:CF:=⟨84,[.agg ⟨[.string ⟨⟨[97]⟩⟩,vI 0,vI 2,vI 0]⟩,.agg ⟨[.string ⟨⟨[98]⟩⟩,vI 0,vI 2,vI 1]⟩],vF⟩
theorem kAwake12:KAwake12.Ok Try.prog:=CF.of2 noNG mixed (l:=[]) .nil 3000 (by kernel_rfl)
def KAwake13:CF:=⟨44,[.agg wAwake0,.agg ⟨[.string ⟨⟨[98]⟩⟩,vI 0,vI 2,vI 1]⟩,lstV ⟨[.string ⟨⟨[97]⟩⟩,vI 0,vI 2,vI 0,.string ⟨⟨[98]⟩⟩,vI 0,vI 2,vI 1]⟩ 0 1 4],vI 0⟩
theorem kAwake13:KAwake13.Ok Try.prog:=CF.of2 noNG mixed (l:=[KAwake5,KAwake6,KAwake10,KAwake11,KAwake12]) (.cons kAwake5 (.cons kAwake6 (.cons kAwake10 (.cons kAwake11 (.cons kAwake12 .nil))))) 3000 (by kernel_rfl)
def KAwake14:CF:=⟨15,[.agg wAwake0],.tuple ⟨[vI 0,vI 0,vI 0]⟩⟩
theorem kAwake14:KAwake14.Ok Try.prog:=CF.of2 noNG mixed (l:=[KAwake8,KAwake1,KAwake2,KAwake13]) (.cons kAwake8 (.cons kAwake1 (.cons kAwake2 (.cons kAwake13 .nil)))) 3000 (by kernel_rfl)
def KAwake15:CF:=⟨42,[vI 1,vI 0,vI 1000000],vT⟩
theorem kAwake15:KAwake15.Ok Try.prog:=CF.of2 noNG mixed (l:=[]) .nil 3000 (by kernel_rfl)
def KAwake16:CF:=⟨87,[vI 1],vT⟩
theorem kAwake16:KAwake16.Ok Try.prog:=CF.of2 noNG mixed (l:=[KAwake15]) (.cons kAwake15 .nil) 3000 (by kernel_rfl)
def KAwake17:CF:=⟨42,[vI 258,vI 0,vI 65535],vT⟩
theorem kAwake17:KAwake17.Ok Try.prog:=CF.of2 noNG mixed (l:=[]) .nil 3000 (by kernel_rfl)
def KAwake18:CF:=⟨89,[vI 258],vT⟩
theorem kAwake18:KAwake18.Ok Try.prog:=CF.of2 noNG mixed (l:=[KAwake17]) (.cons kAwake17 .nil) 3000 (by kernel_rfl)
def KAwake19:CF:=⟨58,[.int .u16 (.ofNat 65535),.int .u8 (.ofNat 65)],.int .u16 (.ofNat 47381)⟩
theorem kAwake19:KAwake19.Ok Try.prog:=CF.of2 noNG mixed (l:=[]) .nil 3000 (by kernel_rfl)
def KAwake20:CF:=⟨58,[.int .u16 (.ofNat 47381),.int .u8 (.ofNat 1)],.int .u16 (.ofNat 13267)⟩
theorem kAwake20:KAwake20.Ok Try.prog:=CF.of2 noNG mixed (l:=[]) .nil 3000 (by kernel_rfl)
def KAwake21:CF:=⟨58,[.int .u16 (.ofNat 13267),.int .u8 (.ofNat 1)],.int .u16 (.ofNat 50449)⟩
theorem kAwake21:KAwake21.Ok Try.prog:=CF.of2 noNG mixed (l:=[]) .nil 3000 (by kernel_rfl)
def KAwake22:CF:=⟨58,[.int .u16 (.ofNat 50449),.int .u8 (.ofNat 2)],.int .u16 (.ofNat 47275)⟩
theorem kAwake22:KAwake22.Ok Try.prog:=CF.of2 noNG mixed (l:=[]) .nil 3000 (by kernel_rfl)
def KAwake23:CF:=⟨57,[],lstV wAwake1 0 6 1⟩
theorem kAwake23:KAwake23.Ok Try.prog:=CF.of2 noNG mixed (l:=[]) .nil 3000 (by kernel_rfl)
def KAwake24:CF:=⟨42,[vI 0,vI 0,vI 1000000],vT⟩
theorem kAwake24:KAwake24.Ok Try.prog:=CF.of2 noNG mixed (l:=[]) .nil 3000 (by kernel_rfl)
def KAwake25:CF:=⟨87,[vI 0],vT⟩
theorem kAwake25:KAwake25.Ok Try.prog:=CF.of2 noNG mixed (l:=[KAwake24]) (.cons kAwake24 .nil) 3000 (by kernel_rfl)
def KAwake26:CF:=⟨71,[.agg wAwake0,.agg ⟨[lstV wAwake1 0 6 1,vI 0]⟩],vI 0⟩
theorem kAwake26:KAwake26.Ok Try.prog:=CF.of2 noNG mixed (l:=[KAwake25,KAwake14]) (.cons kAwake25 (.cons kAwake14 .nil)) 3000 (by kernel_rfl)
def KAwake27:CF:=⟨68,[.agg wAwake0,lstV wAwake1 0 6 1],.func (.func 90) ⟨[]⟩ ⟨[dptV wAwake0 0,dptV ⟨[lstV wAwake1 0 6 1]⟩ 0]⟩⟩
theorem kAwake27:KAwake27.Ok Try.prog:=CF.of2 noNG mixed (l:=[]) .nil 3000 (by kernel_rfl)
def KAwake28:CF:=⟨69,[.agg wAwake0],vI 6⟩
theorem kAwake28:KAwake28.Ok Try.prog:=CF.of2 noNG mixed (l:=[]) .nil 3000 (by kernel_rfl)
def KAwake29:CF:=⟨104,[lstV wAwake1 0 6 1,vI 4],vI 47275⟩
theorem kAwake29:KAwake29.Ok Try.prog:=CF.of2 noNG mixed (l:=[]) .nil 3000 (by kernel_rfl)
def KAwake30:CF:=⟨20,[lstV wAwake1 0 4 1],vI 47275⟩
theorem kAwake30:KAwake30.Ok Try.prog:=CF.of2 noNG mixed (l:=[KAwake19,KAwake20,KAwake21,KAwake22]) (.cons kAwake19 (.cons kAwake20 (.cons kAwake21 (.cons kAwake22 .nil)))) 3000 (by kernel_rfl)
def KAwake31:CF:=⟨91,[.agg wAwake0,lstV wAwake1 0 6 1],vT⟩
theorem kAwake31:KAwake31.Ok Try.prog:=CF.of2 noNG mixed (l:=[KAwake29,KAwake30]) (.cons kAwake29 (.cons kAwake30 .nil)) 3000 (by kernel_rfl)
def KAwake32:CF:=⟨104,[lstV wAwake1 1 5 1,vI 1],vI 258⟩
theorem kAwake32:KAwake32.Ok Try.prog:=CF.of2 noNG mixed (l:=[]) .nil 3000 (by kernel_rfl)
def KAwake33:CF:=⟨92,[.agg wAwake0,lstV wAwake1 0 6 1,vI 0],.agg ⟨[vI 0,vI 1,lstV ⟨[vI 258]⟩ 0 1 1]⟩⟩
theorem kAwake33:KAwake33.Ok Try.prog:=CF.of2 noNG mixed (l:=[KAwake32]) (.cons kAwake32 .nil) 3000 (by kernel_rfl)
def KAwake34:CF:=⟨93,[vI 1,vI 256],vI 1⟩
theorem kAwake34:KAwake34.Ok Try.prog:=CF.of2 noNG mixed (l:=[]) .nil 3000 (by kernel_rfl)
def KAwake35:CF:=⟨95,[.agg ⟨[vI 1,lstV ⟨[vI 258]⟩ 0 1 1]⟩],vT⟩
theorem kAwake35:KAwake35.Ok Try.prog:=CF.of2 noNG mixed (l:=[KAwake16]) (.cons kAwake16 .nil) 3000 (by kernel_rfl)
def KAwake36:CF:=⟨72,[.agg wAwake0,.agg ⟨[lstV wAwake1 0 6 1,vI 0]⟩],.tuple ⟨[lstV ⟨[vI 1,lstV ⟨[vI 258]⟩ 0 1 1]⟩ 0 1 2,vI 0]⟩⟩
theorem kAwake36:KAwake36.Ok Try.prog:=CF.of2 noNG mixed (l:=[KAwake28,KAwake33,KAwake34,KAwake35,KAwake27,KAwake31]) (.cons kAwake28 (.cons kAwake33 (.cons kAwake34 (.cons kAwake35 (.cons kAwake27 (.cons kAwake31 .nil)))))) 3000 (by kernel_rfl)
def KAwake37:CF:=⟨31,[.agg wAwake0,.agg ⟨[lstV wAwake1 0 6 1,vI 0]⟩],.tuple ⟨[lstV ⟨[vI 1]⟩ 0 1 1,vI 0]⟩⟩
theorem kAwake37:KAwake37.Ok Try.prog:=CF.of2 noNG mixed (l:=[KAwake26,KAwake36]) (.cons kAwake26 (.cons kAwake36 .nil)) 3000 (by kernel_rfl)
def KAwake38:CF:=⟨42,[vJ 0,vI 0,vI 1000000],vF⟩
theorem kAwake38:KAwake38.Ok Try.prog:=CF.of2 noNG mixed (l:=[]) .nil 3000 (by kernel_rfl)
def KAwake39:CF:=⟨87,[vJ 0],vF⟩
theorem kAwake39:KAwake39.Ok Try.prog:=CF.of2 noNG mixed (l:=[KAwake38]) (.cons kAwake38 .nil) 3000 (by kernel_rfl)
def KAwake40:CF:=⟨59,[.agg wAwake0,vJ 0,.slice none 0 0,vI 1],vI 7⟩
theorem kAwake40:KAwake40.Ok Try.prog:=CF.of2 noNG mixed (l:=[KAwake14,KAwake39]) (.cons kAwake14 (.cons kAwake39 .nil)) 3000 (by kernel_rfl)
def KAwake41:CF:=⟨25,[.agg wAwake0,vJ 0,.slice none 0 0],.tuple ⟨[.slice none 0 0,vI 7]⟩⟩
theorem kAwake41:KAwake41.Ok Try.prog:=CF.of2 noNG mixed (l:=[KAwake40]) (.cons kAwake40 .nil) 3000 (by kernel_rfl)
def KAwake42:CF:=⟨58,[.int .u16 (.ofNat 65535),.int .u8 (.ofNat 49)],.int .u16 (.ofNat 51074)⟩
theorem kAwake42:KAwake42.Ok Try.prog:=CF.of2 noNG mixed (l:=[]) .nil 3000 (by kernel_rfl)
def KAwake43:CF:=⟨58,[.int .u16 (.ofNat 51074),.int .u8 (.ofNat 50)],.int .u16 (.ofNat 15802)⟩
theorem kAwake43:KAwake43.Ok Try.prog:=CF.of2 noNG mixed (l:=[]) .nil 3000 (by kernel_rfl)
def KAwake44:CF:=⟨58,[.int .u16 (.ofNat 15802),.int .u8 (.ofNat 51)],.int .u16 (.ofNat 23502)⟩
theorem kAwake44:KAwake44.Ok Try.prog:=CF.of2 noNG mixed (l:=[]) .nil 3000 (by kernel_rfl)
def KAwake45:CF:=⟨58,[.int .u16 (.ofNat 23502),.int .u8 (.ofNat 52)],.int .u16 (.ofNat 21321)⟩
theorem kAwake45:KAwake45.Ok Try.prog:=CF.of2 noNG mixed (l:=[]) .nil 3000 (by kernel_rfl)
def KAwake46:CF:=⟨58,[.int .u16 (.ofNat 21321),.int .u8 (.ofNat 53)],.int .u16 (.ofNat 17760)⟩
theorem kAwake46:KAwake46.Ok Try.prog:=CF.of2 noNG mixed (l:=[]) .nil 3000 (by kernel_rfl)
def KAwake47:CF:=⟨58,[.int .u16 (.ofNat 17760),.int .u8 (.ofNat 54)],.int .u16 (.ofNat 12020)⟩
theorem kAwake47:KAwake47.Ok Try.prog:=CF.of2 noNG mixed (l:=[]) .nil 3000 (by kernel_rfl)
def KAwake48:CF:=⟨58,[.int .u16 (.ofNat 12020),.int .u8 (.ofNat 55)],.int .u16 (.ofNat 30488)⟩
theorem kAwake48:KAwake48.Ok Try.prog:=CF.of2 noNG mixed (l:=[]) .nil 3000 (by kernel_rfl)
def KAwake49:CF:=⟨58,[.int .u16 (.ofNat 30488),.int .u8 (.ofNat 56)],.int .u16 (.ofNat 41259)⟩
theorem kAwake49:KAwake49.Ok Try.prog:=CF.of2 noNG mixed (l:=[]) .nil 3000 (by kernel_rfl)
def KAwake50:CF:=⟨58,[.int .u16 (.ofNat 41259),.int .u8 (.ofNat 57)],.int .u16 (.ofNat 10673)⟩
theorem kAwake50:KAwake50.Ok Try.prog:=CF.of2 noNG mixed (l:=[]) .nil 3000 (by kernel_rfl)
def KAwake51:CF:=⟨19,[],vT⟩
theorem kAwake51:KAwake51.Ok Try.prog:=CF.of2 noNG mixed (l:=[KAwake0,KAwake23,KAwake14,KAwake16,KAwake18,KAwake19,KAwake20,KAwake21,KAwake22,KAwake37,KAwake41,KAwake42,KAwake43,KAwake44,KAwake45,KAwake46,KAwake47,KAwake48,KAwake49,KAwake50]) (.cons kAwake0 (.cons kAwake23 (.cons kAwake14 (.cons kAwake16 (.cons kAwake18 (.cons kAwake19 (.cons kAwake20 (.cons kAwake21 (.cons kAwake22 (.cons kAwake37 (.cons kAwake41 (.cons kAwake42 (.cons kAwake43 (.cons kAwake44 (.cons kAwake45 (.cons kAwake46 (.cons kAwake47 (.cons kAwake48 (.cons kAwake49 (.cons kAwake50 .nil)))))))))))))))))))) 3000 (by kernel_rfl)
end
end Go.Proofs.Ytoojllndfjamgaa
namespace Go.Proofs.Ytoojllndfjamgaa
open Go.Gi Go.RowKit
noncomputable section
structure R19 where
  r0:Bool
structure A19 where
def rt19:RT R19:=.leaf ⟨true⟩
def F19:Option R19:=rt19.val
def F19_ok:Bool:=F19.isSome
def F19_0:Bool:=match F19 with | some r=>r.r0 | none=>false
def dec19:Task→Option (A19×Hp)
  | .call g ⟨[]⟩ h=>(match Nat.beq g 19 with | true=>some (⟨⟩,h) | false=>none)
  | _=>none
def alt19 (_x:A19)(h:Hp):AT:=.br F19_ok (.leaf (.ret (.bool F19_0) h)) .no
def p19:Ans:=fnAns dec19 alt19
theorem hd19:∀(t:Task) (x:A19)(h:Hp),dec19 t=some (x,h)→t=.call 19 ⟨[]⟩ h:=by
  intro t x h e
  unfold dec19 at e
  split at e
  case h_2=>cases e
  split at e
  case h_2=>cases e
  rename_i hg
  simp only [Option.some.injEq,Prod.mk.injEq]at e
  obtain ⟨_,rfl⟩:=e
  rw [Nat.eq_of_beq_eq_true hg]
theorem known19:Known Try.prog p19:=by
  intro t x o h ho
  unfold p19 fnAns at h
  split at h
  · rename_i x' hp hd
    simp only [Option.some.injEq]at h
    subst h
    obtain rfl:=hd19 _ _ _ hd
    have h2:(alt19 x' hp).out=some (.ret (.bool true) hp):=rfl
    rw [h2]at ho
    cases ho
    exact kAwake51 hp
  · cases h
end
end Go.Proofs.Ytoojllndfjamgaa
