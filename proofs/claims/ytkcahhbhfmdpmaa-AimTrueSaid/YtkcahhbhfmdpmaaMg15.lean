/- Part 15 of the texts below the claim. Conditions: none. -/
import Derived.Test.YtkcahhbhfmdpmaaMg7
import Derived.Test.YtkcahhbhfmdpmaaMg8
import Derived.Test.YtkcahhbhfmdpmaaMg14
import Derived.Test.YtkcahhbhfmdpmaaMg11
import Derived.Test.YtkcahhbhfmdpmaaMg12
import Derived.Test.YtkcahhbhfmdpmaaMg13
set_option linter.unusedVariables false
set_option linter.unusedSimpArgs false
namespace Go.Proofs.Ytkcahhbhfmdpmaa
open Go.Gi Go.RowKit Go.Proofs.Ytkcahhbhfmdpmaa.Old
noncomputable section
set_option maxRecDepth 100000
set_option maxHeartbeats 4000000
structure R18 where
 (r0:Array Value)
 (r1 r2:Nat)
structure A18 where
def rt18 :RT R18 :=
 .leaf ⟨⟨[(.int .i64 (0:Int)),(.int .i64 (200000:Int)),(.int .i64 (600:Int)),(.int .i64 (780:Int)),(.int .i64 (-150:Int)),(.int .i64 (80:Int)),(.int .i64 (200000:Int)),(.int .i64 (1000000:Int)),(.int .i64 (640:Int)),(.int .i64 (740:Int)),(.int .i64 (-110:Int)),(.int .i64 (240:Int))]⟩,0,2⟩
def en18 (r:R18):Value:=(lstV r.r0 r.r1 r.r2 6)
theorem T18  :evC Try.prog (Ans.c (fun _=>none:Ans)) 60 (.call 18 ⟨[]⟩ ⟨[],0,[]⟩) (frzK [6])=(rt18 ).out (fun r=>.ret (en18 r) ⟨[],0,[]⟩):=by kernel_rfl
def F18 :Option R18:=(rt18 ).val
def F18_ok :Bool:=(F18 ).isSome
def F18_0 :Array Value:=match F18  with | some r=>r.r0 | none=>#[]
def F18_1 :Nat:=match F18  with | some r=>r.r1 | none=>0
def F18_2 :Nat:=match F18  with | some r=>r.r2 | none=>0
def dec18:Task→Option (A18×Hp)
 | .call g ⟨[]⟩ h=>(match Nat.beq g 18 with | true=>some (⟨⟩,h) | false=>none)
 | _=>none
def alt18 (x:A18)(h:Hp):AT:=.br (F18_ok ) (.leaf (.ret (lstV (F18_0 ) (F18_1 ) (F18_2 ) 6) h)) .no
def p18:Ans:=fnAns dec18 alt18
theorem ha18:∀(x:A18) (h:Hp)(o:Out),(alt18 x h).out=some o→∃r,(rt18 ).val=some r∧o=.ret (en18 r) h:=by
 intro x h o e;unfold alt18 at e;simp only[AT.out]at e;obtain ⟨g,e⟩:=cond_some e;unfold F18_ok at g;obtain ⟨r,hF⟩:=Option.isSome_iff_exists.1 g
 refine ⟨r,by delta F18 at hF;exact hF,?_⟩
 simp only[Option.some.injEq]at e;rw[← e]
 unfold F18_0 F18_1 F18_2;rw[hF]<;>rfl
theorem hd18:∀(t:Task) (x:A18)(h:Hp),dec18 t=some (x,h)→t=.call 18 ⟨[]⟩ h:=by
 intro t x h e;unfold dec18 at e
 split at e
 case h_2=>cases e
 split at e
 case h_2=>cases e
 rename_i hg;simp only[Option.some.injEq,Prod.mk.injEq]at e;obtain ⟨_,rfl⟩:=e;rw[Nat.eq_of_beq_eq_true hg]
theorem known18:Known Try.prog p18:=by
 exact Known.fn noNG mixed (Known.nothing Try.prog) (n:=60) (zs:=[6]) 18 (fun x:A18=>[]) (fun x=>rt18 ) en18 (fun x=>T18  ) (fun x=>rfl) dec18 alt18 hd18 ha18
structure R16 where
 (r0:Bool)
structure A16 where
def rt16 :RT R16 :=
 .leaf ⟨true⟩
def en16 (r:R16):Value:=(.bool r.r0)
theorem T16  :evC Try.prog (Ans.c (p14.or (p17.or (p18.or (p30.or (p45.or (p46.or (p48.or (p50.or (p51.or (p69.or p101))))))))))) 800 (.call 16 ⟨[]⟩ ⟨[],0,[]⟩) (frzK [0])=(rt16 ).out (fun r=>.ret (en16 r) ⟨[],0,[]⟩):=by kernel_rfl
def F16 :Option R16:=(rt16 ).val
def F16_ok :Bool:=(F16 ).isSome
def F16_0 :Bool:=match F16  with | some r=>r.r0 | none=>false
def dec16:Task→Option (A16×Hp)
 | .call g ⟨[]⟩ h=>(match Nat.beq g 16 with | true=>some (⟨⟩,h) | false=>none)
 | _=>none
def alt16 (x:A16)(h:Hp):AT:=.br (F16_ok ) (.leaf (.ret (.bool (F16_0 )) h)) .no
def p16:Ans:=fnAns dec16 alt16
theorem ha16:∀(x:A16) (h:Hp)(o:Out),(alt16 x h).out=some o→∃r,(rt16 ).val=some r∧o=.ret (en16 r) h:=by
 intro x h o e;unfold alt16 at e;simp only[AT.out]at e;obtain ⟨g,e⟩:=cond_some e;unfold F16_ok at g;obtain ⟨r,hF⟩:=Option.isSome_iff_exists.1 g
 refine ⟨r,by delta F16 at hF;exact hF,?_⟩
 simp only[Option.some.injEq]at e;rw[← e]
 unfold F16_0;rw[hF]<;>rfl
theorem hd16:∀(t:Task) (x:A16)(h:Hp),dec16 t=some (x,h)→t=.call 16 ⟨[]⟩ h:=by
 intro t x h e;unfold dec16 at e
 split at e
 case h_2=>cases e
 split at e
 case h_2=>cases e
 rename_i hg;simp only[Option.some.injEq,Prod.mk.injEq]at e;obtain ⟨_,rfl⟩:=e;rw[Nat.eq_of_beq_eq_true hg]
theorem known16:Known Try.prog p16:=by
 exact Known.fn noNG mixed (Known.or known14 (Known.or known17 (Known.or known18 (Known.or known30 (Known.or known45 (Known.or known46 (Known.or known48 (Known.or known50 (Known.or known51 (Known.or known69 known101)))))))))) (n:=800) (zs:=[0]) 16 (fun x:A16=>[]) (fun x=>rt16 ) en16 (fun x=>T16  ) (fun x=>rfl) dec16 alt16 hd16 ha16
structure R31 where
 (r0:Int)
structure A31 where
 (a0 a1:Int)
 (a2:Array Value)
 (a3 a4:Nat)
 (a5:Int)
def rt31 (a0 a1:Int)(a2:Array Value)(a3 a4:Nat)(a5:Int):RT R31 :=let u0:=(Int.tmod a5 (Int.ofNat a4));
 .br (decide ((Int.ofNat a4)=(0:Int))) (.leaf ⟨a0⟩) (.br (not (decide ((Int.ofNat a4)=(0:Int)))) (.br (and (decide ((0:Int)≤u0)) (decide (u0<(Int.ofNat a4)))) (.br (isInt .u8 a2 (a3+((Int.toNat u0)*1))) (.leaf ⟨(IntKind.wrap .i64 (a0+(IntKind.wrap .i64 (Int.tdiv (IntKind.wrap .i64 ((IntKind.wrap .i64 (a1-a0))*(IntKind.wrap .i64 (getInt a2 (a3+((Int.toNat u0)*1)))))) (255:Int)))))⟩) (.no)) (.no)) (.no))
def en31 (r:R31):Value:=(.int .i64 r.r0)
theorem T31  (a0 a1:Int) (a2:Array Value) (a3 a4:Nat) (a5:Int):evC Try.prog (Ans.c (fun _=>none:Ans)) 60 (.call 31 ⟨[(.agg ⟨[(.int .i64 a0),(.int .i64 a1)]⟩),(lstV a2 a3 a4 1),(.int .i64 a5)]⟩ ⟨[],0,[]⟩) (frzK [0])=(rt31 a0 a1 a2 a3 a4 a5).out (fun r=>.ret (en31 r) ⟨[],0,[]⟩):=by kernel_rfl
def F31 (a0 a1:Int)(a2:Array Value)(a3 a4:Nat)(a5:Int):Option R31:=(rt31 a0 a1 a2 a3 a4 a5).val
section
variable (a0 a1:Int) (a2:Array Value) (a3 a4:Nat) (a5:Int)
def F31_ok:Bool:=(F31 a0 a1 a2 a3 a4 a5).isSome
def F31_0:Int:=match F31 a0 a1 a2 a3 a4 a5 with | some r=>r.r0 | none=>0
end
def dec31:Task→Option (A31×Hp)
 | .call g ⟨[(.agg ⟨[(.int .i64 a0),(.int .i64 a1)]⟩),(.func (.via 0 ⟨[]⟩ 0 true) a2 ⟨[.slice (some ⟨0,a3,none⟩) a4 1]⟩),(.int .i64 a5)]⟩ h=>(match Nat.beq g 31 with | true=>some (⟨a0,a1,a2,a3,a4,a5⟩,h) | false=>none)
 | _=>none
def alt31 (x:A31)(h:Hp):AT:=.br (F31_ok x.a0 x.a1 x.a2 x.a3 x.a4 x.a5) (.leaf (.ret (.int .i64 (F31_0 x.a0 x.a1 x.a2 x.a3 x.a4 x.a5)) h)) .no
def p31:Ans:=fnAns dec31 alt31
theorem ha31:∀(x:A31) (h:Hp)(o:Out),(alt31 x h).out=some o→∃r,(rt31 x.a0 x.a1 x.a2 x.a3 x.a4 x.a5).val=some r∧o=.ret (en31 r) h:=by
 intro x h o e;unfold alt31 at e;simp only[AT.out]at e;obtain ⟨g,e⟩:=cond_some e;unfold F31_ok at g;obtain ⟨r,hF⟩:=Option.isSome_iff_exists.1 g
 refine ⟨r,by delta F31 at hF;exact hF,?_⟩
 simp only[Option.some.injEq]at e;rw[← e]
 unfold F31_0;rw[hF]<;>rfl
theorem hd31:∀(t:Task) (x:A31)(h:Hp),dec31 t=some (x,h)→t=.call 31 ⟨[(.agg ⟨[(.int .i64 x.a0),(.int .i64 x.a1)]⟩),(lstV x.a2 x.a3 x.a4 1),(.int .i64 x.a5)]⟩ h:=by
 intro t x h e;unfold dec31 at e
 split at e
 case h_2=>cases e
 split at e
 case h_2=>cases e
 rename_i hg;simp only[Option.some.injEq,Prod.mk.injEq]at e;obtain ⟨rfl,rfl⟩:=e;rw[Nat.eq_of_beq_eq_true hg]
theorem known31:Known Try.prog p31:=by
 exact Known.fn noNG mixed (Known.nothing Try.prog) (n:=60) (zs:=[0]) 31 (fun x:A31=>[(.agg ⟨[(.int .i64 x.a0),(.int .i64 x.a1)]⟩),(lstV x.a2 x.a3 x.a4 1),(.int .i64 x.a5)]) (fun x=>rt31 x.a0 x.a1 x.a2 x.a3 x.a4 x.a5) en31 (fun x=>T31  x.a0 x.a1 x.a2 x.a3 x.a4 x.a5) (fun x=>rfl) dec31 alt31 hd31 ha31
structure X32_0 where
 (v0:Array Value)
 (v1 v2:Nat)
 (v3:Bool)
 (v4 v5:Int)
 (v6 v7:Int)
 (v8 v9:Int)
 (v10 v11 v12:Int)
inductive D32_0 where
 | k0 (d0 d1:Int) (d2 d3:Int) (d4 d5:Int) (d6 d7:Int)
def Lp32_0:LoopOf X32_0 D32_0 where
 c:=(theLoop Try.prog 32 0)
 N:=84
 M:=3
 S:=[1,2,4,5,6,7]
 sl:=fun x=>[(lstV x.v0 x.v1 x.v2 6),(Value.pointer (Option.some (Addr.mk 0 0 Option.none))),(Value.pointer (Option.some (Addr.mk 1 0 Option.none))),(Value.pointer (Option.some (Addr.mk 2 0 Option.none))),(.bool x.v3),(.int .i64 x.v4)]
 hp:=fun x=>[.cells ⟨[(.int .i64 x.v5),(.int .i64 x.v6),(.int .i64 x.v7),(.int .i64 x.v8)]⟩ false,.cells ⟨[(.int .i64 x.v9),(.int .i64 x.v10)]⟩ false,.cells ⟨[(.int .i64 x.v11),(.int .i64 x.v12)]⟩ false]
 ex:=fun d=>match d with | .k0 ..=>.exit 0
 pick:=fun e=>match e with | .exit 0=>[4,5] | _=>[]
 dv:=fun d=>match d with | .k0 d0 d1 d2 d3 d4 d5 d6 d7=>[(Value.pointer (Option.some (Addr.mk 1 0 Option.none))),(Value.pointer (Option.some (Addr.mk 2 0 Option.none)))]
 dh:=fun d=>match d with | .k0 d0 d1 d2 d3 d4 d5 d6 d7=>[.cells ⟨[(.int .i64 d0),(.int .i64 d1),(.int .i64 d2),(.int .i64 d3)]⟩ false,.cells ⟨[(.int .i64 d4),(.int .i64 d5)]⟩ false,.cells ⟨[(.int .i64 d6),(.int .i64 d7)]⟩ false]
theorem ok32_0:Lp32_0.Ok:=⟨fun x=>rfl,fun x=>rfl,fun x=>rfl,fun x=>rfl,fun d=>by cases d<;>rfl,fun d=>by cases d<;>rfl,fun d=>by cases d<;>rfl,fun d=>by cases d<;>(intro h;cases h),fun d=>by cases d<;>rfl,fun d=>by cases d<;>rfl⟩
def rd32_0 (x:X32_0):RT (Sum X32_0 D32_0):=match x with
 | ⟨v0,v1,v2,v3,v4,v5,v6,v7,v8,v9,v10,v11,v12⟩ =>let u0:=(Int.toNat v4);let u1:=(getInt v0 (((v1+(u0*6))+4)+1));let u2:=(getInt v0 (((v1+(u0*6))+4)+0));let u3:=(getInt v0 ((v1+(u0*6))+4));let u4:=(getInt v0 (((v1+(u0*6))+2)+1));let u5:=(IntKind.wrap .i64 (v4+(1:Int)));let u6:=(Leaf.int .i64);let u7:=(getInt v0 (((v1+(u0*6))+2)+0));
   .br (decide (v4<(Int.ofNat v2))) (.br (and (decide ((0:Int)≤v4)) (decide (v4<(Int.ofNat v2)))) (.br (isInt .i64 v0 ((v1+(u0*6))+1)) (.br (decide ((getInt v0 ((v1+(u0*6))+1))≤v5)) (.leaf (.inl ⟨v0,v1,v2,v3,u5,v5,v6,v7,v8,v9,v10,v11,v12⟩)) (.br (and (decide ((0:Int)≤v4)) (decide (v4<(Int.ofNat v2)))) (.br (isInt .i64 v0 ((v1+(u0*6))+0)) (.br (decide (v6≤(getInt v0 ((v1+(u0*6))+0)))) (.leaf (.inl ⟨v0,v1,v2,v3,u5,v5,v6,v7,v8,v9,v10,v11,v12⟩)) (.br (not v3) (.br (and (decide ((0:Int)≤v4)) (decide (v4<(Int.ofNat v2)))) (.br (rdOk v0 [u6,u6] ((v1+(u0*6))+2)) (.br (and (decide ((0:Int)≤v4)) (decide (v4<(Int.ofNat v2)))) (.br (rdOk v0 [u6,u6] ((v1+(u0*6))+4)) (.br (rdOk v0 [u6,u6] ((v1+(u0*6))+4))
   (mq u3 (mq u1 (.br (rdOk v0 [u6,u6] ((v1+(u0*6))+4)) (mq u3 (mq u1 (.br (and (decide ((0:Int)≤v4)) (decide (v4<(Int.ofNat v2)))) (.br (isInt .i64 v0 (((v1+(u0*6))+2)+0)) (.br (and (decide ((0:Int)≤v4)) (decide (v4<(Int.ofNat v2)))) (.br (isInt .i64 v0 (((v1+(u0*6))+2)+1)) (.br (and (decide ((0:Int)≤v4)) (decide (v4<(Int.ofNat v2)))) (.br (isInt .i64 v0 (((v1+(u0*6))+4)+0)) (.br (and (decide ((0:Int)≤v4)) (decide (v4<(Int.ofNat v2)))) (.br (isInt .i64 v0 (((v1+(u0*6))+4)+1))
   (mq u3 (mq u3 (.br (isInt .i64 v0 (((v1+(u0*6))+4)+0)) (mq u2 (.br (isInt .i64 v0 (((v1+(u0*6))+4)+0)) (mq u2 (mq (min u3 u2) (mq (min u3 u2) (mq u1 (mq u1 (.br (isInt .i64 v0 (((v1+(u0*6))+4)+1)) (mq u1 (.br (isInt .i64 v0 (((v1+(u0*6))+4)+1)) (mq u1 (mq (max u1 u1) (mq (max u1 u1) (.leaf (.inl ⟨v0,v1,v2,true,u5,v5,v6,v7,v8,(F45_0 (min (getInt v0 ((v1+(u0*6))+2)) u7) (max u4 u4)),(F45_1 (min (getInt v0 ((v1+(u0*6))+2)) u7) (max u4 u4)),(F45_0 (min u3 u2) (max u1 u1)),(F45_1 (min u3 u2) (max u1 u1))⟩))))) (.no))) (.no))))))) (.no))) (.no)))) (.no)) (.no)) (.no)) (.no)) (.no)) (.no)) (.no)) (.no)))) (.no)))) (.no)) (.no)) (.no)) (.no)) (.no))
   (.br (and (decide ((0:Int)≤v4)) (decide (v4<(Int.ofNat v2)))) (.br (isInt .i64 v0 (((v1+(u0*6))+2)+0)) (.br (and (decide ((0:Int)≤v4)) (decide (v4<(Int.ofNat v2)))) (.br (isInt .i64 v0 (((v1+(u0*6))+2)+1)) (.br (and (decide ((0:Int)≤v4)) (decide (v4<(Int.ofNat v2)))) (.br (isInt .i64 v0 (((v1+(u0*6))+4)+0)) (.br (and (decide ((0:Int)≤v4)) (decide (v4<(Int.ofNat v2)))) (.br (isInt .i64 v0 (((v1+(u0*6))+4)+1)) (mq v11 (mq v11 (.br (isInt .i64 v0 (((v1+(u0*6))+4)+0)) (mq u2 (.br (isInt .i64 v0 (((v1+(u0*6))+4)+0)) (mq u2 (mq (min v11 u2) (mq (min v11 u2) (mq v12 (mq v12 (.br (isInt .i64 v0 (((v1+(u0*6))+4)+1)) (mq u1 (.br (isInt .i64 v0 (((v1+(u0*6))+4)+1)) (mq u1 (mq (max v12 u1) (mq (max v12 u1) (.leaf (.inl ⟨v0,v1,v2,v3,u5,v5,v6,v7,v8,(F45_0 (min v9 u7) (max v10 u4)),(F45_1 (min v9 u7) (max v10 u4)),(F45_0 (min v11 u2) (max v12 u1)),(F45_1 (min v11 u2) (max v12 u1))⟩))))) (.no))) (.no))))))) (.no))) (.no)))) (.no)) (.no)) (.no)) (.no)) (.no)) (.no)) (.no)) (.no)))) (.no)) (.no))) (.no)) (.no)) (.leaf (.inr (.k0 v5 v6 v7 v8 v9 v10 v11 v12)))
theorem T32_0  (y:List Value) (v0:Array Value) (v1 v2:Nat) (v3:Bool) (v4 v5:Int) (v6 v7:Int) (v8 v9:Int) (v10 v11 v12:Int):evC Try.prog (Ans.c p45) 60 (.code none (theLoop Try.prog 32 0) ⟨sets (junkF 84 y) [(1,(lstV v0 v1 v2 6)),(2,(Value.pointer (some (Addr.mk 0 0 none)))),(4,(Value.pointer (some (Addr.mk 1 0 none)))),(5,(Value.pointer (some (Addr.mk 2 0 none)))),(6,(.bool v3)),(7,(.int .i64 v4))],[],⟨[.cells ⟨[(.int .i64 v5),(.int .i64 v6),(.int .i64 v7),(.int .i64 v8)]⟩ false,.cells ⟨[(.int .i64 v9),(.int .i64 v10)]⟩ false,.cells ⟨[(.int .i64 v11),(.int .i64 v12)]⟩ false],0,[]⟩⟩) (sumK 3 84 Lp32_0.pk)=(rd32_0 ⟨v0,v1,v2,v3,v4,v5,v6,v7,v8,v9,v10,v11,v12⟩).out Lp32_0.enc:=by kernel_rfl
def L32_0 (x:X32_0):Option D32_0:=loopR rd32_0 x
section
variable (x:X32_0)
def L32_0_k0:Bool:=match L32_0 x with | some (.k0 ..)=>true | _=>false
def Qm0:Int:=match L32_0 x with | some (.k0 (d0:=d) ..)=>d | _=>0
def Qm1:Int:=match L32_0 x with | some (.k0 (d1:=d) ..)=>d | _=>0
def Qm2:Int:=match L32_0 x with | some (.k0 (d2:=d) ..)=>d | _=>0
def Qm3:Int:=match L32_0 x with | some (.k0 (d3:=d) ..)=>d | _=>0
def Qm4:Int:=match L32_0 x with | some (.k0 (d4:=d) ..)=>d | _=>0
def Qm5:Int:=match L32_0 x with | some (.k0 (d5:=d) ..)=>d | _=>0
def Qm6:Int:=match L32_0 x with | some (.k0 (d6:=d) ..)=>d | _=>0
def Qm7:Int:=match L32_0 x with | some (.k0 (d7:=d) ..)=>d | _=>0
end
def dec32_0:Task→Option (Code×X32_0)
 | .code none (.loop code) ⟨t,[],⟨[.cells ⟨[(.int .i64 v5),(.int .i64 v6),(.int .i64 v7),(.int .i64 v8)]⟩ false,.cells ⟨[(.int .i64 v9),(.int .i64 v10)]⟩ false,.cells ⟨[(.int .i64 v11),(.int .i64 v12)]⟩ false],0,[]⟩⟩ =>
  (match Nat.beq (firstReg code) 3,lenIs t 84,lget t 1,lget t 2,lget t 4,lget t 5,lget t 6,lget t 7 with
  | true,true,(.func (.via 0 ⟨[]⟩ 0 true) v0 ⟨[.slice (some ⟨0,v1,none⟩) v2 6]⟩),(Value.pointer (Option.some (Addr.mk 0 0 Option.none))),(Value.pointer (Option.some (Addr.mk 1 0 Option.none))),(Value.pointer (Option.some (Addr.mk 2 0 Option.none))),(.bool v3),(.int .i64 v4)=>some (code,⟨v0,v1,v2,v3,v4,v5,v6,v7,v8,v9,v10,v11,v12⟩)
  | _,_,_,_,_,_,_,_=>none)
 | _=>none
def alt32_0 (x:X32_0)(j:List Value):AT:=.br (L32_0_k0 x) (loopEnd 84 (.exit 0) [(4,(Value.pointer (Option.some (Addr.mk 1 0 Option.none)))),(5,(Value.pointer (Option.some (Addr.mk 2 0 Option.none))))] ⟨[.cells ⟨[(.int .i64 (Qm0 x)),(.int .i64 (Qm1 x)),(.int .i64 (Qm2 x)),(.int .i64 (Qm3 x))]⟩ false,.cells ⟨[(.int .i64 (Qm4 x)),(.int .i64 (Qm5 x))]⟩ false,.cells ⟨[(.int .i64 (Qm6 x)),(.int .i64 (Qm7 x))]⟩ false],0,[]⟩ j) (.no)
def la32_0 (J:Task→List Value):Ans:=loopAns Lp32_0.c dec32_0 alt32_0 J
theorem ha32_0:∀(x:X32_0) (j:List Value)(o:Out),(alt32_0 x j).out=some o→∃d,loopR rd32_0 x=some d∧o=Lp32_0.tail d j:=by
 intro x j o h;unfold alt32_0 at h
 cases hL:L32_0 x with
 | none=>simp [L32_0_k0,Qm0,Qm1,Qm2,Qm3,Qm4,Qm5,Qm6,Qm7,hL,AT.out]at h
 | some d =>
  refine ⟨d,hL,?_⟩
  cases d<;>(simp only[L32_0_k0,Qm0,Qm1,Qm2,Qm3,Qm4,Qm5,Qm6,Qm7,hL,AT.out,loopEnd,cond_true,cond_false,Option.some.injEq]at h;rw[← h];rfl)
theorem hd32_0:∀(t:Task) (c:Code)(x:X32_0),dec32_0 t=some (c,x)→c=Lp32_0.c→∃T,t=.code none (.loop Lp32_0.c) ⟨T,[],⟨Lp32_0.hp x,0,[]⟩⟩∧T.length=Lp32_0.N∧∀kv∈Lp32_0.S.zip (Lp32_0.sl x),lget T kv.1=kv.2:=by
 intro t c x h hc;unfold dec32_0 at h
 split at h
 case h_2=>cases h
 split at h
 case h_2=>cases h
 simp only[Option.some.injEq,Prod.mk.injEq]at h;obtain ⟨rfl,rfl⟩:=h;subst hc
 refine ⟨_,rfl,lenIs_eq _ _ (by assumption),?_⟩
 intro kv hk;simp only[Lp32_0,List.zip_cons_cons,List.zip_nil_right,List.mem_cons,List.not_mem_nil,or_false]at hk
 rcases hk with rfl | rfl | rfl | rfl | rfl | rfl<;>assumption
theorem kl32_0:∃J,Known Try.prog (la32_0 J):=by
 exact LoopOf.known noNG mixed ok32_0 (by decide) (by decide) known45 (n:=60) (rd:=rd32_0) (fun x j=>T32_0  j x.v0 x.v1 x.v2 x.v3 x.v4 x.v5 x.v6 x.v7 x.v8 x.v9 x.v10 x.v11 x.v12) dec32_0 alt32_0 hd32_0 ha32_0
structure R32 where
 (r0 r1:Int)
 (r2 r3:Int)
structure A32 where
 (a0 a1:Int)
 (a2 a3:Int)
 (a4:Array Value)
 (a5 a6:Nat)
def rt32 (a0 a1:Int)(a2 a3:Int)(a4:Array Value)(a5 a6:Nat):RT R32 :=let u0:=(Qm6 (X32_0.mk a4 a5 a6 false (0:Int) a0 a1 a2 a3 (0:Int) (0:Int) (0:Int) (0:Int)));let u1:=(Qm7 (X32_0.mk a4 a5 a6 false (0:Int) a0 a1 a2 a3 (0:Int) (0:Int) (0:Int) (0:Int)));
 .sw (eqCode (Lp32_0.c) (Lp32_0.c)) true (by simp only[eqCode_self,arrEq_self]) (.br (L32_0_k0 (X32_0.mk a4 a5 a6 false (0:Int) a0 a1 a2 a3 (0:Int) (0:Int) (0:Int) (0:Int))) (mq u0 (mq u1 (mq u0 (mq u1 (.leaf ⟨(Qm4 (X32_0.mk a4 a5 a6 false (0:Int) a0 a1 a2 a3 (0:Int) (0:Int) (0:Int) (0:Int))),(Qm5 (X32_0.mk a4 a5 a6 false (0:Int) a0 a1 a2 a3 (0:Int) (0:Int) (0:Int) (0:Int))),u0,u1⟩))))) (.no)) (.no)
def en32 (r:R32):Value:=(.tuple ⟨[(.agg ⟨[(.int .i64 r.r0),(.int .i64 r.r1)]⟩),(.agg ⟨[(.int .i64 r.r2),(.int .i64 r.r3)]⟩)]⟩)
theorem T32 (J0:Task→List Value)(a0 a1:Int)(a2 a3:Int)(a4:Array Value)(a5 a6:Nat):evC Try.prog (Ans.c (p45.or (la32_0 J0))) 60 (.call 32 ⟨[(.agg ⟨[(.int .i64 a0),(.int .i64 a1),(.int .i64 a2),(.int .i64 a3)]⟩),(lstV a4 a5 a6 6)]⟩ ⟨[],0,[]⟩) (frzK [0,0])=(rt32 a0 a1 a2 a3 a4 a5 a6).out (fun r=>.ret (en32 r) ⟨[],0,[]⟩):=by kernel_rfl
def F32 (a0 a1:Int)(a2 a3:Int)(a4:Array Value)(a5 a6:Nat):Option R32:=(rt32 a0 a1 a2 a3 a4 a5 a6).val
section
variable (a0 a1:Int) (a2 a3:Int) (a4:Array Value) (a5 a6:Nat)
def F32_ok:Bool:=(F32 a0 a1 a2 a3 a4 a5 a6).isSome
def F32_0:Int:=match F32 a0 a1 a2 a3 a4 a5 a6 with | some r=>r.r0 | none=>0
def F32_1:Int:=match F32 a0 a1 a2 a3 a4 a5 a6 with | some r=>r.r1 | none=>0
def F32_2:Int:=match F32 a0 a1 a2 a3 a4 a5 a6 with | some r=>r.r2 | none=>0
def F32_3:Int:=match F32 a0 a1 a2 a3 a4 a5 a6 with | some r=>r.r3 | none=>0
end
def dec32:Task→Option (A32×Hp)
 | .call g ⟨[(.agg ⟨[(.int .i64 a0),(.int .i64 a1),(.int .i64 a2),(.int .i64 a3)]⟩),(.func (.via 0 ⟨[]⟩ 0 true) a4 ⟨[.slice (some ⟨0,a5,none⟩) a6 6]⟩)]⟩ h=>(match Nat.beq g 32 with | true=>some (⟨a0,a1,a2,a3,a4,a5,a6⟩,h) | false=>none)
 | _=>none
def alt32 (x:A32)(h:Hp):AT:=.br (F32_ok x.a0 x.a1 x.a2 x.a3 x.a4 x.a5 x.a6) (.leaf (.ret (.tuple ⟨[(.agg ⟨[(.int .i64 (F32_0 x.a0 x.a1 x.a2 x.a3 x.a4 x.a5 x.a6)),(.int .i64 (F32_1 x.a0 x.a1 x.a2 x.a3 x.a4 x.a5 x.a6))]⟩),(.agg ⟨[(.int .i64 (F32_2 x.a0 x.a1 x.a2 x.a3 x.a4 x.a5 x.a6)),(.int .i64 (F32_3 x.a0 x.a1 x.a2 x.a3 x.a4 x.a5 x.a6))]⟩)]⟩) h)) .no
def p32:Ans:=fnAns dec32 alt32
theorem ha32:∀(x:A32) (h:Hp)(o:Out),(alt32 x h).out=some o→∃r,(rt32 x.a0 x.a1 x.a2 x.a3 x.a4 x.a5 x.a6).val=some r∧o=.ret (en32 r) h:=by
 intro x h o e;unfold alt32 at e;simp only[AT.out]at e;obtain ⟨g,e⟩:=cond_some e;unfold F32_ok at g;obtain ⟨r,hF⟩:=Option.isSome_iff_exists.1 g
 refine ⟨r,by delta F32 at hF;exact hF,?_⟩
 simp only[Option.some.injEq]at e;rw[← e]
 unfold F32_0 F32_1 F32_2 F32_3;rw[hF]<;>rfl
theorem hd32:∀(t:Task) (x:A32)(h:Hp),dec32 t=some (x,h)→t=.call 32 ⟨[(.agg ⟨[(.int .i64 x.a0),(.int .i64 x.a1),(.int .i64 x.a2),(.int .i64 x.a3)]⟩),(lstV x.a4 x.a5 x.a6 6)]⟩ h:=by
 intro t x h e;unfold dec32 at e
 split at e
 case h_2=>cases e
 split at e
 case h_2=>cases e
 rename_i hg;simp only[Option.some.injEq,Prod.mk.injEq]at e;obtain ⟨rfl,rfl⟩:=e;rw[Nat.eq_of_beq_eq_true hg]
theorem known32:Known Try.prog p32:=by
 obtain ⟨J0,hJ0⟩:=kl32_0
 exact Known.fn noNG mixed (Known.or known45 hJ0) (n:=60) (zs:=[0,0]) 32 (fun x:A32=>[(.agg ⟨[(.int .i64 x.a0),(.int .i64 x.a1),(.int .i64 x.a2),(.int .i64 x.a3)]⟩),(lstV x.a4 x.a5 x.a6 6)]) (fun x=>rt32 x.a0 x.a1 x.a2 x.a3 x.a4 x.a5 x.a6) en32 (fun x=>T32 J0 x.a0 x.a1 x.a2 x.a3 x.a4 x.a5 x.a6) (fun x=>rfl) dec32 alt32 hd32 ha32
structure R33 where
 (r0:Int)
structure A33 where
 (a0:Int)
def rt33 (a0:Int):RT R33 :=let u0:=(IntKind.wrap .i64 (Int.tdiv (IntKind.wrap .i64 ((max a0 (IntKind.wrap .i64 ((0:Int)-a0)))+(999999999:Int))) (1000000000:Int)));
 .leaf ⟨(IntKind.wrap .i64 (u0*u0))⟩
def en33 (r:R33):Value:=(.int .i64 r.r0)
theorem T33  (a0:Int):evC Try.prog (Ans.c (fun _=>none:Ans)) 60 (.call 33 ⟨[(.int .i64 a0)]⟩ ⟨[],0,[]⟩) (frzK [0])=(rt33 a0).out (fun r=>.ret (en33 r) ⟨[],0,[]⟩):=by kernel_rfl
def F33 (a0:Int):Option R33:=(rt33 a0).val
section
variable (a0:Int)
def F33_ok:Bool:=(F33 a0).isSome
def F33_0:Int:=match F33 a0 with | some r=>r.r0 | none=>0
end
def dec33:Task→Option (A33×Hp)
 | .call g ⟨[(.int .i64 a0)]⟩ h=>(match Nat.beq g 33 with | true=>some (⟨a0⟩,h) | false=>none)
 | _=>none
def alt33 (x:A33)(h:Hp):AT:=.br (F33_ok x.a0) (.leaf (.ret (.int .i64 (F33_0 x.a0)) h)) .no
def p33:Ans:=fnAns dec33 alt33
theorem ha33:∀(x:A33) (h:Hp)(o:Out),(alt33 x h).out=some o→∃r,(rt33 x.a0).val=some r∧o=.ret (en33 r) h:=by
 intro x h o e;unfold alt33 at e;simp only[AT.out]at e;obtain ⟨g,e⟩:=cond_some e;unfold F33_ok at g;obtain ⟨r,hF⟩:=Option.isSome_iff_exists.1 g
 refine ⟨r,by delta F33 at hF;exact hF,?_⟩
 simp only[Option.some.injEq]at e;rw[← e]
 unfold F33_0;rw[hF]<;>rfl
theorem hd33:∀(t:Task) (x:A33)(h:Hp),dec33 t=some (x,h)→t=.call 33 ⟨[(.int .i64 x.a0)]⟩ h:=by
 intro t x h e;unfold dec33 at e
 split at e
 case h_2=>cases e
 split at e
 case h_2=>cases e
 rename_i hg;simp only[Option.some.injEq,Prod.mk.injEq]at e;obtain ⟨rfl,rfl⟩:=e;rw[Nat.eq_of_beq_eq_true hg]
theorem known33:Known Try.prog p33:=by
 exact Known.fn noNG mixed (Known.nothing Try.prog) (n:=60) (zs:=[0]) 33 (fun x:A33=>[(.int .i64 x.a0)]) (fun x=>rt33 x.a0) en33 (fun x=>T33  x.a0) (fun x=>rfl) dec33 alt33 hd33 ha33
end
end Go.Proofs.Ytkcahhbhfmdpmaa
