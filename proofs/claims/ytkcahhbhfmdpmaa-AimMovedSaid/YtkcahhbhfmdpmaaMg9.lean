/- Part 9 of the texts below the claim. Conditions: none. -/
import Derived.Test.YtkcahhbhfmdpmaaMg7
import Derived.Test.YtkcahhbhfmdpmaaMg8
set_option linter.unusedVariables false
set_option linter.unusedSimpArgs false
namespace Go.Proofs.Ytkcahhbhfmdpmaa
open Go.Gi Go.RowKit Go.Proofs.Ytkcahhbhfmdpmaa.Old
noncomputable section
set_option maxRecDepth 100000
set_option maxHeartbeats 4000000
structure X58_0 where
 (v0:Array Value)
 (v1 v2:Nat)
 (v3 v4:Int)
 (v5 v6:Int)
 (v7 v8:Int)
 (v9 v10:Int)
 (v11 v12:Int)
inductive D58_0 where
 | k0 (d0 d1:Int) (d2 d3:Int) (d4 d5:Int) (d6 d7:Int)
def Lp58_0:LoopOf X58_0 D58_0 where
 c:=(theLoop Try.prog 58 0)
 N:=39
 M:=3
 S:=[2,4,5,10,11,12]
 sl:=fun x=>[(Value.pointer (Option.some (Addr.mk 0 0 Option.none))),(Value.pointer (Option.some (Addr.mk 1 0 Option.none))),(Value.pointer (Option.some (Addr.mk 2 0 Option.none))),(lstV x.v0 x.v1 x.v2 6),(.int .i64 x.v3),(.int .i64 x.v4)]
 hp:=fun x=>[.cells ⟨[(.int .i64 x.v5),(.int .i64 x.v6),(.int .i64 x.v7),(.int .i64 x.v8)]⟩ false,.cells ⟨[(.int .i64 x.v9),(.int .i64 x.v10)]⟩ false,.cells ⟨[(.int .i64 x.v11),(.int .i64 x.v12)]⟩ false]
 ex:=fun d=>match d with | .k0 ..=>.exit 0
 pick:=fun e=>match e with | .exit 0=>[4,5] | _=>[]
 dv:=fun d=>match d with | .k0 d0 d1 d2 d3 d4 d5 d6 d7=>[(Value.pointer (Option.some (Addr.mk 1 0 Option.none))),(Value.pointer (Option.some (Addr.mk 2 0 Option.none)))]
 dh:=fun d=>match d with | .k0 d0 d1 d2 d3 d4 d5 d6 d7=>[.cells ⟨[(.int .i64 d0),(.int .i64 d1),(.int .i64 d2),(.int .i64 d3)]⟩ false,.cells ⟨[(.int .i64 d4),(.int .i64 d5)]⟩ false,.cells ⟨[(.int .i64 d6),(.int .i64 d7)]⟩ false]
theorem ok58_0:Lp58_0.Ok:=⟨fun x=>rfl,fun x=>rfl,fun x=>rfl,fun x=>rfl,fun d=>by cases d<;>rfl,fun d=>by cases d<;>rfl,fun d=>by cases d<;>rfl,fun d=>by cases d<;>(intro h;cases h),fun d=>by cases d<;>rfl,fun d=>by cases d<;>rfl⟩
def rd58_0 (x:X58_0):RT (Sum X58_0 D58_0):=match x with
 | ⟨v0,v1,v2,v3,v4,v5,v6,v7,v8,v9,v10,v11,v12⟩ =>let u2:=(Int.toNat v4);let u0:=(getInt v0 ((((((v1+(u2*6))+1)+1)+1)+1)+1));let u1:=(getInt v0 (((((v1+(u2*6))+1)+1)+1)+1));let u3:=(Leaf.int .i64);let u4:=(IntKind.wrap .i64 (v4+(1:Int)));
   .br (decide (v4<v3)) (.br (and (decide ((0:Int)≤v4)) (decide (v4<(Int.ofNat v2)))) (.br (rdOk v0 [u3,u3,u3,u3,u3,u3] (v1+(u2*6))) (.br (decide ((getInt v0 (v1+(u2*6)))<v6)) (.br (decide (v5<(getInt v0 ((v1+(u2*6))+1)))) (mq v11 (mq v12 (mq v11 (mq v12 (mq u1 (mq u0 (mq u1 (mq u0 (.leaf (.inl ⟨v0,v1,v2,v3,u4,v5,v6,v7,v8,(F85_0 v9 v10 (getInt v0 (((v1+(u2*6))+1)+1)) (getInt v0 ((((v1+(u2*6))+1)+1)+1))),(F85_1 v9 v10 (getInt v0 (((v1+(u2*6))+1)+1)) (getInt v0 ((((v1+(u2*6))+1)+1)+1))),(F85_0 v11 v12 u1 u0),(F85_1 v11 v12 u1 u0)⟩)))))))))) (.leaf (.inl ⟨v0,v1,v2,v3,u4,v5,v6,v7,v8,v9,v10,v11,v12⟩))) (.leaf (.inl ⟨v0,v1,v2,v3,u4,v5,v6,v7,v8,v9,v10,v11,v12⟩))) (.no)) (.no)) (.leaf (.inr (.k0 v5 v6 v7 v8 v9 v10 v11 v12)))
theorem T58_0  (y:List Value) (v0:Array Value) (v1 v2:Nat) (v3 v4:Int) (v5 v6:Int) (v7 v8:Int) (v9 v10:Int) (v11 v12:Int):evC Try.prog (Ans.c p85) 60 (.code none (theLoop Try.prog 58 0) ⟨sets (junkF 39 y) [(2,(Value.pointer (some (Addr.mk 0 0 none)))),(4,(Value.pointer (some (Addr.mk 1 0 none)))),(5,(Value.pointer (some (Addr.mk 2 0 none)))),(10,(lstV v0 v1 v2 6)),(11,(.int .i64 v3)),(12,(.int .i64 v4))],[],⟨[.cells ⟨[(.int .i64 v5),(.int .i64 v6),(.int .i64 v7),(.int .i64 v8)]⟩ false,.cells ⟨[(.int .i64 v9),(.int .i64 v10)]⟩ false,.cells ⟨[(.int .i64 v11),(.int .i64 v12)]⟩ false],0,[]⟩⟩) (sumK 3 39 Lp58_0.pk)=(rd58_0 ⟨v0,v1,v2,v3,v4,v5,v6,v7,v8,v9,v10,v11,v12⟩).out Lp58_0.enc:=by kernel_rfl
def L58_0 (x:X58_0):Option D58_0:=loopR rd58_0 x
section
variable (x:X58_0)
def L58_0_k0:Bool:=match L58_0 x with | some (.k0 ..)=>true | _=>false
def Qf0:Int:=match L58_0 x with | some (.k0 (d0:=d) ..)=>d | _=>0
def Qf1:Int:=match L58_0 x with | some (.k0 (d1:=d) ..)=>d | _=>0
def Qf2:Int:=match L58_0 x with | some (.k0 (d2:=d) ..)=>d | _=>0
def Qf3:Int:=match L58_0 x with | some (.k0 (d3:=d) ..)=>d | _=>0
def Qf4:Int:=match L58_0 x with | some (.k0 (d4:=d) ..)=>d | _=>0
def Qf5:Int:=match L58_0 x with | some (.k0 (d5:=d) ..)=>d | _=>0
def Qf6:Int:=match L58_0 x with | some (.k0 (d6:=d) ..)=>d | _=>0
def Qf7:Int:=match L58_0 x with | some (.k0 (d7:=d) ..)=>d | _=>0
end
def dec58_0:Task→Option (Code×X58_0)
 | .code none (.loop code) ⟨t,[],⟨[.cells ⟨[(.int .i64 v5),(.int .i64 v6),(.int .i64 v7),(.int .i64 v8)]⟩ false,.cells ⟨[(.int .i64 v9),(.int .i64 v10)]⟩ false,.cells ⟨[(.int .i64 v11),(.int .i64 v12)]⟩ false],0,[]⟩⟩ =>
  (match Nat.beq (firstReg code) 4,lenIs t 39,lget t 2,lget t 4,lget t 5,lget t 10,lget t 11,lget t 12 with
  | true,true,(Value.pointer (Option.some (Addr.mk 0 0 Option.none))),(Value.pointer (Option.some (Addr.mk 1 0 Option.none))),(Value.pointer (Option.some (Addr.mk 2 0 Option.none))),(.func (.via 0 ⟨[]⟩ 0 true) v0 ⟨[.slice (some ⟨0,v1,none⟩) v2 6]⟩),(.int .i64 v3),(.int .i64 v4)=>some (code,⟨v0,v1,v2,v3,v4,v5,v6,v7,v8,v9,v10,v11,v12⟩)
  | _,_,_,_,_,_,_,_=>none)
 | _=>none
def alt58_0 (x:X58_0)(j:List Value):AT:=.br (L58_0_k0 x) (loopEnd 39 (.exit 0) [(4,(Value.pointer (Option.some (Addr.mk 1 0 Option.none)))),(5,(Value.pointer (Option.some (Addr.mk 2 0 Option.none))))] ⟨[.cells ⟨[(.int .i64 (Qf0 x)),(.int .i64 (Qf1 x)),(.int .i64 (Qf2 x)),(.int .i64 (Qf3 x))]⟩ false,.cells ⟨[(.int .i64 (Qf4 x)),(.int .i64 (Qf5 x))]⟩ false,.cells ⟨[(.int .i64 (Qf6 x)),(.int .i64 (Qf7 x))]⟩ false],0,[]⟩ j) (.no)
def la58_0 (J:Task→List Value):Ans:=loopAns Lp58_0.c dec58_0 alt58_0 J
theorem ha58_0:∀(x:X58_0) (j:List Value)(o:Out),(alt58_0 x j).out=some o→∃d,loopR rd58_0 x=some d∧o=Lp58_0.tail d j:=by
 intro x j o h;unfold alt58_0 at h
 cases hL:L58_0 x with
 | none=>simp [L58_0_k0,Qf0,Qf1,Qf2,Qf3,Qf4,Qf5,Qf6,Qf7,hL,AT.out]at h
 | some d =>
  refine ⟨d,hL,?_⟩
  cases d<;>(simp only[L58_0_k0,Qf0,Qf1,Qf2,Qf3,Qf4,Qf5,Qf6,Qf7,hL,AT.out,loopEnd,cond_true,cond_false,Option.some.injEq]at h;rw[← h];rfl)
theorem hd58_0:∀(t:Task) (c:Code)(x:X58_0),dec58_0 t=some (c,x)→c=Lp58_0.c→∃T,t=.code none (.loop Lp58_0.c) ⟨T,[],⟨Lp58_0.hp x,0,[]⟩⟩∧T.length=Lp58_0.N∧∀kv∈Lp58_0.S.zip (Lp58_0.sl x),lget T kv.1=kv.2:=by
 intro t c x h hc;unfold dec58_0 at h
 split at h
 case h_2=>cases h
 split at h
 case h_2=>cases h
 simp only[Option.some.injEq,Prod.mk.injEq]at h;obtain ⟨rfl,rfl⟩:=h;subst hc
 refine ⟨_,rfl,lenIs_eq _ _ (by assumption),?_⟩
 intro kv hk;simp only[Lp58_0,List.zip_cons_cons,List.zip_nil_right,List.mem_cons,List.not_mem_nil,or_false]at hk
 rcases hk with rfl | rfl | rfl | rfl | rfl | rfl<;>assumption
theorem kl58_0:∃J,Known Try.prog (la58_0 J):=by
 exact LoopOf.known noNG mixed ok58_0 (by decide) (by decide) known85 (n:=60) (rd:=rd58_0) (fun x j=>T58_0  j x.v0 x.v1 x.v2 x.v3 x.v4 x.v5 x.v6 x.v7 x.v8 x.v9 x.v10 x.v11 x.v12) dec58_0 alt58_0 hd58_0 ha58_0
structure R58 where
 (r0 r1:Int)
 (r2 r3:Int)
structure A58 where
 (a0 a1:Int)
 (a2 a3:Int)
 (a4:Array Value)
 (a5 a6:Nat)
def rt58 (a0 a1:Int)(a2 a3:Int)(a4:Array Value)(a5 a6:Nat):RT R58 :=let u0:=(Qf6 (X58_0.mk a4 a5 a6 (Int.ofNat a6) (0:Int) a0 a1 a2 a3 (20000:Int) (-20000:Int) (20000:Int) (-20000:Int)));let u1:=(Qf7 (X58_0.mk a4 a5 a6 (Int.ofNat a6) (0:Int) a0 a1 a2 a3 (20000:Int) (-20000:Int) (20000:Int) (-20000:Int)));
 .sw (eqCode (Lp58_0.c) (Lp58_0.c)) true (by simp only[eqCode_self,arrEq_self]) (.br (L58_0_k0 (X58_0.mk a4 a5 a6 (Int.ofNat a6) (0:Int) a0 a1 a2 a3 (20000:Int) (-20000:Int) (20000:Int) (-20000:Int))) (mq u0 (mq u1 (mq u0 (mq u1 (.leaf ⟨(Qf4 (X58_0.mk a4 a5 a6 (Int.ofNat a6) (0:Int) a0 a1 a2 a3 (20000:Int) (-20000:Int) (20000:Int) (-20000:Int))),(Qf5 (X58_0.mk a4 a5 a6 (Int.ofNat a6) (0:Int) a0 a1 a2 a3 (20000:Int) (-20000:Int) (20000:Int) (-20000:Int))),u0,u1⟩))))) (.no)) (.no)
def en58 (r:R58):Value:=(.tuple ⟨[(.agg ⟨[(.int .i64 r.r0),(.int .i64 r.r1)]⟩),(.agg ⟨[(.int .i64 r.r2),(.int .i64 r.r3)]⟩)]⟩)
theorem T58 (J0:Task→List Value)(a0 a1:Int)(a2 a3:Int)(a4:Array Value)(a5 a6:Nat):evC Try.prog (Ans.c (p85.or (la58_0 J0))) 60 (.call 58 ⟨[(.agg ⟨[(.int .i64 a0),(.int .i64 a1),(.int .i64 a2),(.int .i64 a3)]⟩),(lstV a4 a5 a6 6)]⟩ ⟨[],0,[]⟩) (frzK [0,0])=(rt58 a0 a1 a2 a3 a4 a5 a6).out (fun r=>.ret (en58 r) ⟨[],0,[]⟩):=by kernel_rfl
def F58 (a0 a1:Int)(a2 a3:Int)(a4:Array Value)(a5 a6:Nat):Option R58:=(rt58 a0 a1 a2 a3 a4 a5 a6).val
section
variable (a0 a1:Int) (a2 a3:Int) (a4:Array Value) (a5 a6:Nat)
def F58_ok:Bool:=(F58 a0 a1 a2 a3 a4 a5 a6).isSome
def F58_0:Int:=match F58 a0 a1 a2 a3 a4 a5 a6 with | some r=>r.r0 | none=>0
def F58_1:Int:=match F58 a0 a1 a2 a3 a4 a5 a6 with | some r=>r.r1 | none=>0
def F58_2:Int:=match F58 a0 a1 a2 a3 a4 a5 a6 with | some r=>r.r2 | none=>0
def F58_3:Int:=match F58 a0 a1 a2 a3 a4 a5 a6 with | some r=>r.r3 | none=>0
end
def dec58:Task→Option (A58×Hp)
 | .call g ⟨[(.agg ⟨[(.int .i64 a0),(.int .i64 a1),(.int .i64 a2),(.int .i64 a3)]⟩),(.func (.via 0 ⟨[]⟩ 0 true) a4 ⟨[.slice (some ⟨0,a5,none⟩) a6 6]⟩)]⟩ h=>(match Nat.beq g 58 with | true=>some (⟨a0,a1,a2,a3,a4,a5,a6⟩,h) | false=>none)
 | _=>none
def alt58 (x:A58)(h:Hp):AT:=.br (F58_ok x.a0 x.a1 x.a2 x.a3 x.a4 x.a5 x.a6) (.leaf (.ret (.tuple ⟨[(.agg ⟨[(.int .i64 (F58_0 x.a0 x.a1 x.a2 x.a3 x.a4 x.a5 x.a6)),(.int .i64 (F58_1 x.a0 x.a1 x.a2 x.a3 x.a4 x.a5 x.a6))]⟩),(.agg ⟨[(.int .i64 (F58_2 x.a0 x.a1 x.a2 x.a3 x.a4 x.a5 x.a6)),(.int .i64 (F58_3 x.a0 x.a1 x.a2 x.a3 x.a4 x.a5 x.a6))]⟩)]⟩) h)) .no
def p58:Ans:=fnAns dec58 alt58
theorem ha58:∀(x:A58) (h:Hp)(o:Out),(alt58 x h).out=some o→∃r,(rt58 x.a0 x.a1 x.a2 x.a3 x.a4 x.a5 x.a6).val=some r∧o=.ret (en58 r) h:=by
 intro x h o e;unfold alt58 at e;simp only[AT.out]at e;obtain ⟨g,e⟩:=cond_some e;unfold F58_ok at g;obtain ⟨r,hF⟩:=Option.isSome_iff_exists.1 g
 refine ⟨r,by delta F58 at hF;exact hF,?_⟩
 simp only[Option.some.injEq]at e;rw[← e]
 unfold F58_0 F58_1 F58_2 F58_3;rw[hF]<;>rfl
theorem hd58:∀(t:Task) (x:A58)(h:Hp),dec58 t=some (x,h)→t=.call 58 ⟨[(.agg ⟨[(.int .i64 x.a0),(.int .i64 x.a1),(.int .i64 x.a2),(.int .i64 x.a3)]⟩),(lstV x.a4 x.a5 x.a6 6)]⟩ h:=by
 intro t x h e;unfold dec58 at e
 split at e
 case h_2=>cases e
 split at e
 case h_2=>cases e
 rename_i hg;simp only[Option.some.injEq,Prod.mk.injEq]at e;obtain ⟨rfl,rfl⟩:=e;rw[Nat.eq_of_beq_eq_true hg]
theorem known58:Known Try.prog p58:=by
 obtain ⟨J0,hJ0⟩:=kl58_0
 exact Known.fn noNG mixed (Known.or known85 hJ0) (n:=60) (zs:=[0,0]) 58 (fun x:A58=>[(.agg ⟨[(.int .i64 x.a0),(.int .i64 x.a1),(.int .i64 x.a2),(.int .i64 x.a3)]⟩),(lstV x.a4 x.a5 x.a6 6)]) (fun x=>rt58 x.a0 x.a1 x.a2 x.a3 x.a4 x.a5 x.a6) en58 (fun x=>T58 J0 x.a0 x.a1 x.a2 x.a3 x.a4 x.a5 x.a6) (fun x=>rfl) dec58 alt58 hd58 ha58
structure R86 where
 (r0 r1:Int)
structure A86 where
 (a0 a1:Int)
 (a2 a3:Int)
def rt86 (a0 a1:Int)(a2 a3:Int):RT R86 :=
 .leaf ⟨(min (min (min (IntKind.wrap .i64 (a0*a2)) (IntKind.wrap .i64 (a0*a3))) (IntKind.wrap .i64 (a1*a2))) (IntKind.wrap .i64 (a1*a3))),(max (max (max (IntKind.wrap .i64 (a0*a2)) (IntKind.wrap .i64 (a0*a3))) (IntKind.wrap .i64 (a1*a2))) (IntKind.wrap .i64 (a1*a3)))⟩
def en86 (r:R86):Value:=(.agg ⟨[(.int .i64 r.r0),(.int .i64 r.r1)]⟩)
theorem T86  (a0 a1:Int) (a2 a3:Int):evC Try.prog (Ans.c (fun _=>none:Ans)) 60 (.call 86 ⟨[(.agg ⟨[(.int .i64 a0),(.int .i64 a1),(.int .i64 a2),(.int .i64 a3)]⟩)]⟩ ⟨[],0,[]⟩) (frzK [0])=(rt86 a0 a1 a2 a3).out (fun r=>.ret (en86 r) ⟨[],0,[]⟩):=by kernel_rfl
def F86 (a0 a1:Int)(a2 a3:Int):Option R86:=(rt86 a0 a1 a2 a3).val
section
variable (a0 a1:Int) (a2 a3:Int)
def F86_ok:Bool:=(F86 a0 a1 a2 a3).isSome
def F86_0:Int:=match F86 a0 a1 a2 a3 with | some r=>r.r0 | none=>0
def F86_1:Int:=match F86 a0 a1 a2 a3 with | some r=>r.r1 | none=>0
end
def dec86:Task→Option (A86×Hp)
 | .call g ⟨[(.agg ⟨[(.int .i64 a0),(.int .i64 a1),(.int .i64 a2),(.int .i64 a3)]⟩)]⟩ h=>(match Nat.beq g 86 with | true=>some (⟨a0,a1,a2,a3⟩,h) | false=>none)
 | _=>none
def alt86 (x:A86)(h:Hp):AT:=.br (F86_ok x.a0 x.a1 x.a2 x.a3) (.leaf (.ret (.agg ⟨[(.int .i64 (F86_0 x.a0 x.a1 x.a2 x.a3)),(.int .i64 (F86_1 x.a0 x.a1 x.a2 x.a3))]⟩) h)) .no
def p86:Ans:=fnAns dec86 alt86
theorem ha86:∀(x:A86) (h:Hp)(o:Out),(alt86 x h).out=some o→∃r,(rt86 x.a0 x.a1 x.a2 x.a3).val=some r∧o=.ret (en86 r) h:=by
 intro x h o e;unfold alt86 at e;simp only[AT.out]at e;obtain ⟨g,e⟩:=cond_some e;unfold F86_ok at g;obtain ⟨r,hF⟩:=Option.isSome_iff_exists.1 g
 refine ⟨r,by delta F86 at hF;exact hF,?_⟩
 simp only[Option.some.injEq]at e;rw[← e]
 unfold F86_0 F86_1;rw[hF]<;>rfl
theorem hd86:∀(t:Task) (x:A86)(h:Hp),dec86 t=some (x,h)→t=.call 86 ⟨[(.agg ⟨[(.int .i64 x.a0),(.int .i64 x.a1),(.int .i64 x.a2),(.int .i64 x.a3)]⟩)]⟩ h:=by
 intro t x h e;unfold dec86 at e
 split at e
 case h_2=>cases e
 split at e
 case h_2=>cases e
 rename_i hg;simp only[Option.some.injEq,Prod.mk.injEq]at e;obtain ⟨rfl,rfl⟩:=e;rw[Nat.eq_of_beq_eq_true hg]
theorem known86:Known Try.prog p86:=by
 exact Known.fn noNG mixed (Known.nothing Try.prog) (n:=60) (zs:=[0]) 86 (fun x:A86=>[(.agg ⟨[(.int .i64 x.a0),(.int .i64 x.a1),(.int .i64 x.a2),(.int .i64 x.a3)]⟩)]) (fun x=>rt86 x.a0 x.a1 x.a2 x.a3) en86 (fun x=>T86  x.a0 x.a1 x.a2 x.a3) (fun x=>rfl) dec86 alt86 hd86 ha86
structure X59_0 where
 (v0:Array Value)
 (v1 v2:Nat)
 (v3 v4:Int)
 (v5 v6:Int)
 (v7 v8:Int)
inductive D59_0 where
 | k0 (d0 d1:Int) (d2 d3:Int)
def Lp59_0:LoopOf X59_0 D59_0 where
 c:=(theLoop Try.prog 59 0)
 N:=29
 M:=2
 S:=[2,3,7,8,9]
 sl:=fun x=>[(Value.pointer (Option.some (Addr.mk 0 0 Option.none))),(Value.pointer (Option.some (Addr.mk 1 0 Option.none))),(lstV x.v0 x.v1 x.v2 4),(.int .i64 x.v3),(.int .i64 x.v4)]
 hp:=fun x=>[.cells ⟨[(.int .i64 x.v5),(.int .i64 x.v6)]⟩ false,.cells ⟨[(.int .i64 x.v7),(.int .i64 x.v8)]⟩ false]
 ex:=fun d=>match d with | .k0 ..=>.exit 0
 pick:=fun e=>match e with | .exit 0=>[2,3] | _=>[]
 dv:=fun d=>match d with | .k0 d0 d1 d2 d3=>[(Value.pointer (Option.some (Addr.mk 0 0 Option.none))),(Value.pointer (Option.some (Addr.mk 1 0 Option.none)))]
 dh:=fun d=>match d with | .k0 d0 d1 d2 d3=>[.cells ⟨[(.int .i64 d0),(.int .i64 d1)]⟩ false,.cells ⟨[(.int .i64 d2),(.int .i64 d3)]⟩ false]
theorem ok59_0:Lp59_0.Ok:=⟨fun x=>rfl,fun x=>rfl,fun x=>rfl,fun x=>rfl,fun d=>by cases d<;>rfl,fun d=>by cases d<;>rfl,fun d=>by cases d<;>rfl,fun d=>by cases d<;>(intro h;cases h),fun d=>by cases d<;>rfl,fun d=>by cases d<;>rfl⟩
def rd59_0 (x:X59_0):RT (Sum X59_0 D59_0):=match x with
 | ⟨v0,v1,v2,v3,v4,v5,v6,v7,v8⟩ =>let u0:=(Int.toNat v4);
   .br (decide (v4<v3)) (.br (and (decide ((0:Int)≤v4)) (decide (v4<(Int.ofNat v2)))) (.br (rdOk v0 [(Leaf.int .i64),(Leaf.int .i64),(Leaf.int .i64),(Leaf.int .i64)] (v1+(u0*4))) (.leaf (.inl ⟨v0,v1,v2,v3,(IntKind.wrap .i64 (v4+(1:Int))),v5,v6,(IntKind.wrap .i64 (v7+(F86_0 (getInt v0 (v1+(u0*4))) (getInt v0 ((v1+(u0*4))+1)) (getInt v0 (((v1+(u0*4))+1)+1)) (getInt v0 ((((v1+(u0*4))+1)+1)+1))))),(IntKind.wrap .i64 (v8+(F86_1 (getInt v0 (v1+(u0*4))) (getInt v0 ((v1+(u0*4))+1)) (getInt v0 (((v1+(u0*4))+1)+1)) (getInt v0 ((((v1+(u0*4))+1)+1)+1)))))⟩)) (.no)) (.no)) (.leaf (.inr (.k0 v5 v6 v7 v8)))
theorem T59_0  (y:List Value) (v0:Array Value) (v1 v2:Nat) (v3 v4:Int) (v5 v6:Int) (v7 v8:Int):evC Try.prog (Ans.c p86) 60 (.code none (theLoop Try.prog 59 0) ⟨sets (junkF 29 y) [(2,(Value.pointer (some (Addr.mk 0 0 none)))),(3,(Value.pointer (some (Addr.mk 1 0 none)))),(7,(lstV v0 v1 v2 4)),(8,(.int .i64 v3)),(9,(.int .i64 v4))],[],⟨[.cells ⟨[(.int .i64 v5),(.int .i64 v6)]⟩ false,.cells ⟨[(.int .i64 v7),(.int .i64 v8)]⟩ false],0,[]⟩⟩) (sumK 2 29 Lp59_0.pk)=(rd59_0 ⟨v0,v1,v2,v3,v4,v5,v6,v7,v8⟩).out Lp59_0.enc:=by kernel_rfl
def L59_0 (x:X59_0):Option D59_0:=loopR rd59_0 x
section
variable (x:X59_0)
def L59_0_k0:Bool:=match L59_0 x with | some (.k0 ..)=>true | _=>false
def Qg0:Int:=match L59_0 x with | some (.k0 d _ _ _)=>d | _=>0
def Qg1:Int:=match L59_0 x with | some (.k0 _ d _ _)=>d | _=>0
def Qg2:Int:=match L59_0 x with | some (.k0 _ _ d _)=>d | _=>0
def Qg3:Int:=match L59_0 x with | some (.k0 _ _ _ d)=>d | _=>0
end
def dec59_0:Task→Option (Code×X59_0)
 | .code none (.loop code) ⟨t,[],⟨[.cells ⟨[(.int .i64 v5),(.int .i64 v6)]⟩ false,.cells ⟨[(.int .i64 v7),(.int .i64 v8)]⟩ false],0,[]⟩⟩ =>
  (match Nat.beq (firstReg code) 3,lenIs t 29,lget t 2,lget t 3,lget t 7,lget t 8,lget t 9 with
  | true,true,(Value.pointer (Option.some (Addr.mk 0 0 Option.none))),(Value.pointer (Option.some (Addr.mk 1 0 Option.none))),(.func (.via 0 ⟨[]⟩ 0 true) v0 ⟨[.slice (some ⟨0,v1,none⟩) v2 4]⟩),(.int .i64 v3),(.int .i64 v4)=>some (code,⟨v0,v1,v2,v3,v4,v5,v6,v7,v8⟩)
  | _,_,_,_,_,_,_=>none)
 | _=>none
def alt59_0 (x:X59_0)(j:List Value):AT:=.br (L59_0_k0 x) (loopEnd 29 (.exit 0) [(2,(Value.pointer (Option.some (Addr.mk 0 0 Option.none)))),(3,(Value.pointer (Option.some (Addr.mk 1 0 Option.none))))] ⟨[.cells ⟨[(.int .i64 (Qg0 x)),(.int .i64 (Qg1 x))]⟩ false,.cells ⟨[(.int .i64 (Qg2 x)),(.int .i64 (Qg3 x))]⟩ false],0,[]⟩ j) (.no)
def la59_0 (J:Task→List Value):Ans:=loopAns Lp59_0.c dec59_0 alt59_0 J
theorem ha59_0:∀(x:X59_0) (j:List Value)(o:Out),(alt59_0 x j).out=some o→∃d,loopR rd59_0 x=some d∧o=Lp59_0.tail d j:=by
 intro x j o h;unfold alt59_0 at h
 cases hL:L59_0 x with
 | none=>simp [L59_0_k0,Qg0,Qg1,Qg2,Qg3,hL,AT.out]at h
 | some d =>
  refine ⟨d,hL,?_⟩
  cases d<;>(simp only[L59_0_k0,Qg0,Qg1,Qg2,Qg3,hL,AT.out,loopEnd,cond_true,cond_false,Option.some.injEq]at h;rw[← h];rfl)
theorem hd59_0:∀(t:Task) (c:Code)(x:X59_0),dec59_0 t=some (c,x)→c=Lp59_0.c→∃T,t=.code none (.loop Lp59_0.c) ⟨T,[],⟨Lp59_0.hp x,0,[]⟩⟩∧T.length=Lp59_0.N∧∀kv∈Lp59_0.S.zip (Lp59_0.sl x),lget T kv.1=kv.2:=by
 intro t c x h hc;unfold dec59_0 at h
 split at h
 case h_2=>cases h
 split at h
 case h_2=>cases h
 simp only[Option.some.injEq,Prod.mk.injEq]at h;obtain ⟨rfl,rfl⟩:=h;subst hc
 refine ⟨_,rfl,lenIs_eq _ _ (by assumption),?_⟩
 intro kv hk;simp only[Lp59_0,List.zip_cons_cons,List.zip_nil_right,List.mem_cons,List.not_mem_nil,or_false]at hk
 rcases hk with rfl | rfl | rfl | rfl | rfl<;>assumption
theorem kl59_0:∃J,Known Try.prog (la59_0 J):=by
 exact LoopOf.known noNG mixed ok59_0 (by decide) (by decide) known86 (n:=60) (rd:=rd59_0) (fun x j=>T59_0  j x.v0 x.v1 x.v2 x.v3 x.v4 x.v5 x.v6 x.v7 x.v8) dec59_0 alt59_0 hd59_0 ha59_0
structure R59 where
 (r0 r1:Int)
structure A59 where
 (a0:Array Value)
 (a1 a2:Nat)
def rt59 (a0:Array Value)(a1 a2:Nat):RT R59 :=
 .sw (eqCode (Lp59_0.c) (Lp59_0.c)) true (by simp only[eqCode_self,arrEq_self]) (.br (L59_0_k0 (X59_0.mk a0 a1 a2 (Int.ofNat a2) (0:Int) (0:Int) (0:Int) (0:Int) (0:Int))) (.leaf ⟨(Qg2 (X59_0.mk a0 a1 a2 (Int.ofNat a2) (0:Int) (0:Int) (0:Int) (0:Int) (0:Int))),(Qg3 (X59_0.mk a0 a1 a2 (Int.ofNat a2) (0:Int) (0:Int) (0:Int) (0:Int) (0:Int)))⟩) (.no)) (.no)
def en59 (r:R59):Value:=(.agg ⟨[(.int .i64 r.r0),(.int .i64 r.r1)]⟩)
theorem T59 (J0:Task→List Value)(a0:Array Value)(a1 a2:Nat):evC Try.prog (Ans.c (p86.or (la59_0 J0))) 60 (.call 59 ⟨[(lstV a0 a1 a2 4)]⟩ ⟨[],0,[]⟩) (frzK [0])=(rt59 a0 a1 a2).out (fun r=>.ret (en59 r) ⟨[],0,[]⟩):=by kernel_rfl
def F59 (a0:Array Value)(a1 a2:Nat):Option R59:=(rt59 a0 a1 a2).val
section
variable (a0:Array Value) (a1 a2:Nat)
def F59_ok:Bool:=(F59 a0 a1 a2).isSome
def F59_0:Int:=match F59 a0 a1 a2 with | some r=>r.r0 | none=>0
def F59_1:Int:=match F59 a0 a1 a2 with | some r=>r.r1 | none=>0
end
def dec59:Task→Option (A59×Hp)
 | .call g ⟨[(.func (.via 0 ⟨[]⟩ 0 true) a0 ⟨[.slice (some ⟨0,a1,none⟩) a2 4]⟩)]⟩ h=>(match Nat.beq g 59 with | true=>some (⟨a0,a1,a2⟩,h) | false=>none)
 | _=>none
def alt59 (x:A59)(h:Hp):AT:=.br (F59_ok x.a0 x.a1 x.a2) (.leaf (.ret (.agg ⟨[(.int .i64 (F59_0 x.a0 x.a1 x.a2)),(.int .i64 (F59_1 x.a0 x.a1 x.a2))]⟩) h)) .no
def p59:Ans:=fnAns dec59 alt59
theorem ha59:∀(x:A59) (h:Hp)(o:Out),(alt59 x h).out=some o→∃r,(rt59 x.a0 x.a1 x.a2).val=some r∧o=.ret (en59 r) h:=by
 intro x h o e;unfold alt59 at e;simp only[AT.out]at e;obtain ⟨g,e⟩:=cond_some e;unfold F59_ok at g;obtain ⟨r,hF⟩:=Option.isSome_iff_exists.1 g
 refine ⟨r,by delta F59 at hF;exact hF,?_⟩
 simp only[Option.some.injEq]at e;rw[← e]
 unfold F59_0 F59_1;rw[hF]<;>rfl
theorem hd59:∀(t:Task) (x:A59)(h:Hp),dec59 t=some (x,h)→t=.call 59 ⟨[(lstV x.a0 x.a1 x.a2 4)]⟩ h:=by
 intro t x h e;unfold dec59 at e
 split at e
 case h_2=>cases e
 split at e
 case h_2=>cases e
 rename_i hg;simp only[Option.some.injEq,Prod.mk.injEq]at e;obtain ⟨rfl,rfl⟩:=e;rw[Nat.eq_of_beq_eq_true hg]
theorem known59:Known Try.prog p59:=by
 obtain ⟨J0,hJ0⟩:=kl59_0
 exact Known.fn noNG mixed (Known.or known86 hJ0) (n:=60) (zs:=[0]) 59 (fun x:A59=>[(lstV x.a0 x.a1 x.a2 4)]) (fun x=>rt59 x.a0 x.a1 x.a2) en59 (fun x=>T59 J0 x.a0 x.a1 x.a2) (fun x=>rfl) dec59 alt59 hd59 ha59
end
end Go.Proofs.Ytkcahhbhfmdpmaa
namespace Go.Gi
open Go.RowKit
noncomputable section
def boxD (m:Nat):Ob→Bool
 | .dead=>true
 | ob=>boxB m ob
theorem boxD_live {m:Nat}{ob:Ob}(h:boxD m ob=true) (hl:ob.live=true):ob.rw=true∧obSc m ob=true:=by
 cases ob with
 | dead=>cases hl
 | _ =>
  simp only[boxD,boxB,Bool.and_eq_true]at h;exact ⟨h.1.2,h.2⟩
theorem boxD_arr {m:Nat}{a:Array Value}(h:allFz a=true):boxD m (.cells a false)=true:=by
 simp only[boxD,boxB,own_sc h m,Bool.and_true]
 rfl
theorem all_box_nil {m:Nat}:([]:List Ob).all (boxD m)=true:=rfl
theorem all_box_cons {m:Nat}{b:Ob}{l:List Ob}(h:boxD m b=true) (hl:l.all (boxD m)=true):(b::l).all (boxD m)=true:=by
 rw[List.all_cons,h,hl];rfl
section
variable {K:Nat→Prop}{w0 w:World} {φ ψ:Phi}{X H2:List Ob} {κ:Nat→Nat}
theorem Inv.view (hF:Inv K w0 φ X w)
  (hv:∀(i:Nat) (ob:Ob),H2[i]?=some ob→ob.live=true→∃ob',X[κ i]?=some ob'∧ob'.live=true∧(ob.rw=true→ob'.rw=true)∧ψ i=φ (κ i)∧∀B base tot,ObR φ w ob' B base tot→ObR ψ w ob B base tot)
  (hi:∀(i i':Nat) (ob ob':Ob),H2[i]?=some ob→H2[i']?=some ob'→ob.live=true→ob'.live=true→κ i=κ i'→i=i')
  (ht:∀i,H2.length≤i→ψ i=none) (hz:∀B o,ψ.z B=some o→w.heap[B]?=some o)
  (hs:∀(i:Nat) (ob:Ob) (x:Nat×Nat×Nat),H2[i]?=some ob→ob.rw=true→ψ i=some x→ψ.z x.1=none) (hk:∀k,K k→ψ.z k=none):Inv K w0 ψ H2 w:=by
 refine ⟨?_,?_,?_,hF.keep,hF.klt,hF.size,hF.os,hF.tape,hF.output,ht,hz,hs,hk⟩
 ·intro i ob h1 h2
  obtain ⟨ob',k1,k2,_,k4,k5⟩:=hv i ob h1 h2;obtain ⟨B,base,tot,q1,q2⟩:=hF.obs _ ob' k1 k2;exact ⟨B,base,tot,k4.trans q1,k5 _ _ _ q2⟩
 ·intro i i' ob ob' x y hne h1 h1' hrw hl hx hy
  obtain ⟨o1,k1,k2,k3,k4,_⟩:=hv i ob h1 (Ob.live_of_rw hrw);obtain ⟨o2,l1,l2,_,l4,_⟩:=hv i' ob' h1' hl
  exact hF.sep _ _ o1 o2 x y (fun he=>hne (hi i i' ob ob' h1 h1' (Ob.live_of_rw hrw) hl he)) k1 l1 (k3 hrw) l2 (k4 ▸ hx) (l4 ▸ hy)
 ·intro i ob x h1 hrw hx
  obtain ⟨o1,k1,_,k3,k4,_⟩:=hv i ob h1 (Ob.live_of_rw hrw);exact hF.prot _ o1 x k1 (k3 hrw) (k4 ▸ hx)
theorem zF_frz (hF:Inv K w0 φ X w)(m:Nat):∀B o,zF φ X m w B=some o→w.heap[B]?=some o:=by
 intro B o hB;unfold zF at hB
 split at hB
 ·exact hB
 ·exact hF.frz B o hB
theorem zF_sep (hF:Inv K w0 φ X w) {m b:Nat}{ob:Ob}{x:Nat×Nat×Nat}(h1:b<m) (h2:X[b]?=some ob) (hrw:ob.rw=true) (hx2:φ b=some x):zF φ X m w x.1=none:=by
 unfold zF;rw[if_neg]
 ·exact hF.zsep b ob x h2 hrw hx2
 ·rintro ⟨b',ob',x',k1,k2,k3,k4,k5⟩
  exact hF.sep b b' ob ob' x x' (by omega) h2 k2 hrw (Ob.live_of_rw k3) hx2 k4 k5.symm
theorem VRs.picks {tm:Array Value}:∀(pk:List Nat) (vs:List Value) (T:List Value),VRs ψ T.toArray tm→VRl ψ vs (pk.map fun i=>tm.getD i undef)→vs.all (fun v=>notU v)=true→VRs ψ (sets T (pk.zip vs)).toArray tm:=by
 intro pk
 induction pk with
 | nil=>intro vs T h _ _;cases vs<;>exact h
 | cons i r ih =>
  intro vs T h hv hall
  cases hv with
  | cons h1' h2' =>
   rename_i v vs';simp only[List.all_cons,Bool.and_eq_true]at hall
   refine ih vs' _ ?_ h2' hall.2
   rcases Nat.lt_or_ge i tm.size with hi | hi
   ·have e:tm=tm.setIfInBounds i (tm.getD i undef):=by
     apply Array.ext_getElem?
     intro q
     rw[Array.getElem?_setIfInBounds]
     split
     ·rename_i hq
      subst hq
      first
      | (rw[Array.getElem?_eq_getElem hi];rfl)
      | (rw[if_pos hi,Array.getD_eq_getD_getElem?,Array.getElem?_eq_getElem hi];rfl)
     ·rfl
    rw[lset_eq];have:=h.set h1' i;rw[← e]at this;exact this
   ·have hT:T.length≤i:=by have:=h.size;simp at this;omega
    have e:lset T i v=T:=by rw[lset_set,List.set_eq_of_length_le hT]
    rw[e];exact h
theorem VRs.lo {LL:List Value}{N:Nat}{tm:Array Value}(hl:LL.length=N) (h:VRs φ LL.toArray tm):VRs ψ (junkF N (LL.map Go.Gi.lo)).toArray tm:=by
 rw[junkF_eq (by simpa using hl)]
 intro i;have hVi:=h i
 rw[List.getElem?_toArray]at hVi ⊢
 rw[List.getElem?_map]
 generalize LL[i]?=q at hVi
 generalize tm[i]?=q' at hVi ⊢
 cases hVi with
 | none=>exact .none
 | some h=>exact .some (cl_vr h)
end
def obCells:Ob→Option (List Value)
 | .cells ⟨c⟩ false=>some c
 | .loop _ _ ⟨t⟩ _ _ _ _=>some t
 | _=>none
def obPut:Ob→List Value→Ob
 | .cells _ r,c=>.cells ⟨c⟩ r
 | .loop st pend _ ps asn bd d,c=>.loop st pend ⟨c⟩ ps asn bd d
 | ob,_=>ob
theorem obPut_cells {ob:Ob}{cq:List Value}(h:obCells ob=some cq) (c:List Value):obCells (obPut ob c)=some c:=by
 unfold obCells at h
 split at h
 ·rfl
 ·rfl
 ·cases h
theorem obPut_live {ob:Ob}{cq:List Value}(h:obCells ob=some cq):ob.live=true∧ob.rw=true∧∀c,(obPut ob c).live=true∧(obPut ob c).rw=true:=by
 unfold obCells at h
 split at h
 ·exact ⟨rfl,rfl,fun c=>⟨rfl,rfl⟩⟩
 ·exact ⟨rfl,rfl,fun c=>⟨rfl,rfl⟩⟩
 ·cases h
theorem obPut_same {o1 o2:Ob}{c1 c2 x1 x2:List Value}(h1:obCells o1=some c1) (h2:obCells o2=some c2) (h:obPut o1 x1=obPut o2 x2):x1=x2∧∀z,obPut o1 z=obPut o2 z:=by
 unfold obCells at h1 h2
 split at h1
 ·split at h2
  ·simp only[obPut,Ob.cells.injEq,Array.mk.injEq,and_true]at h
   exact ⟨h,fun z=>rfl⟩
  ·simp [obPut]at h
  ·cases h2
 ·split at h2
  ·simp [obPut]at h
  ·simp only[obPut,Ob.loop.injEq,Array.mk.injEq]at h
   obtain ⟨a1,a2,a3,a4,a5,a6,a7⟩:=h
   refine ⟨a3,fun z=>?_⟩
   simp only[obPut,a1,a2,a4,a5,a6,a7]
  ·cases h2
 ·cases h1
theorem obPut_self {ob:Ob}{cq:List Value}(h:obCells ob=some cq):obPut ob cq=ob:=by
 unfold obCells at h
 split at h
 ·simp only[Option.some.injEq]at h;subst h;rfl
 ·simp only[Option.some.injEq]at h;subst h;rfl
 ·cases h
section
variable {φ ψ:Phi}{w:World}{B base tot n:Nat}
theorem obR_put {ob:Ob}{cq c2:List Value}(h:obCells ob=some cq) (hl:c2.length=cq.length) (hc:∀(k:Nat) (u u2:Value),cq[k]?=some u→c2[k]?=some u2→∀v',VR φ u v'→VR ψ u2 v') (hle:le (cut φ n) ψ)
  (hs:∃z,obSc n (obPut ob z)=true) (hr:ObR φ w ob B base tot):ObR ψ w (obPut ob c2) B base tot:=by
 unfold obCells at h
 split at h
 ·rename_i c
  simp only[Option.some.injEq]at h;subst h;obtain ⟨C,el,fr,r1,r2,r3⟩:=hr
  refine ⟨C,el,fr,r1,fun k u hu=>?_,fun hh=>?_⟩
  ·simp only[List.getElem?_toArray]at hu
   have hk:k<c.length:=by have:=lt_of_get hu;omega
   obtain ⟨v',r4,r5⟩:=r2 k c[k] (by rw[List.getElem?_toArray];exact List.getElem?_eq_getElem hk)
   exact ⟨v',r4,hc k _ u (List.getElem?_eq_getElem hk) hu v' r5⟩
  ·have:=r3 hh
   simp only[List.size_toArray]at this ⊢;rw[hl];exact this
 ·rename_i st pend c ps asn bd d
  simp only[Option.some.injEq]at h;subst h;obtain ⟨r0,fn,tm,D,r1,r2,td,r3⟩:=hr
  refine ⟨r0,fn,tm,D,r1,fun k=>?_,td,hle.fn _ _ ?_⟩
  ·have hk:=r2 k
   rw[List.getElem?_toArray]at hk ⊢
   rcases Nat.lt_or_ge k c.length with h1 | h1
   ·have e1:c[k]?=some c[k]:=List.getElem?_eq_getElem h1
    have e2:c2[k]?=some (c2[k]'(by omega)):=List.getElem?_eq_getElem (by omega)
    rw[e1]at hk;rw[e2]
    generalize tm[k]?=y at hk
    cases hk with
    | some hv=>exact .some (hc k _ _ e1 e2 _ hv)
   ·rw[List.getElem?_eq_none h1]at hk
    rw[List.getElem?_eq_none (by omega)]
    generalize tm[k]?=y at hk
    cases hk;exact .none
  ·obtain ⟨z,hs⟩:=hs
   simp only[obPut,obSc,Bool.and_eq_true,decide_eq_true_eq]at hs;exact (cut_lt hs.2).trans r3
 ·cases h
end
theorem obCells_sc {ob:Ob}{cq:List Value}{n k:Nat} {u v':Value} {φ:Phi}(h:obCells ob=some cq) (hs:obSc n ob=true) (hu:cq[k]?=some u) (hv:VR φ u v'):VR (cut φ n) u v':=by
 unfold obCells at h
 split at h
 ·simp only[Option.some.injEq]at h;subst h
  simp only[obSc,List.all_eq_true]at hs;exact sc1_cut (hs u (List.mem_of_getElem? hu)) hv
 ·simp only[Option.some.injEq]at h;subst h
  simp only[obSc,Bool.and_eq_true,List.all_eq_true]at hs;exact scT_cut (hs.1 u (List.mem_of_getElem? hu)) hv
 ·cases h
inductive Fgl:List Value→List Value→Prop
 | nil:Fgl [] []
 | same {v:Value} {l l':List Value} (h:Fgl l l'):Fgl (v::l) (v::l')
 | lo {v u:Value} {l l':List Value} (e:Go.Gi.lo v=u) (h:Fgl l l'):Fgl (v::l) (u::l')
theorem Fgl.get {φ:Phi} {l l':List Value}(h:Fgl l l'):∀{x:Array Value},VRs φ l.toArray x→VRs φ l'.toArray x:=by
 have key:∀{l l':List Value},Fgl l l'→∀i:Nat,OR (fun v u=>∀x,VR φ v x→VR φ u x) l[i]? l'[i]?:=by
  intro l l' h
  induction h with
  | nil=>intro i;simp;exact .none
  | same _ ih =>
   intro i
   cases i with
   | zero=>simp only[List.getElem?_cons_zero];exact .some fun x h=>h
   | succ i=>simpa using ih i
  | lo e _ ih =>
   intro i
   cases i with
   | zero=>simp only[List.getElem?_cons_zero];exact .some fun x h=>e ▸ cl_vr h
   | succ i=>simpa using ih i
 intro x hx i;have h1:=key h i;have h2:=hx i
 rw[List.getElem?_toArray]at h2 ⊢
 generalize l[i]?=a at h1 h2
 generalize l'[i]?=b at h1 ⊢
 generalize x[i]?=y at h2 ⊢
 cases h1 with
 | none=>cases h2;exact .none
 | some h3=>cases h2 with
  | some h4=>exact .some (h3 _ h4)
inductive Forgets:List Ob→List Ob→Prop
 | nil:Forgets [] []
 | same {o:Ob} {l l':List Ob} (h:Forgets l l'):Forgets (o::l) (o::l')
 | loop {st:LoopState} {pend:Option Code} {t t':List Value} {ps:Array Tmp} {asn bd:Code} {d:Nat} {l l':List Ob} (e:Fgl t t') (h:Forgets l l'):Forgets (.loop st pend ⟨t⟩ ps asn bd d::l) (.loop st pend ⟨t'⟩ ps asn bd d::l')
theorem Forgets.len {H' H:List Ob}(h:Forgets H' H):H'.length=H.length:=by
 induction h with
 | nil=>rfl
 | same _ ih=>simp [ih]
 | loop _ _ ih=>simp [ih]
theorem Forgets.refl:∀H:List Ob,Forgets H H
 | []=>.nil
 | _::r=>.same (Forgets.refl r)
theorem Forgets.get {H' H:List Ob}(h:Forgets H' H):∀(i:Nat) (ob:Ob),H[i]?=some ob→∃ob',H'[i]?=some ob'∧ob'.live=ob.live∧ob'.rw=ob.rw∧(ob.rw=false→ob'=ob)∧∀(φ:Phi) (w:World) (B base tot:Nat),ObR φ w ob' B base tot→ObR φ w ob B base tot:=by
 induction h with
 | nil=>intro i ob h;simp at h
 | same _ ih =>
  intro i ob hi
  cases i with
  | zero=>simp only[List.getElem?_cons_zero,Option.some.injEq]at hi;subst hi;exact ⟨_,rfl,rfl,rfl,fun _=>rfl,fun _ _ _ _ _ h=>h⟩
  | succ i=>exact ih i ob (by simpa using hi)
 | loop e _ ih =>
  intro i ob hi
  cases i with
  | zero =>
   simp only[List.getElem?_cons_zero,Option.some.injEq]at hi;subst hi
   refine ⟨_,rfl,rfl,rfl,fun h=>(by cases h),?_⟩
   rintro φ w B base tot ⟨r0,fn,tm,D,r1,r2,r3⟩
   exact ⟨r0,fn,tm,D,r1,e.get r2,r3⟩
  | succ i=>exact ih i ob (by simpa using hi)
theorem Forgets.inv {K:Nat→Prop}{w0 w:World} {φ:Phi} {H' H:List Ob}(h:Forgets H' H) (hI:Inv K w0 φ H' w):Inv K w0 φ H w:=by
 refine hI.view (κ:=id) (fun i ob hi hl=>?_) (fun i i' _ _ _ _ _ _ h=>h) (fun i hi=>hI.top i (by rw[h.len];exact hi)) hI.frz (fun i ob x hi hrw hx=>?_) hI.zk
 ·obtain ⟨ob',h1,h2,h3,_,h4⟩:=h.get i ob hi
  exact ⟨ob',h1,h2.trans hl,fun h=>h3.trans h,rfl,fun B base tot hr=>h4 φ w B base tot hr⟩
 ·obtain ⟨ob',h1,h2,h3,_,h4⟩:=h.get i ob hi
  exact hI.zsep i ob' x h1 (h3.trans hrw) hx
theorem Forgets.ro {H' H:List Ob}{b:Nat}{ob:Ob}(h:Forgets H' H) (hr:ob.rw=false) (hb:H[b]?=some ob):H'[b]?=some ob:=by
 obtain ⟨ob',h1,_,_,h4,_⟩:=h.get b ob hb;rw[h1,h4 hr]
def gB:List Nat→List Ob→Bool
 | [],_=>true
 | b::r,H=>(match nthO H b with | some (.cells a false)=>allFz a | _=>false)&&gB r H
def gC (H:List Ob)(k:Option Out):List Nat→Option Out
 | []=>k
 | b::r=>match nthO H b with
  | some (.cells a false)=>cond (allFz a) (gC H k r) none
  | _=>none
theorem gC_ok {H:List Ob}{k:Option Out}{o:Out}:∀{Bs:List Nat},gC H k Bs=some o→gB Bs H=true∧k=some o
 | [],h=>⟨rfl,h⟩
 | b::r,h=>by
  unfold gC at h;unfold gB
  split at h
  ·rename_i a hb
   obtain ⟨h1,h2⟩:=cond_some h;obtain ⟨h3,h4⟩:=gC_ok h2
   exact ⟨by rw[h1,h3];rfl,h4⟩
  ·cases h
section
variable {X D:Type}
structure LoopS (X D:Type) where
 c:Code
 N:Nat
 M:Nat
 S:List Nat
 Bs:List Nat
 q:Option (Nat×Nat)
 sz:Nat
 z:Nat
 sl:X→List Value
 hp:X→Value→List Ob
 own:X→Option (Array Value×Nat)
 ex:D→Ex
 pick:Ex→List Nat
 dv:D→List Value
 dh:D→List Ob
def LoopS.ownB (L:LoopS X D)(x:X):List Ob:=match L.own x with
 | none=>[]
 | some (a,_)=>[.cells a false]
def LoopS.ownV (L:LoopS X D)(x:X):Value:=match L.own x with
 | none=>.slice none 0 0
 | some (_,l)=>.slice (some ⟨L.M,0,none⟩) l L.sz
def LoopS.H (L:LoopS X D)(x:X):List Ob:=L.hp x (L.ownV x)++L.ownB x
def LoopS.good (L:LoopS X D)(x:X):Prop:=gB L.Bs (L.hp x (L.ownV x))=true∧∀a l,L.own x=some (a,l)→allFz a=true
def LoopS.encS (L:LoopS X D):Sum X D→Out
 | .inl x=>.ex .normal ⟨L.sl x,[],⟨L.H x,L.N,[]⟩⟩
 | .inr d=>.ex (L.ex d) ⟨L.dv d,[],⟨L.dh d,L.N,[]⟩⟩
def LoopS.headS (L:LoopS X D)(x:X)(j:List Value):Task:=.code none L.c ⟨sets (junkF L.N j) (L.S.zip (L.sl x)),[],⟨L.H x,0,[]⟩⟩
def LoopS.tailS (L:LoopS X D)(x:X)(d:D)(j:List Value):Out:=.ex (L.ex d) ⟨sets (junkF L.N j) ((L.pick (L.ex d)).zip (L.dv d)),[],⟨L.dh d++List.replicate (L.ownB x).length .dead,0,[]⟩⟩
def kS (N M:Nat)(S:List Nat)(pick:Ex→List Nat)(Bs:List Nat)(z:Nat)(q:Option (Nat×Nat)):Kn
 | .ex e s=>match s.d,lenIs s.t N with
  | [],true=>(match e with
   | .normal=>(match q with
    | none=>gC (s.h.bl.take M) (some (.ex .normal ⟨S.map (lget s.t),[],⟨s.h.bl.take M,N,s.h.wr⟩⟩)) Bs
    | some (q,j)=>(match nthO s.h.bl q with
     | some ob=>(match obCells ob with
      | some cq=>(match lget cq j with
       | .slice none 0 0=>gC (s.h.bl.take M) (some (.ex .normal ⟨S.map (lget s.t),[],⟨s.h.bl.take M,N,s.h.wr⟩⟩)) Bs
       | .slice (some ⟨b,0,none⟩) l zz=>(match Nat.ble M b,nthO s.h.bl b with
              | true,some (.cells a false)=>cond (allFz a) (gC ((s.h.bl.take M).set q (obPut ob (lset cq j (.slice (some ⟨M,0,none⟩) l zz)))) (some (.ex .normal ⟨S.map (lget s.t),[],⟨(s.h.bl.take M).set q (obPut ob (lset cq j (.slice (some ⟨M,0,none⟩) l zz)))++[.cells a false],N,s.h.wr⟩⟩)) Bs) none
              | _,_=>none)
       | _=>none)
      | _=>none)
     | _=>none))
   | e=>(match q with
    | none=>gC (s.h.bl.take M) (some (.ex e ⟨(pick e).map (lget s.t),[],⟨s.h.bl.take M,N,s.h.wr⟩⟩)) Bs
    | some (q,j)=>(match nthO s.h.bl q with
     | some ob=>(match obCells ob with
         | some cq=>frzG M z s.h.bl [lget cq j] fun us=>frzG M z s.h.bl ((pick e).map (lget s.t)) fun vs =>
           gC ((s.h.bl.take M).set q (obPut ob (lset cq j (us.headD undef)))) (some (.ex e ⟨vs,[],⟨(s.h.bl.take M).set q (obPut ob (lset cq j (us.headD undef))),N,s.h.wr⟩⟩)) Bs
         | _=>none)
     | _=>none)))
  | _,_=>none
 | _=>none
structure LoopS.OkS (L:LoopS X D):Prop where
 s2:∀x,(L.sl x).all (fun v=>notU v&&scT L.M v)=true
 s1:∀x,(L.sl x).length=L.S.length
 h1:∀x v,(L.hp x v).length=L.M
 h2:∀x,gB L.Bs (L.hp x (.slice none 0 0))=true→(L.hp x (.slice none 0 0)).all (boxD L.M)=true
 h3:∀x v,match L.q with
  | none=>L.hp x v=L.hp x (.slice none 0 0)
  | some (q,j)=>∃(ob0:Ob) (cs:List Value),(L.hp x (.slice none 0 0))[q]?=some ob0∧obCells ob0=some cs∧j<cs.length∧L.hp x v=(L.hp x (.slice none 0 0)).set q (obPut ob0 (cs.set j v))
 h4:∀x v,gB L.Bs (L.hp x v)=gB L.Bs (L.hp x (.slice none 0 0))
 qM:∀q j,L.q=some (q,j)→q<L.M
 d1:∀d,(L.dv d).all (fun v=>notU v&&scT L.M v)=true
 d2:∀d,(L.dh d).length=L.M
 d3:∀d,gB L.Bs (L.dh d)=true→(L.dh d).all (boxD L.M)=true
 e1:∀d,L.ex d≠.normal
 e2:∀d,noPanic (L.ex d)=true
 e3:∀d,(L.pick (L.ex d)).length=(L.dv d).length
 nd:L.S.Nodup
 lt:∀k∈L.S,k<L.N
theorem LoopS.own_cases {L:LoopS X D}(x:X):(L.own x=none∧L.ownB x=[]∧L.ownV x=.slice none 0 0)∨∃a l,L.own x=some (a,l)∧L.ownB x=[.cells a false]∧L.ownV x=.slice (some ⟨L.M,0,none⟩) l L.sz:=by
 unfold LoopS.ownB LoopS.ownV
 cases h:L.own x with
 | none=>exact .inl ⟨rfl,rfl,rfl⟩
 | some al=>obtain ⟨a,l⟩:=al;exact .inr ⟨a,l,rfl,rfl,rfl⟩
theorem all_boxD {m:Nat}{H:List Ob}(h:H.all (boxD m)=true) {i:Nat}{ob:Ob}(hi:H[i]?=some ob):boxD m ob=true:=by
 rw[List.all_eq_true]at h;exact h ob (List.mem_of_getElem? hi)
def turnP (φ:Phi)(M b:Nat)(o:Bool):Phi:=⟨fun i=>if i<M then φ i else if i=M∧o=true then φ b else none,φ.z⟩
theorem turn_le {φ:Phi}{M b:Nat}{o:Bool}:le (cut φ M) (turnP φ M b o):=by
 refine ⟨fun i y hi=>?_,fun B o hB=>hB⟩
 rcases Nat.lt_or_ge i M with h | h
 ·rw[cut_lt h]at hi
  show (if i<M then φ i else _)=some y
  rw[if_pos h];exact hi
 ·rw[cut_ge h]at hi;cases hi
theorem take_get {bl H1:List Ob}{M:Nat}(h:bl.take M=H1) {b:Nat}{ob:Ob}(hb:H1[b]?=some ob):b<M∧bl[b]?=some ob:=by
 rw[← h,List.getElem?_take]at hb
 split at hb
 ·exact ⟨by assumption,hb⟩
 ·cases hb
theorem LoopS.same {L:LoopS X D}(ok:L.OkS) {x:X}{bl:List Ob}(ho:L.own x=none) (e:bl.take L.M=L.H x) (hg:gB L.Bs (bl.take L.M)=true) :
  L.good x∧∀(K:Nat→Prop) (w0:World) (φ:Phi) (w:World),Inv K w0 φ bl w→Inv K w0 (turnP φ L.M 0 false) (L.H x) w:=by
 have hV:L.ownV x=.slice none 0 0:=by unfold LoopS.ownV;rw[ho]
 have hB:L.ownB x=[]:=by unfold LoopS.ownB;rw[ho]
 have hH:L.H x=L.hp x (.slice none 0 0):=by unfold LoopS.H;rw[hV,hB,List.append_nil]
 have hgb:gB L.Bs (L.hp x (.slice none 0 0))=true:=by rw[← hH,← e];exact hg
 have hbox:=ok.h2 x hgb
 refine ⟨⟨by rw[hV];exact hgb,fun a l h=>by rw[ho]at h;cases h⟩,fun K w0 φ w hF=>?_⟩
 rw[hH]at e ⊢
 refine hF.view (κ:=id) (fun i ob hi hl=>?_) (fun i i' _ _ _ _ _ _ h=>h) (fun i hi=>?_) hF.frz (fun i ob y hi hrw hy=>?_) hF.zk
 ·obtain ⟨k1,k2⟩:=take_get e hi
  refine ⟨ob,k2,hl,fun h=>h,if_pos k1,fun B base tot hr=>?_⟩
  exact (obSc_cut (boxD_live (all_boxD hbox hi) hl).2 hr).keep turn_le rfl
 ·rw[ok.h1]at hi
  show (if i<L.M then _ else if i=L.M∧false=true then _ else none)=none
  rw[if_neg (by omega),if_neg (by simp)]
 ·obtain ⟨k1,k2⟩:=take_get e hi
  have hy':(if i<L.M then φ i else if i=L.M∧false=true then φ 0 else none)=some y:=hy
  rw[if_pos k1]at hy';exact hF.zsep i ob y k2 hrw hy'
theorem LoopS.turn {L:LoopS X D}(ok:L.OkS) {e:Ex}{LL:List Value}{bl:List Ob}{b1:Nat}{wr:List Nat}{x:X}
  (h:kS L.N L.M L.S L.pick L.Bs L.z L.q (.ex e ⟨LL,[],⟨bl,b1,wr⟩⟩)=some (L.encS (.inl x))) :
  e=.normal∧LL.length=L.N∧L.good x∧L.S.map (lget LL)=L.sl x∧∃b o,∀(K:Nat→Prop) (w0:World) (φ:Phi) (w:World),Inv K w0 φ bl w→Inv K w0 (turnP φ L.M b o) (L.H x) w:=by
 unfold kS at h;simp only at h
 split at h
 case h_2=>cases h
 rename_i hlen;have k4:=lenIs_eq _ _ hlen
 have nil:∀{k:Option Out},gC (bl.take L.M) (some (.ex .normal ⟨L.S.map (lget LL),[],⟨bl.take L.M,L.N,wr⟩⟩)) L.Bs=some (L.encS (.inl x)) →
   L.good x∧L.S.map (lget LL)=L.sl x∧∃b o,∀(K:Nat→Prop) (w0:World) (φ:Phi) (w:World),Inv K w0 φ bl w→Inv K w0 (turnP φ L.M b o) (L.H x) w:=by
  intro _ h;obtain ⟨g1,g2⟩:=gC_ok h;simp only[LoopS.encS,Option.some.injEq,Out.ex.injEq,St.mk.injEq,Hp.mk.injEq,true_and]at g2;obtain ⟨q1,q2,_⟩:=g2
  have ho:L.own x=none:=by
   rcases LoopS.own_cases (L:=L) x with ⟨p1,_,_⟩ | ⟨a,l,p1,p2,_⟩
   ·exact p1
   ·have:=congrArg List.length q2
    unfold LoopS.H at this;rw[List.length_append,ok.h1,p2,List.length_take]at this;simp only[List.length_cons,List.length_nil]at this
    omega
  obtain ⟨s1,s2⟩:=LoopS.same ok ho q2 g1;exact ⟨s1,q1,0,false,s2⟩
 split at h
 ·split at h
  ·exact ⟨rfl,k4,nil (k:=none) h⟩
  ·rename_i q j hq
   split at h
   case h_2=>cases h
   rename_i obq hobq;rw[nthO_eq]at hobq
   split at h
   case h_2=>cases h
   rename_i cq hcq
   split at h
   ·exact ⟨rfl,k4,nil (k:=none) h⟩
   ·rename_i b l zz hsl
    split at h
    case h_2=>cases h
    rename_i a hmb hX;rw[nthO_eq]at hX;have hMb:=Nat.le_of_ble_eq_true hmb;obtain ⟨ha,h⟩:=cond_some h;obtain ⟨g1,g2⟩:=gC_ok h;simp only[LoopS.encS,Option.some.injEq,Out.ex.injEq,St.mk.injEq,Hp.mk.injEq,true_and]at g2;obtain ⟨q1,q2,_⟩:=g2;have hqM:=ok.qM q j hq
    have hblM:L.M≤bl.length:=by have:=lt_of_get hX;omega
    have hlen2:((bl.take L.M).set q (obPut obq (lset cq j (.slice (some ⟨L.M,0,none⟩) l zz)))).length=(L.hp x (L.ownV x)).length:=by
     rw[List.length_set,List.length_take,ok.h1];omega
    obtain ⟨q3,q4⟩:=List.append_inj (show _++_=L.hp x (L.ownV x)++L.ownB x from q2) hlen2
    rcases LoopS.own_cases (L:=L) x with ⟨p1,p2,p3⟩ | ⟨a2,l2,p1,p2,p3⟩
    ·rw[p2]at q4;cases q4
    ·rw[p2]at q4
     simp only[List.cons.injEq,Ob.cells.injEq,and_true]at q4;subst q4;have h3:=ok.h3 x (L.ownV x);rw[hq]at h3;obtain ⟨ob0,cs,c1,c0,c2,c3⟩:=h3;rw[c3]at q3
     have hqlt:q<(bl.take L.M).length:=by rw[List.length_take];omega
     have hqn:q<(L.hp x (.slice none 0 0)).length:=by rw[ok.h1];exact hqM
     have e0:=congrArg (fun z=>z[q]?) q3
     simp only[List.getElem?_set_self hqlt,List.getElem?_set_self hqn,Option.some.injEq]at e0
     obtain ⟨e1,e6⟩:=obPut_same hcq c0 e0
     have e2:∀i,i≠q→i<L.M→bl[i]?=(L.hp x (.slice none 0 0))[i]?:=by
      intro i hi him
      have:=congrArg (fun z=>z[i]?) q3
      simp only[List.getElem?_set_ne (Ne.symm hi)]at this
      rw[← this,List.getElem?_take,if_pos him]
     rw[lset_set]at e1
     have e3:cq.length=cs.length:=by
      have:=congrArg List.length e1
      simpa using this
     have e4:L.ownV x=.slice (some ⟨L.M,0,none⟩) l zz:=by
      have:=congrArg (fun z=>z[j]?) e1
      simp only[List.getElem?_set_self (show j<cq.length by omega),List.getElem?_set_self c2,Option.some.injEq]at this
      exact this.symm
     have e5:∀k,k≠j→cq[k]?=cs[k]?:=by
      intro k hk
      have:=congrArg (fun z=>z[k]?) e1
      simpa only [List.getElem?_set_ne (Ne.symm hk)] using this
     have hgb:gB L.Bs (L.hp x (L.ownV x))=true:=by rw[c3,← q3];exact g1
     have hgb0:gB L.Bs (L.hp x (.slice none 0 0))=true:=by rw[← ok.h4 x (L.ownV x)];exact hgb
     have hbox:=ok.h2 x hgb0
     refine ⟨rfl,k4,⟨hgb,fun a' l' h'=>by rw[p1]at h';simp only[Option.some.injEq,Prod.mk.injEq]at h';rw[← h'.1];exact ha⟩,q1,b,true,fun K w0 φ w hF=>?_⟩
     have hsl':cq[j]?=some (.slice (some ⟨b,0,none⟩) l zz):=getElem_of_lget hsl rfl
     have hHget:∀{i:Nat} {ob:Ob},(L.H x)[i]?=some ob→(i<L.M∧(L.hp x (L.ownV x))[i]?=some ob)∨(i=L.M∧ob=.cells a false):=by
      intro i ob hi;unfold LoopS.H at hi
      rcases get_app hi with ⟨h1,h2⟩ | ⟨h1,h2⟩
      ·exact .inl ⟨by rwa [ok.h1]at h1,h2⟩
      ·rw[ok.h1]at h1 h2
       rw[p2,List.getElem?_singleton]at h2
       split at h2
       ·simp only[Option.some.injEq]at h2
        exact .inr ⟨by omega,h2.symm⟩
       ·cases h2
     have hlt:∀{i:Nat},i<L.M→turnP φ L.M b true i=φ i:=fun h=>if_pos h
     have hM:turnP φ L.M b true L.M=φ b:=by
      show (if L.M<L.M then _ else if L.M=L.M∧true=true then φ b else none)=φ b
      rw[if_neg (by omega),if_pos ⟨rfl,rfl⟩]
     have hback:∀{i:Nat} {ob:Ob},(L.H x)[i]?=some ob→ob.live=true→∃ob',bl[if i=L.M then b else i]?=some ob'∧ob'.live=true∧(ob.rw=true→ob'.rw=true)∧turnP φ L.M b true i=φ (if i=L.M then b else i)∧∀B base tot,ObR φ w ob' B base tot→ObR (turnP φ L.M b true) w ob B base tot:=by
      intro i ob hi hl
      rcases hHget hi with ⟨hiM,h2⟩ | ⟨rfl,rfl⟩
      ·rw[if_neg (by omega),hlt hiM]
       rw[c3]at h2
       by_cases hiq:i=q
       ·subst hiq
        rw[List.getElem?_set_self hqn,Option.some.injEq]at h2
        subst h2;have hsc:=(boxD_live (all_boxD hbox c1) (obPut_live c0).1).2
        refine ⟨obq,hobq,(obPut_live hcq).1,fun _=>(obPut_live hcq).2.1,rfl,fun B base tot hr=>?_⟩
        rw[← e6]
        refine obR_put (n:=L.M) hcq (by rw[List.length_set,e3]) (fun k u u2 hu hu2 v' hv=>?_) turn_le ⟨cs,by rw[e6,obPut_self c0];exact hsc⟩ hr
        by_cases hkj:k=j
        ·subst hkj
         rw[List.getElem?_set_self c2,Option.some.injEq]at hu2
         subst hu2;rw[hsl',Option.some.injEq]at hu;subst hu;rw[e4]
         cases hv with
         | sliceZ hp' a2 c2'=>exact .sliceZ (a:=⟨L.M,0,none⟩) (hM.trans hp') a2 _
         | slice hp' hl' hc'=>exact .slice (hM.trans hp') hl' hc'
        ·rw[List.getElem?_set_ne (Ne.symm hkj),← e5 k hkj,hu,Option.some.injEq]at hu2
         subst hu2
         exact (obCells_sc c0 hsc (by rw[← e5 k hkj];exact hu) hv).mono turn_le
       ·rw[List.getElem?_set_ne (Ne.symm hiq)]at h2
        have h2':=h2;rw[← e2 i hiq hiM]at h2'
        refine ⟨ob,h2',hl,fun h=>h,rfl,fun B base tot hr=>?_⟩
        exact (obSc_cut (boxD_live (all_boxD hbox h2) hl).2 hr).keep turn_le rfl
      ·rw[if_pos rfl]
       refine ⟨_,hX,rfl,fun _=>rfl,hM,fun B base tot hr=>?_⟩
       refine (obSc_cut (own_sc ha L.M) hr).keep turn_le rfl
     refine hF.view (κ:=fun i=>if i=L.M then b else i) (fun i ob hi hl=>hback hi hl) (fun i i' ob ob' hi hi' hl hl' he=>?_) (fun i hi=>?_) hF.frz (fun i ob y hi hrw hy=>?_) hF.zk
     ·have g1:i≤L.M:=by rcases hHget hi with ⟨h,_⟩ | ⟨h,_⟩<;>omega
      have g2:i'≤L.M:=by rcases hHget hi' with ⟨h,_⟩ | ⟨h,_⟩<;>omega
      split at he<;>split at he<;>omega
     ·unfold LoopS.H at hi
      rw[List.length_append,ok.h1,p2]at hi;simp only[List.length_cons,List.length_nil]at hi
      show (if i<L.M then _ else if i=L.M∧true=true then _ else none)=none
      rw[if_neg (by omega),if_neg (by omega)]
     ·obtain ⟨ob',k1,k2,k3,k5,_⟩:=hback hi (Ob.live_of_rw hrw)
      rw[k5]at hy;exact hF.zsep _ ob' y k1 (k3 hrw) hy
   ·cases h
 ·rename_i e' hne
  exfalso
  split at h
  ·obtain ⟨_,g2⟩:=gC_ok h
   simp only[LoopS.encS,Option.some.injEq,Out.ex.injEq]at g2;exact hne g2.1
  ·split at h
   case h_2=>cases h
   split at h
   case h_2=>cases h
   obtain ⟨us,h1,_⟩:=frzG_all h;obtain ⟨vs,h2,_⟩:=frzG_all h1;obtain ⟨_,g2⟩:=gC_ok h2;simp only[LoopS.encS,Option.some.injEq,Out.ex.injEq]at g2;exact hne g2.1
def leaveP (φ φ0:Phi)(bl:List Ob)(M:Nat)(w:World):Phi:=⟨fun i=>if i<M then φ i else φ0 i,zF φ bl M w⟩
theorem LoopS.leave {L:LoopS X D}(ok:L.OkS) {e:Ex}{LL:List Value}{bl:List Ob}{b1:Nat}{wr:List Nat}{d:D}
  (h:kS L.N L.M L.S L.pick L.Bs L.z L.q (.ex e ⟨LL,[],⟨bl,b1,wr⟩⟩)=some (L.encS (.inr d))) :
  e=L.ex d∧LL.length=L.N∧gB L.Bs (L.dh d)=true∧∀(K:Nat→Prop) (w0:World) (φ φ0:Phi) (w:World) (tm:Array Value) (nb:Nat),Inv K w0 φ bl w→VRs φ LL.toArray tm→(∀i y,i<L.M→φ0 i=some y→φ i=some y)→(∀B o,φ0.z B=some o→φ.z B=some o)→(∀i,L.M+nb≤i→φ0 i=none) →
   ∃ψ,le φ0 ψ∧VRs ψ (sets (junkF L.N (LL.map lo)) ((L.pick (L.ex d)).zip (L.dv d))).toArray tm∧Inv K w0 ψ (L.dh d++List.replicate nb .dead) w:=by
 unfold kS at h;simp only at h
 split at h
 case h_2=>cases h
 rename_i hlen;have k4:=lenIs_eq _ _ hlen
 have hle0:∀{K:Nat→Prop} {w0:World} {φ φ0:Phi} {w:World},Inv K w0 φ bl w→(∀i y,i<L.M→φ0 i=some y→φ i=some y)→(∀B o,φ0.z B=some o→φ.z B=some o)→le φ0 (leaveP φ φ0 bl L.M w):=by
  intro K w0 φ φ0 w hF h1 h2
  refine ⟨fun i y hi=>?_,fun B o hB=>(zF_made hF L.M).le B o (h2 B o hB)⟩
  show (if i<L.M then φ i else φ0 i)=some y
  split
  ·rename_i h;exact h1 i y h hi
  ·exact hi
 have hcut:∀{K:Nat→Prop} {w0:World} {φ φ0:Phi} {w:World},Inv K w0 φ bl w→le (cut φ L.M) (leaveP φ φ0 bl L.M w):=by
  intro K w0 φ φ0 w hF
  refine ⟨fun i y hi=>?_,fun B o hB=>(zF_made hF L.M).le B o hB⟩
  rcases Nat.lt_or_ge i L.M with h | h
  ·rw[cut_lt h]at hi
   show (if i<L.M then φ i else φ0 i)=some y
   rw[if_pos h];exact hi
  ·rw[cut_ge h]at hi;cases hi
 have fin:∀{K:Nat→Prop} {w0:World} {φ φ0:Phi} {w:World} {nb:Nat},Inv K w0 φ bl w→(∀i,L.M+nb≤i→φ0 i=none)→gB L.Bs (L.dh d)=true →
   (∀(i:Nat) (ob:Ob),(L.dh d)[i]?=some ob→ob.live=true→i<L.M∧∃ob',bl[i]?=some ob'∧ob'.live=true∧(ob.rw=true→ob'.rw=true)∧(bl[i]?=some ob∨∀B base tot,ObR φ w ob' B base tot→ObR (leaveP φ φ0 bl L.M w) w ob B base tot)) →
   Inv K w0 (leaveP φ φ0 bl L.M w) (L.dh d++List.replicate nb .dead) w:=by
  intro K w0 φ φ0 w nb hF htop hg hv;have hbox:=ok.d3 d hg
  have hget:∀{i:Nat} {ob:Ob},(L.dh d++List.replicate nb Ob.dead)[i]?=some ob→ob.live=true→(L.dh d)[i]?=some ob:=by
   intro i ob hi hl
   rcases get_app hi with ⟨_,h2⟩ | ⟨_,h2⟩
   ·exact h2
   ·rw[List.getElem?_replicate]at h2
    split at h2
    ·simp only[Option.some.injEq]at h2;subst h2;cases hl
    ·cases h2
  refine hF.view (κ:=id) (fun i ob hi hl=>?_) (fun i i' _ _ _ _ _ _ h=>h) (fun i hi=>?_) (zF_frz hF L.M) (fun i ob y hi hrw hy=>?_) (fun k hk=>zF_k hF L.M hk)
  ·obtain ⟨hiM,ob',g1,g2,g3,g4⟩:=hv i ob (hget hi hl) hl
   refine ⟨ob',g1,g2,g3,if_pos hiM,fun B base tot hr=>?_⟩
   rcases g4 with g4 | g4
   ·rw[g1,Option.some.injEq]at g4
    subst g4;exact (obSc_cut (boxD_live (all_boxD hbox (hget hi hl)) hl).2 hr).keep (hcut hF) rfl
   ·exact g4 B base tot hr
  ·rw[List.length_append,ok.d2,List.length_replicate]at hi
   show (if i<L.M then φ i else φ0 i)=none
   rw[if_neg (by omega)]
   exact htop i hi
  ·have hl:=Ob.live_of_rw hrw
   obtain ⟨hiM,ob',g1,g2,g3,_⟩:=hv i ob (hget hi hl) hl
   have hy':(if i<L.M then φ i else φ0 i)=some y:=hy
   rw[if_pos hiM]at hy';exact zF_sep hF hiM g1 (g3 hrw) hy'
 split at h
 ·exfalso
  have no:∀{T:List Value} {H:List Ob} {wr:List Nat},¬(some (Out.ex .normal ⟨T,[],⟨H,L.N,wr⟩⟩)=some (L.encS (.inr d))):=by
   intro T H wr hh;simp only[LoopS.encS,Option.some.injEq,Out.ex.injEq]at hh;exact ok.e1 d hh.1.symm
  split at h
  ·exact no (gC_ok h).2
  ·split at h
   case h_2=>cases h
   split at h
   case h_2=>cases h
   split at h
   ·exact no (gC_ok h).2
   ·split at h
    case h_2=>cases h
    obtain ⟨_,h⟩:=cond_some h;exact no (gC_ok h).2
   ·cases h
 ·rename_i e' hne
  split at h
  ·obtain ⟨g1,g2⟩:=gC_ok h
   simp only[LoopS.encS,Option.some.injEq,Out.ex.injEq,St.mk.injEq,Hp.mk.injEq,true_and]at g2;obtain ⟨rfl,q1,q2,_⟩:=g2
   refine ⟨rfl,k4,by rw[← q2];exact g1,fun K w0 φ φ0 w tm nb hF hV ha hz ht=>⟨leaveP φ φ0 bl L.M w,hle0 hF ha hz,?_,?_⟩⟩
   ·have hs:SlotRs L.M LL (sets (junkF L.N (LL.map lo)) ((L.pick (L.ex d)).zip (L.dv d))):=by
     refine slotRs_known k4 fun kv hkv=>?_
     have hm:=ok.d1 d;rw[List.all_eq_true]at hm;have hm1:=hm _ (List.of_mem_zip hkv).2;rw[Bool.and_eq_true]at hm1;rw[← q1]at hkv
     have h5:=zip_get (show (kv.1,kv.2)∈(L.pick (L.ex d)).zip ((L.pick (L.ex d)).map (lget LL)) from hkv)
     exact ⟨getElem_of_lget h5.symm hm1.1,hm1.2⟩
    exact (hs.vrs hV).mono (hcut hF)
   ·refine fin hF ht (by rw[← q2];exact g1) fun i ob hi hl=>?_
    obtain ⟨k1,k2⟩:=take_get q2 hi
    exact ⟨k1,ob,k2,hl,fun h=>h,.inl k2⟩
  ·rename_i q j hq
   split at h
   case h_2=>cases h
   rename_i obq hobq;rw[nthO_eq]at hobq
   split at h
   case h_2=>cases h
   rename_i cq hcq;obtain ⟨us,h1,u1,u2⟩:=frzG_all h;obtain ⟨vs,h2,v1,v2⟩:=frzG_all h1;obtain ⟨g1,g2⟩:=gC_ok h2;simp only[LoopS.encS,Option.some.injEq,Out.ex.injEq,St.mk.injEq,Hp.mk.injEq,true_and]at g2;obtain ⟨rfl,q1,q2,_⟩:=g2;have hqM:=ok.qM q j hq
   have hqb:q<(bl.take L.M).length:=by rw[List.length_take];have:=lt_of_get hobq;omega
   refine ⟨rfl,k4,by rw[← q2];exact g1,fun K w0 φ φ0 w tm nb hF hV ha hz ht=>⟨leaveP φ φ0 bl L.M w,hle0 hF ha hz,?_,?_⟩⟩
   ·have hpick:VRl φ ((L.pick (L.ex d)).map (lget LL)) ((L.pick (L.ex d)).map (fun i=>tm.getD i undef)):=by
     generalize L.pick (L.ex d)=pk
     induction pk with
     | nil=>exact .nil
     | cons i r ih =>
      refine .cons ?_ ih
      have:=hV.getD i;rw[← lget_eq]at this;exact this
    obtain ⟨u,hu,hu2⟩:=frzG_ok (ψ:=leaveP φ φ0 bl L.M w) (zF_made hF L.M) (hcut hF) h1 hpick;obtain ⟨_,g3⟩:=gC_ok hu2;simp only[LoopS.encS,Option.some.injEq,Out.ex.injEq,St.mk.injEq,Hp.mk.injEq,true_and]at g3;obtain ⟨rfl,_,_⟩:=g3
    refine VRs.picks _ _ _ (VRs.lo k4 hV) hu ?_
    have hm:=ok.d1 d;rw[List.all_eq_true]at hm ⊢;intro v hv;have:=hm v hv;rw[Bool.and_eq_true]at this;exact this.1
   ·refine fin hF ht (by rw[← q2];exact g1) fun i ob hi hl=>?_
    rw[← q2]at hi
    by_cases hiq:i=q
    ·subst hiq
     rw[List.getElem?_set_self hqb,Option.some.injEq]at hi
     subst hi
     refine ⟨hqM,obq,hobq,(obPut_live hcq).1,fun _=>(obPut_live hcq).2.1,.inr fun B base tot hr=>?_⟩
     have hgd:gB L.Bs (L.dh d)=true:=by rw[← q2];exact g1
     have hget:(L.dh d)[i]?=some (obPut obq (lset cq j (us.headD undef))):=by rw[← q2,List.getElem?_set_self hqb]
     have hsc:=(boxD_live (all_boxD (ok.d3 d hgd) hget) ((obPut_live hcq).2.2 _).1).2;have hput:=obPut_cells hcq (lset cq j (us.headD undef))
     refine obR_put (n:=L.M) hcq (by rw[lset_set,List.length_set]) (fun k u u2 hu hu2 v' hv=>?_) (hcut hF) ⟨_,hsc⟩ hr
     by_cases hkj:k=j
     ·subst hkj
      have hlg:lget cq k=u:=by
       rw[lget_eq,Array.getD_eq_getD_getElem?,List.getElem?_toArray,hu];rfl
      obtain ⟨w1,hw,hw2⟩:=frzG_ok (ψ:=leaveP φ φ0 bl L.M w) (zF_made hF L.M) (hcut hF) h (show VRl φ [lget cq k] [v'] by rw[hlg];exact .cons hv .nil)
      obtain ⟨vs',h2',_,_⟩:=frzG_all hw2;obtain ⟨_,g3⟩:=gC_ok h2';simp only[LoopS.encS,Option.some.injEq,Out.ex.injEq,St.mk.injEq,Hp.mk.injEq,true_and]at g3;obtain ⟨_,g4,_⟩:=g3
      have e1:=congrArg (fun z=>z[i]?) (g4.trans q2.symm)
      simp only[List.getElem?_set_self hqb,Option.some.injEq]at e1
      obtain ⟨e1,_⟩:=obPut_same hcq hcq e1
      have e2:=congrArg (fun z=>z[k]?) e1
      have hkl:k<cq.length:=lt_of_get hu
      simp only[lset_set,List.getElem?_set_self hkl,Option.some.injEq]at e2
      rw[lset_set,List.getElem?_set_self hkl,Option.some.injEq]at hu2
      subst hu2;rw[← e2]
      cases hw with
      | cons hw3 hw4=>cases hw4;exact hw3
     ·rw[lset_set,List.getElem?_set_ne (Ne.symm hkj),hu,Option.some.injEq]at hu2
      subst hu2
      exact (obCells_sc hput hsc (by rw[lset_set,List.getElem?_set_ne (Ne.symm hkj)];exact hu) hv).mono (hcut hF)
    ·rw[List.getElem?_set_ne (Ne.symm hiq)]at hi
     obtain ⟨k1,k2⟩:=take_get rfl hi
     exact ⟨k1,ob,k2,hl,fun h=>h,.inl k2⟩
section
variable {P:Program}(hN:NoNG P) (hm:P.follows .mixedOrders=true)
include hN hm
omit hN hm in
theorem told_slots {M N:Nat}{S:List Nat}{vs t:List Value}(ht:t.length=N) (hv:vs.all (fun v=>notU v&&scT M v)=true) (hS:∀kv∈S.zip vs,lget t kv.1=kv.2):SlotRs M t (sets (junkF N (t.map lo)) (S.zip vs)):=by
 refine slotRs_known ht fun kv hkv=>?_
 rw[List.all_eq_true]at hv;have:=hv _ (List.of_mem_zip hkv).2;rw[Bool.and_eq_true]at this;exact ⟨getElem_of_lget (hS kv hkv) this.1,this.2⟩
theorem LoopS.sem {L:LoopS X D}(ok:L.OkS) {a:Ans}(hk:Known P a) {n:Nat}{rd:X→RT (Sum X D)}
  (hr:∀x j,L.good x→evC P a.c n (L.headS x j) (kS L.N L.M L.S L.pick L.Bs L.z L.q)=(rd x).out L.encS):∀{m:Nat} {x:X} {d:D},loopV rd m x=some d→L.good x →
  ∀{t:List Value},t.length=L.N→(∀kv∈L.S.zip (L.sl x),lget t kv.1=kv.2)→∃j,gB L.Bs (L.dh d)=true∧∀(K:Nat→Prop) (w0:World) (φ φ0:Phi) (w:World) (ac:Act) (F:Fence) (n:Nat) (nb:Nat),
   Inv K w0 φ (L.H x) w→VRs φ t.toArray ac.tmps→DRs φ [] ac.defers→FenceOk φ none F→(∀i y,i<L.M→φ0 i=some y→φ i=some y)→(∀B o,φ0.z B=some o→φ.z B=some o)→(∀i,L.M+nb≤i→φ0 i=none) →
   wpLoopIn F n P L.c (CodeR K w0 φ0 (L.ex d) ⟨sets (junkF L.N j) ((L.pick (L.ex d)).zip (L.dv d)),[],⟨L.dh d++List.replicate nb .dead,0,[]⟩⟩) ac w
 | 0,_,_,h,_,_,_,_=>by cases h
 | m+1,x,d,h,hx,t,ht,hS=>by
  have hev:∀{y:Sum X D},(rd x).val=some y→∃e LL bl b1 wr,Fact P (.code none L.c ⟨sets (junkF L.N (t.map lo)) (L.S.zip (L.sl x)),[],⟨L.H x,0,[]⟩⟩) (.ex e ⟨LL,[],⟨bl,b1,wr⟩⟩)∧kS L.N L.M L.S L.pick L.Bs L.z L.q (.ex e ⟨LL,[],⟨bl,b1,wr⟩⟩)=some (L.encS y):=by
   intro y hy;have h1:=hr x (t.map lo) hx;rw[RT.out_val,hy,Option.map_some]at h1;obtain ⟨o,h2,hf⟩:=hk.factK hN hm h1;have h3:=h2;unfold kS at h3
   split at h3
   case h_2=>cases h3
   rename_i e s
   split at h3
   case h_2=>cases h3
   rename_i hd _;obtain ⟨LL,d0,⟨bl,b1,wr1⟩⟩:=s;simp only at hd;subst hd;exact ⟨e,LL,bl,b1,wr1,hf,h2⟩
  have hsl:=told_slots ht (ok.s2 x) hS
  have dnil:∀{φ ψ:Phi} {l:List Deferred},DRs φ [] l→DRs ψ [] l:=fun h=>by cases h;exact .nil
  unfold loopV at h
  split at h
  ·rename_i y hy
   obtain ⟨e,LL,bl,b1,wr,hf,hks⟩:=hev hy;obtain ⟨rfl,k4,hgy,hsy,b,o,hturn⟩:=LoopS.turn ok hks;have hTl:(sets (junkF L.N (LL.map lo)) (L.S.zip (L.sl y))).length=L.N:=len_sets _
   have hTs:SlotRs L.M LL (sets (junkF L.N (LL.map lo)) (L.S.zip (L.sl y))):=told_slots k4 (ok.s2 y) fun kv hkv=>by
    rw[← hsy]at hkv
    exact (zip_get (show (kv.1,kv.2)∈L.S.zip (L.S.map (lget LL)) from hkv)).symm
   obtain ⟨j,hgd,hj⟩:=LoopS.sem ok hk hr h hgy hTl (lget_setsL ok.nd ok.lt (ok.s1 y) _)
   refine ⟨j,hgd,fun K w0 φ φ0 w ac F n nb hI hV hD hF ha hz htop=>?_⟩
   obtain ⟨_,hh⟩:=hf.1 (Nat.zero_le _)
   refine rounds_of (wpIn_mono (hh K w0 φ w ac F n hI ((hsl.vrs hV).mono (cut_le φ _)) hD hF) ?_)
   rintro x' a' w' ⟨φ',hle,hx',ht',hd',hI'⟩
   cases hx'
   show wpLoopIn F n P L.c _ a' w'
   refine hj K w0 (turnP φ' L.M b o) φ0 w' a' F n nb (hturn K w0 φ' w' hI') ((hTs.vrs ht').mono turn_le) (dnil hd') hF (fun i y hi h0=>?_) (fun B o h0=>hle.zz B o (hz B o h0)) htop
   show (if i<L.M then φ' i else _)=some y
   rw[if_pos hi];exact hle _ _ (ha i y hi h0)
  ·rename_i d' hd
   simp only[Option.some.injEq]at h;subst h;obtain ⟨e,LL,bl,b1,wr,hf,hks⟩:=hev hd;obtain ⟨rfl,k4,hgd,hleave⟩:=LoopS.leave ok hks
   refine ⟨LL.map lo,hgd,fun K w0 φ φ0 w ac F n nb hI hV hD hF ha hz htop=>?_⟩
   obtain ⟨_,hh⟩:=hf.1 (Nat.zero_le _)
   refine rounds_of (wpIn_mono (hh K w0 φ w ac F n hI ((hsl.vrs hV).mono (cut_le φ _)) hD hF) ?_)
   rintro x' a' w' ⟨φ',hle,hx',ht',hd',hI'⟩
   obtain ⟨ψ,p1,p2,p3⟩:=hleave K w0 φ' φ0 w' a'.tmps nb hI' ht' (fun i y hi h0=>hle _ _ (ha i y hi h0)) (fun B o h0=>hle.zz B o (hz B o h0)) htop
   have hc:CodeR K w0 φ0 (L.ex d') ⟨sets (junkF L.N (LL.map lo)) ((L.pick (L.ex d')).zip (L.dv d')),[],⟨L.dh d'++List.replicate nb .dead,0,[]⟩⟩ x' a' w':=⟨ψ,p1,hx'.any (ok.e2 d'),p2,dnil hd',p3⟩;have hne:=ok.e1 d'
   revert hc
   generalize CodeR K w0 φ0 (L.ex d') ⟨sets (junkF L.N (LL.map lo)) ((L.pick (L.ex d')).zip (L.dv d')),[],⟨L.dh d'++List.replicate nb .dead,0,[]⟩⟩=Q
   intro hc
   generalize L.ex d'=q at hx' hne
   cases hx' with
   | normal=>exact absurd rfl hne
   | _=>exact hc
  ·cases h
theorem LoopS.fact {L:LoopS X D}(ok:L.OkS) {a:Ans}(hk:Known P a) {n:Nat}{rd:X→RT (Sum X D)}
  (hr:∀x j,L.good x→evC P a.c n (L.headS x j) (kS L.N L.M L.S L.pick L.Bs L.z L.q)=(rd x).out L.encS) {m:Nat} {x:X} {d:D} (h:loopV rd m x=some d) (hx:L.good x)
  {t:List Value} (ht:t.length=L.N) (hS:∀kv∈L.S.zip (L.sl x),lget t kv.1=kv.2):∃j,Fact P (.code none (.loop L.c) ⟨t,[],⟨L.H x,0,[]⟩⟩) (L.tailS x d j):=by
 obtain ⟨j,hg,hj⟩:=LoopS.sem hN hm ok hk hr h hx ht hS
 have hlen:(L.H x).length=L.M+(L.ownB x).length:=by unfold LoopS.H;rw[List.length_append,ok.h1]
 have key:∀(K:Nat→Prop) (w0:World) (φ:Phi) (w:World) (ac:Act) (F:Fence) (n:Nat),Inv K w0 φ (L.H x) w→VRs φ t.toArray ac.tmps→DRs φ [] ac.defers→FenceOk φ none F →
   wpLoopIn F n P L.c (CodeR K w0 φ (L.ex d) ⟨sets (junkF L.N j) ((L.pick (L.ex d)).zip (L.dv d)),[],⟨L.dh d++List.replicate (L.ownB x).length .dead,0,[]⟩⟩) ac w:=fun K w0 φ w ac F n hI ht hd hF =>
  hj K w0 φ φ w ac F n (L.ownB x).length hI ht hd hF (fun _ _ _ h=>h) (fun _ _ h=>h) fun i hi=>hI.top i (by rw[hlen];exact hi)
 refine ⟨j,fun _=>⟨⟨rfl,?_,fun b hb _=>absurd hb (Nat.not_lt_zero _),fun b ob hb hl hrw=>?_⟩,fun K w0 φ w ac F n hI ht hd hF=>wpIn_of_rounds (key K w0 φ w ac F n hI ht hd hF)⟩,fun _ K w0 φ w ac F n hI ht hd hF=>key K w0 φ w ac F n hI ht hd hF⟩
 ·show (L.H x).length≤(L.dh d++List.replicate (L.ownB x).length Ob.dead).length
  rw[hlen,List.length_append,ok.d2,List.length_replicate];exact Nat.le_refl _
 ·exfalso
  rcases get_app hb with ⟨_,h2⟩ | ⟨_,h2⟩
  ·rw[(boxD_live (all_boxD (ok.d3 d hg) h2) hl).1]at hrw;cases hrw
  ·rw[List.getElem?_replicate]at h2
   split at h2
   ·simp only[Option.some.injEq]at h2;subst h2;cases hl
   ·cases h2
omit hN hm in
theorem Fact.tells {c:Code}{t:List Value} {H H':List Ob}{o:Out}(hf:Fact P (.code none (.loop c) ⟨t,[],⟨H,0,[]⟩⟩) o) (hg:Forgets H' H):Fact P (.code none (.loop c) ⟨t,[],⟨H',0,[]⟩⟩) o:=by
 cases o with
 | ex e s =>
  obtain ⟨h1,h2⟩:=hf
  refine ⟨fun hb=>?_,fun hb K w0 φ w a F n hI ht hd hF=>h2 (Nat.zero_le _) K w0 φ w a F n (hg.inv hI) ht hd hF⟩
  obtain ⟨hp,hh⟩:=h1 (Nat.zero_le _)
  refine ⟨⟨hp.base,?_,fun b hb=>absurd hb (Nat.not_lt_zero _),fun b ob hx hl hr=>?_⟩,fun K w0 φ w a F n hI ht hd hF=>hh K w0 φ w a F n (hg.inv hI) ht hd hF⟩
  ·have h3:=hp.len
   have h4:=hg.len
   show H'.length≤_
   rw[h4];exact h3
  ·exact hg.ro hr (hp.ro b ob hx hl hr)
 | _=>exact absurd hf.1 (by intro h;exact h)
theorem LoopS.known {L:LoopS X D}(ok:L.OkS) {a:Ans}(hk:Known P a) {n:Nat}{rd:X→RT (Sum X D)}
  (hr:∀x j,L.good x→evC P a.c n (L.headS x j) (kS L.N L.M L.S L.pick L.Bs L.z L.q)=(rd x).out L.encS) {c0:Code} (dec:Task→Option (Code×X)) (alt:X→List Value→AT)
  (hd:∀t c x,dec t=some (c,x)→c=c0→∃T H',t=.code none (.loop L.c) ⟨T,[],⟨H',0,[]⟩⟩∧Forgets H' (L.H x)∧T.length=L.N∧∀kv∈L.S.zip (L.sl x),lget T kv.1=kv.2)
  (ha:∀x j o,(alt x j).out=some o→L.good x∧∃d,loopR rd x=some d∧o=L.tailS x d j) :
  ∃J:Task→List Value,Known P (loopAns c0 dec alt J):=by
 classical
 let good:Task→List Value→Prop:=fun t j=>∀c x d,dec t=some (c,x)→c=c0→L.good x→loopR rd x=some d→Fact P t (L.tailS x d j)
 have hex:∀t,∃j,good t j:=by
  intro t
  cases hdt:dec t with
  | none=>exact ⟨[],fun c x d h=>by rw[hdt]at h;cases h⟩
  | some cx =>
   obtain ⟨c,x⟩:=cx
   by_cases hc:c=c0
   ·by_cases hx:L.good x
    ·cases hl:loopR rd x with
     | none=>exact ⟨[],fun c' x' d h _ _ hr=>by rw[hdt]at h;cases h;rw[hl]at hr;cases hr⟩
     | some d =>
      obtain ⟨T,H',rfl,hg,hT,hS⟩:=hd t c x hdt hc;obtain ⟨m,hm'⟩:=loopR_some hl;obtain ⟨j,hj⟩:=LoopS.fact hN hm ok hk hr hm' hx hT hS
      exact ⟨j,fun c' x' d' h _ _ hr=>by rw[hdt]at h;cases h;rw[hl]at hr;cases hr;exact hj.tells hg⟩
    ·exact ⟨[],fun c' x' d h _ h' _=>by rw[hdt]at h;cases h;exact absurd h' hx⟩
   ·exact ⟨[],fun c' x' d h h' _ _=>by rw[hdt]at h;cases h;exact absurd h' hc⟩
 refine ⟨fun t=>Classical.choose (hex t),?_⟩
 intro t at' o ht ho
 cases hdt:dec t with
 | none=>simp only[loopAns,hdt]at ht;cases ht
 | some cx =>
  obtain ⟨c,x⟩:=cx;simp only[loopAns,hdt,Option.some.injEq]at ht;subst ht;simp only[AT.out]at ho;obtain ⟨h1,h2⟩:=cond_some ho;obtain ⟨hx,d,h3,rfl⟩:=ha x _ o h2;exact Classical.choose_spec (hex t) c x d hdt (eqCode_eq h1) hx h3
omit hN hm in
theorem Fact.rebase {c:Code}{t T:List Value}{H H1:List Ob}{e:Ex}{b:Nat}{w:List Nat}(hf:Fact P (.code none (.loop c) ⟨t,[],⟨H,0,[]⟩⟩) (.ex e ⟨T,[],⟨H1,0,[]⟩⟩)) :
  Fact P (.code none (.loop c) ⟨t,[],⟨H,b,w⟩⟩) (.ex e ⟨T,[],⟨H1,b,List.range H.length++w⟩⟩):=by
 obtain ⟨h1,h2⟩:=hf;obtain ⟨hp,hh⟩:=h1 (Nat.zero_le _)
 refine ⟨fun hb=>⟨⟨rfl,hp.len,fun k hk hn=>?_,hp.ro⟩,hh⟩,fun hb=>h2 (Nat.zero_le _)⟩
 exact absurd (List.mem_append_left w (List.mem_range.2 (Nat.lt_of_lt_of_le hk hb))) hn
def LoopS.tailB (L:LoopS X D)(x:X)(d:D)(j:List Value)(b:Nat)(w:List Nat):Out:=.ex (L.ex d) ⟨sets (junkF L.N j) ((L.pick (L.ex d)).zip (L.dv d)),[],⟨L.dh d++List.replicate (L.ownB x).length .dead,b,List.range (L.M+(L.ownB x).length)++w⟩⟩
theorem LoopS.knownB {L:LoopS X D}(ok:L.OkS) {a:Ans}(hk:Known P a) {n:Nat}{rd:X→RT (Sum X D)}
  (hr:∀x j,L.good x→evC P a.c n (L.headS x j) (kS L.N L.M L.S L.pick L.Bs L.z L.q)=(rd x).out L.encS) {c0:Code} (bs:X→Nat) (ws:X→List Nat) (dec:Task→Option (Code×X)) (alt:X→List Value→AT)
  (hd:∀t c x,dec t=some (c,x)→c=c0→∃T H',t=.code none (.loop L.c) ⟨T,[],⟨H',bs x,ws x⟩⟩∧Forgets H' (L.H x)∧T.length=L.N∧∀kv∈L.S.zip (L.sl x),lget T kv.1=kv.2)
  (ha:∀x j o,(alt x j).out=some o→L.good x∧∃d,loopR rd x=some d∧o=L.tailB x d j (bs x) (ws x)) :
  ∃J:Task→List Value,Known P (loopAns c0 dec alt J):=by
 classical
 let good:Task→List Value→Prop:=fun t j=>∀c x d,dec t=some (c,x)→c=c0→L.good x→loopR rd x=some d→Fact P t (L.tailB x d j (bs x) (ws x))
 have hex:∀t,∃j,good t j:=by
  intro t
  cases hdt:dec t with
  | none=>exact ⟨[],fun c x d h=>by rw[hdt]at h;cases h⟩
  | some cx =>
   obtain ⟨c,x⟩:=cx
   by_cases hc:c=c0
   ·by_cases hx:L.good x
    ·cases hl:loopR rd x with
     | none=>exact ⟨[],fun c' x' d h _ _ hr=>by rw[hdt]at h;cases h;rw[hl]at hr;cases hr⟩
     | some d =>
      obtain ⟨T,H',rfl,hg,hT,hS⟩:=hd t c x hdt hc;obtain ⟨m,hm'⟩:=loopR_some hl;obtain ⟨j,hj⟩:=LoopS.fact hN hm ok hk hr hm' hx hT hS
      refine ⟨j,fun c' x' d' h _ _ hr=>?_⟩
      rw[hdt]at h;cases h;rw[hl]at hr;cases hr;have:=Fact.rebase (b:=bs x) (w:=ws x) (hj.tells hg)
      have hlen:H'.length=L.M+(L.ownB x).length:=by rw[hg.len];unfold LoopS.H;rw[List.length_append,ok.h1]
      rw[hlen]at this;exact this
    ·exact ⟨[],fun c' x' d h _ h' _=>by rw[hdt]at h;cases h;exact absurd h' hx⟩
   ·exact ⟨[],fun c' x' d h h' _ _=>by rw[hdt]at h;cases h;exact absurd h' hc⟩
 refine ⟨fun t=>Classical.choose (hex t),?_⟩
 intro t at' o ht ho
 cases hdt:dec t with
 | none=>simp only[loopAns,hdt]at ht;cases ht
 | some cx =>
  obtain ⟨c,x⟩:=cx;simp only[loopAns,hdt,Option.some.injEq]at ht;subst ht;simp only[AT.out]at ho;obtain ⟨h1,h2⟩:=cond_some ho;obtain ⟨hx,d,h3,rfl⟩:=ha x _ o h2;exact Classical.choose_spec (hex t) c x d hdt (eqCode_eq h1) hx h3
end
end
end
end Go.Gi
