/- Part 8 of the texts below the claim. Conditions: none. -/
import Derived.Test.YtmppkpdoonljpaaMg7
set_option linter.unusedVariables false
set_option linter.unusedSimpArgs false
namespace Go.Proofs.Ytmppkpdoonljpaa
open Go.Gi Go.RowKit Go.Proofs.Ytmppkpdoonljpaa.Old
noncomputable section
set_option maxRecDepth 100000
set_option maxHeartbeats 4000000
structure R97 where
  r0:Bool
structure A97 where
  a0:Int
def rt97 (a0:Int):RT R97 :=
  .br (F58_ok a0 (-100000000:Int) (100000000:Int)) (.leaf ⟨(F58_0 a0 (-100000000:Int) (100000000:Int))⟩) (.no)
def en97 (r:R97):Value:=(.bool r.r0)
theorem T97  (a0:Int):evC Try.prog (Ans.c p58) 60 (.call 97 ⟨[(.int .i64 a0)]⟩ ⟨[],0,[]⟩) (frzK [0])=(rt97 a0).out (fun r=>.ret (en97 r) ⟨[],0,[]⟩):=by kernel_rfl
def F97 (a0:Int):Option R97:=(rt97 a0).val
section
variable (a0:Int)
def F97_ok:Bool:=(F97 a0).isSome
def F97_0:Bool:=match F97 a0 with | some r=>r.r0 | none=>false
end
def dec97:Task→Option (A97×Hp)
  | .call g ⟨[(.int .i64 a0)]⟩ h=>(match Nat.beq g 97 with | true=>some (⟨a0⟩,h) | false=>none)
  | _=>none
def alt97 (x:A97)(h:Hp):AT:=.br (F97_ok x.a0) (.leaf (.ret (.bool (F97_0 x.a0)) h)) .no
def p97:Ans:=fnAns dec97 alt97
theorem ha97:∀(x:A97) (h:Hp)(o:Out),(alt97 x h).out=some o→∃r,(rt97 x.a0).val=some r∧o=.ret (en97 r) h:=by
  intro x h o e
  unfold alt97 at e
  simp only [AT.out]at e
  obtain ⟨g,e⟩:=cond_some e
  unfold F97_ok at g
  obtain ⟨r,hF⟩:=Option.isSome_iff_exists.1 g
  have hv:F97 x.a0=(rt97 x.a0).val:=by delta F97;exact rfl
  refine ⟨r,hv.symm.trans hF,?_⟩
  simp only [Option.some.injEq]at e
  rw [← e]
  have k0:F97_0 x.a0=r.r0:=by
    show (match F97 x.a0 with | some r=>r.r0 | none=>false)=r.r0
    rw [hF]
  rw [k0]<;>rfl
theorem hd97:∀(t:Task) (x:A97)(h:Hp),dec97 t=some (x,h)→t=.call 97 ⟨[(.int .i64 x.a0)]⟩ h:=by
  intro t x h e
  unfold dec97 at e
  split at e
  case h_2=>cases e
  split at e
  case h_2=>cases e
  rename_i hg
  simp only [Option.some.injEq,Prod.mk.injEq]at e
  obtain ⟨rfl,rfl⟩:=e
  rw [Nat.eq_of_beq_eq_true hg]
theorem known97:Known Try.prog p97:=by
  exact Known.fn noNG mixed known58 (n:=60) (zs:=[0]) 97 (fun x:A97=>[(.int .i64 x.a0)]) (fun x=>rt97 x.a0) en97 (fun x=>T97  x.a0) (fun x=>rfl) dec97 alt97 hd97 ha97
structure X59_0 where
  v0:Array Value
  v1:Nat
  v2:Nat
  v3:Int
  v4:Int
  v5:ByteArray
  v6:Int
  v7:Int
  v8:Int
  v9:Int
  v10:Int
inductive D59_0 where
  | k0 (d0:Int) (d1:ByteArray) (d2:Int) (d3:Int) (d4:Int) (d5:Int) (d6:Int)
  | k1 (d0:ByteArray) (d1:Int) (d2:Int) (d3:Int) (d4:Int) (d5:Int)
def Lp59_0:LoopOf X59_0 D59_0 where
  c:=(theLoop Try.prog 59 0)
  N:=51
  M:=1
  S:=[2,11,12,13]
  sl:=fun x=>[(Value.pointer (Option.some (Addr.mk 0 0 Option.none))),(lstV x.v0 x.v1 x.v2 6),(.int .i64 x.v3),(.int .i64 x.v4)]
  hp:=fun x=>[.cells ⟨[(.string x.v5),(.int .i64 x.v6),(.int .i64 x.v7),(.int .i64 x.v8),(.int .i64 x.v9),(.int .i64 x.v10)]⟩ false]
  ex:=fun d=>match d with | .k0 ..=>.ret | .k1 ..=>.exit 0
  pick:=fun e=>match e with | .ret=>[4] | .exit 0=>[2] | _=>[]
  dv:=fun d=>match d with | .k0 d0 d1 d2 d3 d4 d5 d6=>[(.int .i64 d0)] | .k1 d0 d1 d2 d3 d4 d5=>[(Value.pointer (Option.some (Addr.mk 0 0 Option.none)))]
  dh:=fun d=>match d with | .k0 d0 d1 d2 d3 d4 d5 d6=>[.cells ⟨[(.string d1),(.int .i64 d2),(.int .i64 d3),(.int .i64 d4),(.int .i64 d5),(.int .i64 d6)]⟩ false] | .k1 d0 d1 d2 d3 d4 d5=>[.cells ⟨[(.string d0),(.int .i64 d1),(.int .i64 d2),(.int .i64 d3),(.int .i64 d4),(.int .i64 d5)]⟩ false]
theorem ok59_0:Lp59_0.Ok:=⟨fun x=>rfl,fun x=>rfl,fun x=>rfl,fun x=>rfl,fun d=>by cases d<;>rfl,fun d=>by cases d<;>rfl,fun d=>by cases d<;>rfl,fun d=>by cases d<;>(intro h;cases h),fun d=>by cases d<;>rfl,fun d=>by cases d<;>rfl⟩
def rd59_0 (x:X59_0):RT (Sum X59_0 D59_0):=match x with
  | ⟨v0,v1,v2,v3,v4,v5,v6,v7,v8,v9,v10⟩ =>
     .br (decide (v4<v3)) (.br (and (decide ((0:Int)≤v4)) (decide (v4<(Int.ofNat v2)))) (.br (rdOk v0 [Leaf.str,(Leaf.int .i64),(Leaf.int .i64),(Leaf.int .i64),(Leaf.int .i64),(Leaf.int .i64)] (v1+((Int.toNat v4)*6))) (.br (strEq (getStr v0 (v1+((Int.toNat v4)*6))) v5) (.leaf (.inr (.k0 ((5:Int)) (v5) (v6) (v7) (v8) (v9) (v10)))) (.leaf (.inl ⟨v0,v1,v2,v3,(IntKind.wrap .i64 (v4+(1:Int))),v5,v6,v7,v8,v9,v10⟩))) (.no)) (.no)) (.leaf (.inr (.k1 (v5) (v6) (v7) (v8) (v9) (v10))))
theorem T59_0  (y:List Value) (v0:Array Value) (v1:Nat) (v2:Nat) (v3:Int) (v4:Int) (v5:ByteArray) (v6:Int) (v7:Int) (v8:Int) (v9:Int) (v10:Int):evC Try.prog (Ans.c (p58.or (p96.or p97))) 60 (.code none (theLoop Try.prog 59 0) ⟨sets (junkF 51 y) [(2,(Value.pointer (Option.some (Addr.mk 0 0 Option.none)))),(11,(lstV v0 v1 v2 6)),(12,(.int .i64 v3)),(13,(.int .i64 v4))],[],⟨[.cells ⟨[(.string v5),(.int .i64 v6),(.int .i64 v7),(.int .i64 v8),(.int .i64 v9),(.int .i64 v10)]⟩ false],0,[]⟩⟩) (sumK 1 51 Lp59_0.pk)=(rd59_0 ⟨v0,v1,v2,v3,v4,v5,v6,v7,v8,v9,v10⟩).out Lp59_0.enc:=by kernel_rfl
def L59_0 (x:X59_0):Option D59_0:=loopR rd59_0 x
section
variable (x:X59_0)
def L59_0_k0:Bool:=match L59_0 x with | some (.k0 ..)=>true | _=>false
def Qc0:Int:=match L59_0 x with | some (.k0 d _ _ _ _ _ _)=>d | _=>0
def Qc1:ByteArray:=match L59_0 x with | some (.k0 _ d _ _ _ _ _)=>d | _=>ByteArray.empty
def Qc2:Int:=match L59_0 x with | some (.k0 _ _ d _ _ _ _)=>d | _=>0
def Qc3:Int:=match L59_0 x with | some (.k0 _ _ _ d _ _ _)=>d | _=>0
def Qc4:Int:=match L59_0 x with | some (.k0 _ _ _ _ d _ _)=>d | _=>0
def Qc5:Int:=match L59_0 x with | some (.k0 _ _ _ _ _ d _)=>d | _=>0
def Qc6:Int:=match L59_0 x with | some (.k0 _ _ _ _ _ _ d)=>d | _=>0
def L59_0_k1:Bool:=match L59_0 x with | some (.k1 ..)=>true | _=>false
def Qd0:ByteArray:=match L59_0 x with | some (.k1 d _ _ _ _ _)=>d | _=>ByteArray.empty
def Qd1:Int:=match L59_0 x with | some (.k1 _ d _ _ _ _)=>d | _=>0
def Qd2:Int:=match L59_0 x with | some (.k1 _ _ d _ _ _)=>d | _=>0
def Qd3:Int:=match L59_0 x with | some (.k1 _ _ _ d _ _)=>d | _=>0
def Qd4:Int:=match L59_0 x with | some (.k1 _ _ _ _ d _)=>d | _=>0
def Qd5:Int:=match L59_0 x with | some (.k1 _ _ _ _ _ d)=>d | _=>0
end
def dec59_0:Task→Option (Code×X59_0)
  | .code none (.loop code) ⟨t,[],⟨[.cells ⟨[(.string v5),(.int .i64 v6),(.int .i64 v7),(.int .i64 v8),(.int .i64 v9),(.int .i64 v10)]⟩ false],0,[]⟩⟩ =>
    (match Nat.beq (firstReg code) 4,lenIs t 51,lget t 2,lget t 11,lget t 12,lget t 13 with
    | true,true,(Value.pointer (Option.some (Addr.mk 0 0 Option.none))),(.func (.via 0 ⟨[]⟩ 0 true) v0 ⟨[.slice (some ⟨0,v1,none⟩) v2 6]⟩),(.int .i64 v3),(.int .i64 v4)=>some (code,⟨v0,v1,v2,v3,v4,v5,v6,v7,v8,v9,v10⟩)
    | _,_,_,_,_,_=>none)
  | _=>none
def alt59_0 (x:X59_0)(j:List Value):AT:=.br (L59_0_k0 x) (loopEnd 51 (.ret) [(4,(.int .i64 (Qc0 x)))] ⟨[.cells ⟨[(.string (Qc1 x)),(.int .i64 (Qc2 x)),(.int .i64 (Qc3 x)),(.int .i64 (Qc4 x)),(.int .i64 (Qc5 x)),(.int .i64 (Qc6 x))]⟩ false],0,[]⟩ j) (.br (L59_0_k1 x) (loopEnd 51 (.exit 0) [(2,(Value.pointer (Option.some (Addr.mk 0 0 Option.none))))] ⟨[.cells ⟨[(.string (Qd0 x)),(.int .i64 (Qd1 x)),(.int .i64 (Qd2 x)),(.int .i64 (Qd3 x)),(.int .i64 (Qd4 x)),(.int .i64 (Qd5 x))]⟩ false],0,[]⟩ j) (.no))
def la59_0 (J:Task→List Value):Ans:=loopAns Lp59_0.c dec59_0 alt59_0 J
theorem ha59_0:∀(x:X59_0) (j:List Value)(o:Out),(alt59_0 x j).out=some o→∃d,loopR rd59_0 x=some d∧o=Lp59_0.tail d j:=by
  intro x j o h
  unfold alt59_0 at h
  cases hL:L59_0 x with
  | none=>simp [L59_0_k0,Qc0,Qc1,Qc2,Qc3,Qc4,Qc5,Qc6,L59_0_k1,Qd0,Qd1,Qd2,Qd3,Qd4,Qd5,hL,AT.out]at h
  | some d =>
    refine ⟨d,hL,?_⟩
    cases d<;>(simp only [L59_0_k0,Qc0,Qc1,Qc2,Qc3,Qc4,Qc5,Qc6,L59_0_k1,Qd0,Qd1,Qd2,Qd3,Qd4,Qd5,hL,AT.out,loopEnd,cond_true,cond_false,Option.some.injEq]at h;rw [← h];rfl)
theorem hd59_0:∀(t:Task) (c:Code)(x:X59_0),dec59_0 t=some (c,x)→c=Lp59_0.c→∃T,t=.code none (.loop Lp59_0.c) ⟨T,[],⟨Lp59_0.hp x,0,[]⟩⟩∧T.length=Lp59_0.N∧∀kv∈Lp59_0.S.zip (Lp59_0.sl x),lget T kv.1=kv.2:=by
  intro t c x h hc
  unfold dec59_0 at h
  split at h
  case h_2=>cases h
  split at h
  case h_2=>cases h
  simp only [Option.some.injEq,Prod.mk.injEq]at h
  obtain ⟨rfl,rfl⟩:=h
  subst hc
  refine ⟨_,rfl,lenIs_eq _ _ (by assumption),?_⟩
  intro kv hk
  simp only [Lp59_0,List.zip_cons_cons,List.zip_nil_right,List.mem_cons,List.not_mem_nil,or_false]at hk
  rcases hk with rfl | rfl | rfl | rfl<;>assumption
theorem kl59_0:∃J,Known Try.prog (la59_0 J):=by
  exact LoopOf.known noNG mixed ok59_0 (by decide) (by decide) (Known.or known58 (Known.or known96 known97)) (n:=60) (rd:=rd59_0) (fun x j=>T59_0  j x.v0 x.v1 x.v2 x.v3 x.v4 x.v5 x.v6 x.v7 x.v8 x.v9 x.v10) dec59_0 alt59_0 hd59_0 ha59_0
structure R59 where
  r0:Int
structure A59 where
  a0:ByteArray
  a1:Int
  a2:Int
  a3:Int
  a4:Int
  a5:Int
  a6:Array Value
  a7:Nat
  a8:Nat
def rt59 (a0:ByteArray)(a1:Int)(a2:Int)(a3:Int)(a4:Int)(a5:Int)(a6:Array Value)(a7:Nat)(a8:Nat):RT R59 :=
  .br (F96_ok a0) (.br (not (F96_0 a0)) (.leaf ⟨(6:Int)⟩)
   (.sw (eqCode (Lp59_0.c) (Lp59_0.c)) true (by simp only [eqCode_self,arrEq_self]) (.br (L59_0_k0 (X59_0.mk a6 a7 a8 (Int.ofNat a8) (0:Int) a0 a1 a2 a3 a4 a5)) (.leaf ⟨(Qc0 (X59_0.mk a6 a7 a8 (Int.ofNat a8) (0:Int) a0 a1 a2 a3 a4 a5))⟩) (.br (L59_0_k1 (X59_0.mk a6 a7 a8 (Int.ofNat a8) (0:Int) a0 a1 a2 a3 a4 a5)) (.br (F97_ok (Qd1 (X59_0.mk a6 a7 a8 (Int.ofNat a8) (0:Int) a0 a1 a2 a3 a4 a5))) (.br (not (F97_0 (Qd1 (X59_0.mk a6 a7 a8 (Int.ofNat a8) (0:Int) a0 a1 a2 a3 a4 a5)))) (.leaf ⟨(7:Int)⟩) (.br (F97_ok (Qd2 (X59_0.mk a6 a7 a8 (Int.ofNat a8) (0:Int) a0 a1 a2 a3 a4 a5))) (.br (not (F97_0 (Qd2 (X59_0.mk a6 a7 a8 (Int.ofNat a8) (0:Int) a0 a1 a2 a3 a4 a5)))) (.leaf ⟨(7:Int)⟩) (.br (F58_ok (Qd3 (X59_0.mk a6 a7 a8 (Int.ofNat a8) (0:Int) a0 a1 a2 a3 a4 a5)) (0:Int) (10000000:Int)) (.br (not (F58_0 (Qd3 (X59_0.mk a6 a7 a8 (Int.ofNat a8) (0:Int) a0 a1 a2 a3 a4 a5)) (0:Int) (10000000:Int))) (.leaf ⟨(7:Int)⟩)
     (.br (F58_ok (Qd4 (X59_0.mk a6 a7 a8 (Int.ofNat a8) (0:Int) a0 a1 a2 a3 a4 a5)) (0:Int) (10000:Int)) (.br (not (F58_0 (Qd4 (X59_0.mk a6 a7 a8 (Int.ofNat a8) (0:Int) a0 a1 a2 a3 a4 a5)) (0:Int) (10000:Int))) (.leaf ⟨(7:Int)⟩) (.br (F58_ok (Qd5 (X59_0.mk a6 a7 a8 (Int.ofNat a8) (0:Int) a0 a1 a2 a3 a4 a5)) (0:Int) (600:Int)) (.br (not (F58_0 (Qd5 (X59_0.mk a6 a7 a8 (Int.ofNat a8) (0:Int) a0 a1 a2 a3 a4 a5)) (0:Int) (600:Int))) (.leaf ⟨(7:Int)⟩) (.leaf ⟨(0:Int)⟩)) (.no))) (.no))) (.no))) (.no))) (.no)) (.no))) (.no))) (.no)
def en59 (r:R59):Value:=(.int .i64 r.r0)
theorem T59 (J0:Task→List Value)(a0:ByteArray)(a1:Int)(a2:Int)(a3:Int)(a4:Int)(a5:Int)(a6:Array Value)(a7:Nat)(a8:Nat):evC Try.prog (Ans.c (p58.or (p96.or (p97.or (la59_0 J0))))) 60 (.call 59 ⟨[(.agg ⟨[(.string a0),(.int .i64 a1),(.int .i64 a2),(.int .i64 a3),(.int .i64 a4),(.int .i64 a5)]⟩),(lstV a6 a7 a8 6)]⟩ ⟨[],0,[]⟩) (frzK [0])=(rt59 a0 a1 a2 a3 a4 a5 a6 a7 a8).out (fun r=>.ret (en59 r) ⟨[],0,[]⟩):=by kernel_rfl
def F59 (a0:ByteArray)(a1:Int)(a2:Int)(a3:Int)(a4:Int)(a5:Int)(a6:Array Value)(a7:Nat)(a8:Nat):Option R59:=(rt59 a0 a1 a2 a3 a4 a5 a6 a7 a8).val
section
variable (a0:ByteArray) (a1:Int) (a2:Int) (a3:Int) (a4:Int) (a5:Int) (a6:Array Value) (a7:Nat) (a8:Nat)
def F59_ok:Bool:=(F59 a0 a1 a2 a3 a4 a5 a6 a7 a8).isSome
def F59_0:Int:=match F59 a0 a1 a2 a3 a4 a5 a6 a7 a8 with | some r=>r.r0 | none=>0
end
def dec59:Task→Option (A59×Hp)
  | .call g ⟨[(.agg ⟨[(.string a0),(.int .i64 a1),(.int .i64 a2),(.int .i64 a3),(.int .i64 a4),(.int .i64 a5)]⟩),(.func (.via 0 ⟨[]⟩ 0 true) a6 ⟨[.slice (some ⟨0,a7,none⟩) a8 6]⟩)]⟩ h=>(match Nat.beq g 59 with | true=>some (⟨a0,a1,a2,a3,a4,a5,a6,a7,a8⟩,h) | false=>none)
  | _=>none
def alt59 (x:A59)(h:Hp):AT:=.br (F59_ok x.a0 x.a1 x.a2 x.a3 x.a4 x.a5 x.a6 x.a7 x.a8) (.leaf (.ret (.int .i64 (F59_0 x.a0 x.a1 x.a2 x.a3 x.a4 x.a5 x.a6 x.a7 x.a8)) h)) .no
def p59:Ans:=fnAns dec59 alt59
theorem ha59:∀(x:A59) (h:Hp)(o:Out),(alt59 x h).out=some o→∃r,(rt59 x.a0 x.a1 x.a2 x.a3 x.a4 x.a5 x.a6 x.a7 x.a8).val=some r∧o=.ret (en59 r) h:=by
  intro x h o e
  unfold alt59 at e
  simp only [AT.out]at e
  obtain ⟨g,e⟩:=cond_some e
  unfold F59_ok at g
  obtain ⟨r,hF⟩:=Option.isSome_iff_exists.1 g
  have hv:F59 x.a0 x.a1 x.a2 x.a3 x.a4 x.a5 x.a6 x.a7 x.a8=(rt59 x.a0 x.a1 x.a2 x.a3 x.a4 x.a5 x.a6 x.a7 x.a8).val:=by delta F59;exact rfl
  refine ⟨r,hv.symm.trans hF,?_⟩
  simp only [Option.some.injEq]at e
  rw [← e]
  have k0:F59_0 x.a0 x.a1 x.a2 x.a3 x.a4 x.a5 x.a6 x.a7 x.a8=r.r0:=by
    show (match F59 x.a0 x.a1 x.a2 x.a3 x.a4 x.a5 x.a6 x.a7 x.a8 with | some r=>r.r0 | none=>0)=r.r0
    rw [hF]
  rw [k0]<;>rfl
theorem hd59:∀(t:Task) (x:A59)(h:Hp),dec59 t=some (x,h)→t=.call 59 ⟨[(.agg ⟨[(.string x.a0),(.int .i64 x.a1),(.int .i64 x.a2),(.int .i64 x.a3),(.int .i64 x.a4),(.int .i64 x.a5)]⟩),(lstV x.a6 x.a7 x.a8 6)]⟩ h:=by
  intro t x h e
  unfold dec59 at e
  split at e
  case h_2=>cases e
  split at e
  case h_2=>cases e
  rename_i hg
  simp only [Option.some.injEq,Prod.mk.injEq]at e
  obtain ⟨rfl,rfl⟩:=e
  rw [Nat.eq_of_beq_eq_true hg]
theorem known59:Known Try.prog p59:=by
  obtain ⟨J0,hJ0⟩:=kl59_0
  exact Known.fn noNG mixed (Known.or known58 (Known.or known96 (Known.or known97 hJ0))) (n:=60) (zs:=[0]) 59 (fun x:A59=>[(.agg ⟨[(.string x.a0),(.int .i64 x.a1),(.int .i64 x.a2),(.int .i64 x.a3),(.int .i64 x.a4),(.int .i64 x.a5)]⟩),(lstV x.a6 x.a7 x.a8 6)]) (fun x=>rt59 x.a0 x.a1 x.a2 x.a3 x.a4 x.a5 x.a6 x.a7 x.a8) en59 (fun x=>T59 J0 x.a0 x.a1 x.a2 x.a3 x.a4 x.a5 x.a6 x.a7 x.a8) (fun x=>rfl) dec59 alt59 hd59 ha59
structure R98 where
  r0:Bool
structure A98 where
  a0:Int
def rt98 (a0:Int):RT R98 :=
  .br (F58_ok a0 (-2000000000:Int) (2000000000:Int)) (.leaf ⟨(F58_0 a0 (-2000000000:Int) (2000000000:Int))⟩) (.no)
def en98 (r:R98):Value:=(.bool r.r0)
theorem T98  (a0:Int):evC Try.prog (Ans.c p58) 60 (.call 98 ⟨[(.int .i64 a0)]⟩ ⟨[],0,[]⟩) (frzK [0])=(rt98 a0).out (fun r=>.ret (en98 r) ⟨[],0,[]⟩):=by kernel_rfl
def F98 (a0:Int):Option R98:=(rt98 a0).val
section
variable (a0:Int)
def F98_ok:Bool:=(F98 a0).isSome
def F98_0:Bool:=match F98 a0 with | some r=>r.r0 | none=>false
end
def dec98:Task→Option (A98×Hp)
  | .call g ⟨[(.int .i64 a0)]⟩ h=>(match Nat.beq g 98 with | true=>some (⟨a0⟩,h) | false=>none)
  | _=>none
def alt98 (x:A98)(h:Hp):AT:=.br (F98_ok x.a0) (.leaf (.ret (.bool (F98_0 x.a0)) h)) .no
def p98:Ans:=fnAns dec98 alt98
theorem ha98:∀(x:A98) (h:Hp)(o:Out),(alt98 x h).out=some o→∃r,(rt98 x.a0).val=some r∧o=.ret (en98 r) h:=by
  intro x h o e
  unfold alt98 at e
  simp only [AT.out]at e
  obtain ⟨g,e⟩:=cond_some e
  unfold F98_ok at g
  obtain ⟨r,hF⟩:=Option.isSome_iff_exists.1 g
  have hv:F98 x.a0=(rt98 x.a0).val:=by delta F98;exact rfl
  refine ⟨r,hv.symm.trans hF,?_⟩
  simp only [Option.some.injEq]at e
  rw [← e]
  have k0:F98_0 x.a0=r.r0:=by
    show (match F98 x.a0 with | some r=>r.r0 | none=>false)=r.r0
    rw [hF]
  rw [k0]<;>rfl
theorem hd98:∀(t:Task) (x:A98)(h:Hp),dec98 t=some (x,h)→t=.call 98 ⟨[(.int .i64 x.a0)]⟩ h:=by
  intro t x h e
  unfold dec98 at e
  split at e
  case h_2=>cases e
  split at e
  case h_2=>cases e
  rename_i hg
  simp only [Option.some.injEq,Prod.mk.injEq]at e
  obtain ⟨rfl,rfl⟩:=e
  rw [Nat.eq_of_beq_eq_true hg]
theorem known98:Known Try.prog p98:=by
  exact Known.fn noNG mixed known58 (n:=60) (zs:=[0]) 98 (fun x:A98=>[(.int .i64 x.a0)]) (fun x=>rt98 x.a0) en98 (fun x=>T98  x.a0) (fun x=>rfl) dec98 alt98 hd98 ha98
structure X60_0 where
  v0:Array Value
  v1:Nat
  v2:Nat
  v3:Int
  v4:Int
  v5:Int
  v6:Int
  v7:Int
  v8:Array Value
  v9:Nat
  v10:Nat
  v11:Array Value
  v12:Nat
  v13:Nat
  v14:Int
  v15:Int
  v16:Int
  v17:Int
  v18:Int
inductive D60_0 where
  | k0 (d0:Int) (d1:Int) (d2:Int) (d3:Int) (d4:Array Value) (d5:Nat) (d6:Nat) (d7:Array Value) (d8:Nat) (d9:Nat) (d10:Int) (d11:Int) (d12:Int) (d13:Int) (d14:Int)
  | k1 (d0:Int) (d1:Int) (d2:Int) (d3:Array Value) (d4:Nat) (d5:Nat) (d6:Array Value) (d7:Nat) (d8:Nat) (d9:Int) (d10:Int) (d11:Int) (d12:Int) (d13:Int)
def Lp60_0:LoopOf X60_0 D60_0 where
  c:=(theLoop Try.prog 60 0)
  N:=62
  M:=2
  S:=[5,43,44,45]
  sl:=fun x=>[(Value.pointer (Option.some (Addr.mk 1 0 Option.none))),(lstV x.v0 x.v1 x.v2 5),(.int .i64 x.v3),(.int .i64 x.v4)]
  hp:=fun x=>[.cells ⟨[(.int .i64 x.v5),(.int .i64 x.v6),(.int .i64 x.v7),(lstV x.v8 x.v9 x.v10 6),(lstV x.v11 x.v12 x.v13 5)]⟩ false,.cells ⟨[(.int .i64 x.v14),(.int .i64 x.v15),(.int .i64 x.v16),(.int .i64 x.v17),(.int .i64 x.v18)]⟩ false]
  ex:=fun d=>match d with | .k0 ..=>.ret | .k1 ..=>.exit 1
  pick:=fun e=>match e with | .ret=>[4] | .exit 1=>[] | _=>[]
  dv:=fun d=>match d with | .k0 d0 d1 d2 d3 d4 d5 d6 d7 d8 d9 d10 d11 d12 d13 d14=>[(.int .i64 d0)] | .k1 d0 d1 d2 d3 d4 d5 d6 d7 d8 d9 d10 d11 d12 d13=>[]
  dh:=fun d=>match d with | .k0 d0 d1 d2 d3 d4 d5 d6 d7 d8 d9 d10 d11 d12 d13 d14=>[.cells ⟨[(.int .i64 d1),(.int .i64 d2),(.int .i64 d3),(lstV d4 d5 d6 6),(lstV d7 d8 d9 5)]⟩ false,.cells ⟨[(.int .i64 d10),(.int .i64 d11),(.int .i64 d12),(.int .i64 d13),(.int .i64 d14)]⟩ false] | .k1 d0 d1 d2 d3 d4 d5 d6 d7 d8 d9 d10 d11 d12 d13=>[.cells ⟨[(.int .i64 d0),(.int .i64 d1),(.int .i64 d2),(lstV d3 d4 d5 6),(lstV d6 d7 d8 5)]⟩ false,.cells ⟨[(.int .i64 d9),(.int .i64 d10),(.int .i64 d11),(.int .i64 d12),(.int .i64 d13)]⟩ false]
theorem ok60_0:Lp60_0.Ok:=⟨fun x=>rfl,fun x=>rfl,fun x=>rfl,fun x=>rfl,fun d=>by cases d<;>rfl,fun d=>by cases d<;>rfl,fun d=>by cases d<;>rfl,fun d=>by cases d<;>(intro h;cases h),fun d=>by cases d<;>rfl,fun d=>by cases d<;>rfl⟩
def rd60_0 (x:X60_0):RT (Sum X60_0 D60_0):=match x with
  | ⟨v0,v1,v2,v3,v4,v5,v6,v7,v8,v9,v10,v11,v12,v13,v14,v15,v16,v17,v18⟩ =>
     .br (decide (v4<v3)) (.br (and (decide ((0:Int)≤v4)) (decide (v4<(Int.ofNat v2)))) (.br (rdOk v0 [(Leaf.int .i64),(Leaf.int .i64),(Leaf.int .i64),(Leaf.int .i64),(Leaf.int .i64)] (v1+((Int.toNat v4)*5))) (.br (decide ((getInt v0 (v1+((Int.toNat v4)*5)))=v14)) (.br (decide ((getInt v0 ((v1+((Int.toNat v4)*5))+1))=v15)) (.leaf (.inr (.k0 ((5:Int)) (v5) (v6) (v7) (v8) (v9) (v10) (v11) (v12) (v13) (v14) (v15) (v16) (v17) (v18)))) (.leaf (.inl ⟨v0,v1,v2,v3,(IntKind.wrap .i64 (v4+(1:Int))),v5,v6,v7,v8,v9,v10,v11,v12,v13,v14,v15,v16,v17,v18⟩))) (.leaf (.inl ⟨v0,v1,v2,v3,(IntKind.wrap .i64 (v4+(1:Int))),v5,v6,v7,v8,v9,v10,v11,v12,v13,v14,v15,v16,v17,v18⟩))) (.no)) (.no)) (.leaf (.inr (.k1 (v5) (v6) (v7) (v8) (v9) (v10) (v11) (v12) (v13) (v14) (v15) (v16) (v17) (v18))))
theorem T60_0  (y:List Value) (v0:Array Value) (v1:Nat) (v2:Nat) (v3:Int) (v4:Int) (v5:Int) (v6:Int) (v7:Int) (v8:Array Value) (v9:Nat) (v10:Nat) (v11:Array Value) (v12:Nat) (v13:Nat) (v14:Int) (v15:Int) (v16:Int) (v17:Int) (v18:Int):evC Try.prog (Ans.c (p58.or p98)) 60 (.code none (theLoop Try.prog 60 0) ⟨sets (junkF 62 y) [(5,(Value.pointer (Option.some (Addr.mk 1 0 Option.none)))),(43,(lstV v0 v1 v2 5)),(44,(.int .i64 v3)),(45,(.int .i64 v4))],[],⟨[.cells ⟨[(.int .i64 v5),(.int .i64 v6),(.int .i64 v7),(lstV v8 v9 v10 6),(lstV v11 v12 v13 5)]⟩ false,.cells ⟨[(.int .i64 v14),(.int .i64 v15),(.int .i64 v16),(.int .i64 v17),(.int .i64 v18)]⟩ false],0,[]⟩⟩) (sumK 2 62 Lp60_0.pk)=(rd60_0 ⟨v0,v1,v2,v3,v4,v5,v6,v7,v8,v9,v10,v11,v12,v13,v14,v15,v16,v17,v18⟩).out Lp60_0.enc:=by kernel_rfl
def L60_0 (x:X60_0):Option D60_0:=loopR rd60_0 x
section
variable (x:X60_0)
def L60_0_k0:Bool:=match L60_0 x with | some (.k0 ..)=>true | _=>false
def Qe0:Int:=match L60_0 x with | some (.k0 d _ _ _ _ _ _ _ _ _ _ _ _ _ _)=>d | _=>0
def Qe1:Int:=match L60_0 x with | some (.k0 _ d _ _ _ _ _ _ _ _ _ _ _ _ _)=>d | _=>0
def Qe2:Int:=match L60_0 x with | some (.k0 _ _ d _ _ _ _ _ _ _ _ _ _ _ _)=>d | _=>0
def Qe3:Int:=match L60_0 x with | some (.k0 _ _ _ d _ _ _ _ _ _ _ _ _ _ _)=>d | _=>0
def Qe4:Array Value:=match L60_0 x with | some (.k0 _ _ _ _ d _ _ _ _ _ _ _ _ _ _)=>d | _=>#[]
def Qe5:Nat:=match L60_0 x with | some (.k0 _ _ _ _ _ d _ _ _ _ _ _ _ _ _)=>d | _=>0
def Qe6:Nat:=match L60_0 x with | some (.k0 _ _ _ _ _ _ d _ _ _ _ _ _ _ _)=>d | _=>0
def Qe7:Array Value:=match L60_0 x with | some (.k0 _ _ _ _ _ _ _ d _ _ _ _ _ _ _)=>d | _=>#[]
def Qe8:Nat:=match L60_0 x with | some (.k0 _ _ _ _ _ _ _ _ d _ _ _ _ _ _)=>d | _=>0
def Qe9:Nat:=match L60_0 x with | some (.k0 _ _ _ _ _ _ _ _ _ d _ _ _ _ _)=>d | _=>0
def Qe10:Int:=match L60_0 x with | some (.k0 _ _ _ _ _ _ _ _ _ _ d _ _ _ _)=>d | _=>0
def Qe11:Int:=match L60_0 x with | some (.k0 _ _ _ _ _ _ _ _ _ _ _ d _ _ _)=>d | _=>0
def Qe12:Int:=match L60_0 x with | some (.k0 _ _ _ _ _ _ _ _ _ _ _ _ d _ _)=>d | _=>0
def Qe13:Int:=match L60_0 x with | some (.k0 _ _ _ _ _ _ _ _ _ _ _ _ _ d _)=>d | _=>0
def Qe14:Int:=match L60_0 x with | some (.k0 _ _ _ _ _ _ _ _ _ _ _ _ _ _ d)=>d | _=>0
def L60_0_k1:Bool:=match L60_0 x with | some (.k1 ..)=>true | _=>false
def Qf0:Int:=match L60_0 x with | some (.k1 d _ _ _ _ _ _ _ _ _ _ _ _ _)=>d | _=>0
def Qf1:Int:=match L60_0 x with | some (.k1 _ d _ _ _ _ _ _ _ _ _ _ _ _)=>d | _=>0
def Qf2:Int:=match L60_0 x with | some (.k1 _ _ d _ _ _ _ _ _ _ _ _ _ _)=>d | _=>0
def Qf3:Array Value:=match L60_0 x with | some (.k1 _ _ _ d _ _ _ _ _ _ _ _ _ _)=>d | _=>#[]
def Qf4:Nat:=match L60_0 x with | some (.k1 _ _ _ _ d _ _ _ _ _ _ _ _ _)=>d | _=>0
def Qf5:Nat:=match L60_0 x with | some (.k1 _ _ _ _ _ d _ _ _ _ _ _ _ _)=>d | _=>0
def Qf6:Array Value:=match L60_0 x with | some (.k1 _ _ _ _ _ _ d _ _ _ _ _ _ _)=>d | _=>#[]
def Qf7:Nat:=match L60_0 x with | some (.k1 _ _ _ _ _ _ _ d _ _ _ _ _ _)=>d | _=>0
def Qf8:Nat:=match L60_0 x with | some (.k1 _ _ _ _ _ _ _ _ d _ _ _ _ _)=>d | _=>0
def Qf9:Int:=match L60_0 x with | some (.k1 _ _ _ _ _ _ _ _ _ d _ _ _ _)=>d | _=>0
def Qf10:Int:=match L60_0 x with | some (.k1 _ _ _ _ _ _ _ _ _ _ d _ _ _)=>d | _=>0
def Qf11:Int:=match L60_0 x with | some (.k1 _ _ _ _ _ _ _ _ _ _ _ d _ _)=>d | _=>0
def Qf12:Int:=match L60_0 x with | some (.k1 _ _ _ _ _ _ _ _ _ _ _ _ d _)=>d | _=>0
def Qf13:Int:=match L60_0 x with | some (.k1 _ _ _ _ _ _ _ _ _ _ _ _ _ d)=>d | _=>0
end
def dec60_0:Task→Option (Code×X60_0)
  | .code none (.loop code) ⟨t,[],⟨[.cells ⟨[(.int .i64 v5),(.int .i64 v6),(.int .i64 v7),(.func (.via 0 ⟨[]⟩ 0 true) v8 ⟨[.slice (some ⟨0,v9,none⟩) v10 6]⟩),(.func (.via 0 ⟨[]⟩ 0 true) v11 ⟨[.slice (some ⟨0,v12,none⟩) v13 5]⟩)]⟩ false,.cells ⟨[(.int .i64 v14),(.int .i64 v15),(.int .i64 v16),(.int .i64 v17),(.int .i64 v18)]⟩ false],0,[]⟩⟩ =>
    (match Nat.beq (firstReg code) 10,lenIs t 62,lget t 5,lget t 43,lget t 44,lget t 45 with
    | true,true,(Value.pointer (Option.some (Addr.mk 1 0 Option.none))),(.func (.via 0 ⟨[]⟩ 0 true) v0 ⟨[.slice (some ⟨0,v1,none⟩) v2 5]⟩),(.int .i64 v3),(.int .i64 v4)=>some (code,⟨v0,v1,v2,v3,v4,v5,v6,v7,v8,v9,v10,v11,v12,v13,v14,v15,v16,v17,v18⟩)
    | _,_,_,_,_,_=>none)
  | _=>none
def alt60_0 (x:X60_0)(j:List Value):AT:=.br (L60_0_k0 x) (loopEnd 62 (.ret) [(4,(.int .i64 (Qe0 x)))] ⟨[.cells ⟨[(.int .i64 (Qe1 x)),(.int .i64 (Qe2 x)),(.int .i64 (Qe3 x)),(lstV (Qe4 x) (Qe5 x) (Qe6 x) 6),(lstV (Qe7 x) (Qe8 x) (Qe9 x) 5)]⟩ false,.cells ⟨[(.int .i64 (Qe10 x)),(.int .i64 (Qe11 x)),(.int .i64 (Qe12 x)),(.int .i64 (Qe13 x)),(.int .i64 (Qe14 x))]⟩ false],0,[]⟩ j) (.br (L60_0_k1 x) (loopEnd 62 (.exit 1) [] ⟨[.cells ⟨[(.int .i64 (Qf0 x)),(.int .i64 (Qf1 x)),(.int .i64 (Qf2 x)),(lstV (Qf3 x) (Qf4 x) (Qf5 x) 6),(lstV (Qf6 x) (Qf7 x) (Qf8 x) 5)]⟩ false,.cells ⟨[(.int .i64 (Qf9 x)),(.int .i64 (Qf10 x)),(.int .i64 (Qf11 x)),(.int .i64 (Qf12 x)),(.int .i64 (Qf13 x))]⟩ false],0,[]⟩ j) (.no))
def la60_0 (J:Task→List Value):Ans:=loopAns Lp60_0.c dec60_0 alt60_0 J
theorem ha60_0:∀(x:X60_0) (j:List Value)(o:Out),(alt60_0 x j).out=some o→∃d,loopR rd60_0 x=some d∧o=Lp60_0.tail d j:=by
  intro x j o h
  unfold alt60_0 at h
  cases hL:L60_0 x with
  | none=>simp [L60_0_k0,Qe0,Qe1,Qe2,Qe3,Qe4,Qe5,Qe6,Qe7,Qe8,Qe9,Qe10,Qe11,Qe12,Qe13,Qe14,L60_0_k1,Qf0,Qf1,Qf2,Qf3,Qf4,Qf5,Qf6,Qf7,Qf8,Qf9,Qf10,Qf11,Qf12,Qf13,hL,AT.out]at h
  | some d =>
    refine ⟨d,hL,?_⟩
    cases d<;>(simp only [L60_0_k0,Qe0,Qe1,Qe2,Qe3,Qe4,Qe5,Qe6,Qe7,Qe8,Qe9,Qe10,Qe11,Qe12,Qe13,Qe14,L60_0_k1,Qf0,Qf1,Qf2,Qf3,Qf4,Qf5,Qf6,Qf7,Qf8,Qf9,Qf10,Qf11,Qf12,Qf13,hL,AT.out,loopEnd,cond_true,cond_false,Option.some.injEq]at h;rw [← h];rfl)
theorem hd60_0:∀(t:Task) (c:Code)(x:X60_0),dec60_0 t=some (c,x)→c=Lp60_0.c→∃T,t=.code none (.loop Lp60_0.c) ⟨T,[],⟨Lp60_0.hp x,0,[]⟩⟩∧T.length=Lp60_0.N∧∀kv∈Lp60_0.S.zip (Lp60_0.sl x),lget T kv.1=kv.2:=by
  intro t c x h hc
  unfold dec60_0 at h
  split at h
  case h_2=>cases h
  split at h
  case h_2=>cases h
  simp only [Option.some.injEq,Prod.mk.injEq]at h
  obtain ⟨rfl,rfl⟩:=h
  subst hc
  refine ⟨_,rfl,lenIs_eq _ _ (by assumption),?_⟩
  intro kv hk
  simp only [Lp60_0,List.zip_cons_cons,List.zip_nil_right,List.mem_cons,List.not_mem_nil,or_false]at hk
  rcases hk with rfl | rfl | rfl | rfl<;>assumption
theorem kl60_0:∃J,Known Try.prog (la60_0 J):=by
  exact LoopOf.known noNG mixed ok60_0 (by decide) (by decide) (Known.or known58 known98) (n:=60) (rd:=rd60_0) (fun x j=>T60_0  j x.v0 x.v1 x.v2 x.v3 x.v4 x.v5 x.v6 x.v7 x.v8 x.v9 x.v10 x.v11 x.v12 x.v13 x.v14 x.v15 x.v16 x.v17 x.v18) dec60_0 alt60_0 hd60_0 ha60_0
structure R60 where
  r0:Int
structure A60 where
  a0:Int
  a1:Int
  a2:Int
  a3:Array Value
  a4:Nat
  a5:Nat
  a6:Array Value
  a7:Nat
  a8:Nat
  a9:Int
def rt60 (a0:Int)(a1:Int)(a2:Int)(a3:Array Value)(a4:Nat)(a5:Nat)(a6:Array Value)(a7:Nat)(a8:Nat)(a9:Int):RT R60 :=
  .br (and (decide ((0:Int)≤a9)) (decide (a9<(Int.ofNat a8)))) (.br (rdOk a6 [(Leaf.int .i64),(Leaf.int .i64),(Leaf.int .i64),(Leaf.int .i64),(Leaf.int .i64)] (a7+((Int.toNat a9)*5))) (.br (F58_ok (getInt a6 (a7+((Int.toNat a9)*5))) (0:Int) (IntKind.wrap .i64 ((Int.ofNat a5)-(1:Int)))) (.br (not (F58_0 (getInt a6 (a7+((Int.toNat a9)*5))) (0:Int) (IntKind.wrap .i64 ((Int.ofNat a5)-(1:Int))))) (.leaf ⟨(4:Int)⟩) (.br (F58_ok (getInt a6 ((a7+((Int.toNat a9)*5))+1)) a0 (100000:Int)) (.br (not (F58_0 (getInt a6 ((a7+((Int.toNat a9)*5))+1)) a0 (100000:Int))) (.leaf ⟨(7:Int)⟩) (.br (F98_ok (getInt a6 (((a7+((Int.toNat a9)*5))+1)+1))) (.br (not (F98_0 (getInt a6 (((a7+((Int.toNat a9)*5))+1)+1)))) (.leaf ⟨(7:Int)⟩) (.br (F98_ok (getInt a6 ((((a7+((Int.toNat a9)*5))+1)+1)+1))) (.br (not (F98_0 (getInt a6 ((((a7+((Int.toNat a9)*5))+1)+1)+1)))) (.leaf ⟨(7:Int)⟩) (.br (F98_ok (getInt a6 (((((a7+((Int.toNat a9)*5))+1)+1)+1)+1)))
     (.br (not (F98_0 (getInt a6 (((((a7+((Int.toNat a9)*5))+1)+1)+1)+1)))) (.leaf ⟨(7:Int)⟩) (.br (and true (and (decide ((0:Int)≤a9)) (and (decide (0≤(Int.toNat a9))) (decide ((Int.toNat a9)≤a8)))))
              (.sw (eqCode (Lp60_0.c) (Lp60_0.c)) true (by simp only [eqCode_self,arrEq_self]) (.br (L60_0_k0 (X60_0.mk a6 (a7+0) ((Int.toNat a9)-0) (Int.ofNat ((Int.toNat a9)-0)) (0:Int) a0 a1 a2 a3 a4 a5 a6 a7 a8 (getInt a6 (a7+((Int.toNat a9)*5))) (getInt a6 ((a7+((Int.toNat a9)*5))+1)) (getInt a6 (((a7+((Int.toNat a9)*5))+1)+1)) (getInt a6 ((((a7+((Int.toNat a9)*5))+1)+1)+1)) (getInt a6 (((((a7+((Int.toNat a9)*5))+1)+1)+1)+1)))) (.leaf ⟨(Qe0 (X60_0.mk a6 (a7+0) ((Int.toNat a9)-0) (Int.ofNat ((Int.toNat a9)-0)) (0:Int) a0 a1 a2 a3 a4 a5 a6 a7 a8 (getInt a6 (a7+((Int.toNat a9)*5))) (getInt a6 ((a7+((Int.toNat a9)*5))+1)) (getInt a6 (((a7+((Int.toNat a9)*5))+1)+1)) (getInt a6 ((((a7+((Int.toNat a9)*5))+1)+1)+1)) (getInt a6 (((((a7+((Int.toNat a9)*5))+1)+1)+1)+1))))⟩)
     (.br (L60_0_k1 (X60_0.mk a6 (a7+0) ((Int.toNat a9)-0) (Int.ofNat ((Int.toNat a9)-0)) (0:Int) a0 a1 a2 a3 a4 a5 a6 a7 a8 (getInt a6 (a7+((Int.toNat a9)*5))) (getInt a6 ((a7+((Int.toNat a9)*5))+1)) (getInt a6 (((a7+((Int.toNat a9)*5))+1)+1)) (getInt a6 ((((a7+((Int.toNat a9)*5))+1)+1)+1)) (getInt a6 (((((a7+((Int.toNat a9)*5))+1)+1)+1)+1)))) (.leaf ⟨(0:Int)⟩) (.no))) (.no)) (.no))) (.no))) (.no))) (.no))) (.no))) (.no)) (.no)) (.no)
def en60 (r:R60):Value:=(.int .i64 r.r0)
theorem T60 (J0:Task→List Value)(a0:Int)(a1:Int)(a2:Int)(a3:Array Value)(a4:Nat)(a5:Nat)(a6:Array Value)(a7:Nat)(a8:Nat)(a9:Int):evC Try.prog (Ans.c (p58.or (p98.or (la60_0 J0)))) 60 (.call 60 ⟨[(.agg ⟨[(.int .i64 a0),(.int .i64 a1),(.int .i64 a2),(lstV a3 a4 a5 6),(lstV a6 a7 a8 5)]⟩),(.int .i64 a9)]⟩ ⟨[],0,[]⟩) (frzK [0])=(rt60 a0 a1 a2 a3 a4 a5 a6 a7 a8 a9).out (fun r=>.ret (en60 r) ⟨[],0,[]⟩):=by kernel_rfl
def F60 (a0:Int)(a1:Int)(a2:Int)(a3:Array Value)(a4:Nat)(a5:Nat)(a6:Array Value)(a7:Nat)(a8:Nat)(a9:Int):Option R60:=(rt60 a0 a1 a2 a3 a4 a5 a6 a7 a8 a9).val
section
variable (a0:Int) (a1:Int) (a2:Int) (a3:Array Value) (a4:Nat) (a5:Nat) (a6:Array Value) (a7:Nat) (a8:Nat) (a9:Int)
def F60_ok:Bool:=(F60 a0 a1 a2 a3 a4 a5 a6 a7 a8 a9).isSome
def F60_0:Int:=match F60 a0 a1 a2 a3 a4 a5 a6 a7 a8 a9 with | some r=>r.r0 | none=>0
end
def dec60:Task→Option (A60×Hp)
  | .call g ⟨[(.agg ⟨[(.int .i64 a0),(.int .i64 a1),(.int .i64 a2),(.func (.via 0 ⟨[]⟩ 0 true) a3 ⟨[.slice (some ⟨0,a4,none⟩) a5 6]⟩),(.func (.via 0 ⟨[]⟩ 0 true) a6 ⟨[.slice (some ⟨0,a7,none⟩) a8 5]⟩)]⟩),(.int .i64 a9)]⟩ h=>(match Nat.beq g 60 with | true=>some (⟨a0,a1,a2,a3,a4,a5,a6,a7,a8,a9⟩,h) | false=>none)
  | _=>none
def alt60 (x:A60)(h:Hp):AT:=.br (F60_ok x.a0 x.a1 x.a2 x.a3 x.a4 x.a5 x.a6 x.a7 x.a8 x.a9) (.leaf (.ret (.int .i64 (F60_0 x.a0 x.a1 x.a2 x.a3 x.a4 x.a5 x.a6 x.a7 x.a8 x.a9)) h)) .no
def p60:Ans:=fnAns dec60 alt60
theorem ha60:∀(x:A60) (h:Hp)(o:Out),(alt60 x h).out=some o→∃r,(rt60 x.a0 x.a1 x.a2 x.a3 x.a4 x.a5 x.a6 x.a7 x.a8 x.a9).val=some r∧o=.ret (en60 r) h:=by
  intro x h o e
  unfold alt60 at e
  simp only [AT.out]at e
  obtain ⟨g,e⟩:=cond_some e
  unfold F60_ok at g
  obtain ⟨r,hF⟩:=Option.isSome_iff_exists.1 g
  have hv:F60 x.a0 x.a1 x.a2 x.a3 x.a4 x.a5 x.a6 x.a7 x.a8 x.a9=(rt60 x.a0 x.a1 x.a2 x.a3 x.a4 x.a5 x.a6 x.a7 x.a8 x.a9).val:=by delta F60;exact rfl
  refine ⟨r,hv.symm.trans hF,?_⟩
  simp only [Option.some.injEq]at e
  rw [← e]
  have k0:F60_0 x.a0 x.a1 x.a2 x.a3 x.a4 x.a5 x.a6 x.a7 x.a8 x.a9=r.r0:=by
    show (match F60 x.a0 x.a1 x.a2 x.a3 x.a4 x.a5 x.a6 x.a7 x.a8 x.a9 with | some r=>r.r0 | none=>0)=r.r0
    rw [hF]
  rw [k0]<;>rfl
theorem hd60:∀(t:Task) (x:A60)(h:Hp),dec60 t=some (x,h)→t=.call 60 ⟨[(.agg ⟨[(.int .i64 x.a0),(.int .i64 x.a1),(.int .i64 x.a2),(lstV x.a3 x.a4 x.a5 6),(lstV x.a6 x.a7 x.a8 5)]⟩),(.int .i64 x.a9)]⟩ h:=by
  intro t x h e
  unfold dec60 at e
  split at e
  case h_2=>cases e
  split at e
  case h_2=>cases e
  rename_i hg
  simp only [Option.some.injEq,Prod.mk.injEq]at e
  obtain ⟨rfl,rfl⟩:=e
  rw [Nat.eq_of_beq_eq_true hg]
theorem known60:Known Try.prog p60:=by
  obtain ⟨J0,hJ0⟩:=kl60_0
  exact Known.fn noNG mixed (Known.or known58 (Known.or known98 hJ0)) (n:=60) (zs:=[0]) 60 (fun x:A60=>[(.agg ⟨[(.int .i64 x.a0),(.int .i64 x.a1),(.int .i64 x.a2),(lstV x.a3 x.a4 x.a5 6),(lstV x.a6 x.a7 x.a8 5)]⟩),(.int .i64 x.a9)]) (fun x=>rt60 x.a0 x.a1 x.a2 x.a3 x.a4 x.a5 x.a6 x.a7 x.a8 x.a9) en60 (fun x=>T60 J0 x.a0 x.a1 x.a2 x.a3 x.a4 x.a5 x.a6 x.a7 x.a8 x.a9) (fun x=>rfl) dec60 alt60 hd60 ha60
structure X20_0 where
  v0:Array Value
  v1:Nat
  v2:Nat
  v3:Int
  v4:Int
  v5:Int
  v6:Int
  v7:Int
  v8:Array Value
  v9:Nat
  v10:Nat
  v11:Array Value
  v12:Nat
  v13:Nat
inductive D20_0 where
  | k0 (d0:Int) (d1:Int) (d2:Int) (d3:Int) (d4:Int) (d5:Int) (d6:Array Value) (d7:Nat) (d8:Nat) (d9:Array Value) (d10:Nat) (d11:Nat)
  | k1 (d0:Int) (d1:Int) (d2:Int) (d3:Array Value) (d4:Nat) (d5:Nat) (d6:Array Value) (d7:Nat) (d8:Nat)
def Lp20_0:LoopOf X20_0 D20_0 where
  c:=(theLoop Try.prog 20 0)
  N:=65
  M:=1
  S:=[1,33,34,35]
  sl:=fun x=>[(Value.pointer (Option.some (Addr.mk 0 0 Option.none))),(lstV x.v0 x.v1 x.v2 6),(.int .i64 x.v3),(.int .i64 x.v4)]
  hp:=fun x=>[.cells ⟨[(.int .i64 x.v5),(.int .i64 x.v6),(.int .i64 x.v7),(lstV x.v8 x.v9 x.v10 6),(lstV x.v11 x.v12 x.v13 5)]⟩ false]
  ex:=fun d=>match d with | .k0 ..=>.ret | .k1 ..=>.exit 1
  pick:=fun e=>match e with | .ret=>[2,3,4] | .exit 1=>[1] | _=>[]
  dv:=fun d=>match d with | .k0 d0 d1 d2 d3 d4 d5 d6 d7 d8 d9 d10 d11=>[(.int .i64 d0),(.int .i64 d1),(.int .i64 d2)] | .k1 d0 d1 d2 d3 d4 d5 d6 d7 d8=>[(Value.pointer (Option.some (Addr.mk 0 0 Option.none)))]
  dh:=fun d=>match d with | .k0 d0 d1 d2 d3 d4 d5 d6 d7 d8 d9 d10 d11=>[.cells ⟨[(.int .i64 d3),(.int .i64 d4),(.int .i64 d5),(lstV d6 d7 d8 6),(lstV d9 d10 d11 5)]⟩ false] | .k1 d0 d1 d2 d3 d4 d5 d6 d7 d8=>[.cells ⟨[(.int .i64 d0),(.int .i64 d1),(.int .i64 d2),(lstV d3 d4 d5 6),(lstV d6 d7 d8 5)]⟩ false]
theorem ok20_0:Lp20_0.Ok:=⟨fun x=>rfl,fun x=>rfl,fun x=>rfl,fun x=>rfl,fun d=>by cases d<;>rfl,fun d=>by cases d<;>rfl,fun d=>by cases d<;>rfl,fun d=>by cases d<;>(intro h;cases h),fun d=>by cases d<;>rfl,fun d=>by cases d<;>rfl⟩
def rd20_0 (x:X20_0):RT (Sum X20_0 D20_0):=match x with
  | ⟨v0,v1,v2,v3,v4,v5,v6,v7,v8,v9,v10,v11,v12,v13⟩ =>
     .br (decide (v4<v3)) (.br (and (decide ((0:Int)≤v4)) (decide (v4<(Int.ofNat v2)))) (.br (rdOk v0 [Leaf.str,(Leaf.int .i64),(Leaf.int .i64),(Leaf.int .i64),(Leaf.int .i64),(Leaf.int .i64)] (v1+((Int.toNat v4)*6))) (.br (and true (and (decide ((0:Int)≤v4)) (and (decide (0≤(Int.toNat v4))) (decide ((Int.toNat v4)≤v10))))) (.br (F59_ok (getStr v0 (v1+((Int.toNat v4)*6))) (getInt v0 ((v1+((Int.toNat v4)*6))+1)) (getInt v0 (((v1+((Int.toNat v4)*6))+1)+1)) (getInt v0 ((((v1+((Int.toNat v4)*6))+1)+1)+1)) (getInt v0 (((((v1+((Int.toNat v4)*6))+1)+1)+1)+1)) (getInt v0 ((((((v1+((Int.toNat v4)*6))+1)+1)+1)+1)+1)) (v8) (v9+0) ((Int.toNat v4)-0))
     (.br (not (decide ((F59_0 (getStr v0 (v1+((Int.toNat v4)*6))) (getInt v0 ((v1+((Int.toNat v4)*6))+1)) (getInt v0 (((v1+((Int.toNat v4)*6))+1)+1)) (getInt v0 ((((v1+((Int.toNat v4)*6))+1)+1)+1)) (getInt v0 (((((v1+((Int.toNat v4)*6))+1)+1)+1)+1)) (getInt v0 ((((((v1+((Int.toNat v4)*6))+1)+1)+1)+1)+1)) (v8) (v9+0) ((Int.toNat v4)-0))=(0:Int)))) (.leaf (.inr (.k0 ((2:Int)) (v4) ((F59_0 (getStr v0 (v1+((Int.toNat v4)*6))) (getInt v0 ((v1+((Int.toNat v4)*6))+1)) (getInt v0 (((v1+((Int.toNat v4)*6))+1)+1)) (getInt v0 ((((v1+((Int.toNat v4)*6))+1)+1)+1)) (getInt v0 (((((v1+((Int.toNat v4)*6))+1)+1)+1)+1)) (getInt v0 ((((((v1+((Int.toNat v4)*6))+1)+1)+1)+1)+1)) (v8) (v9+0) ((Int.toNat v4)-0))) (v5) (v6) (v7) (v8) (v9) (v10) (v11) (v12) (v13)))) (.leaf (.inl ⟨v0,v1,v2,v3,(IntKind.wrap .i64 (v4+(1:Int))),v5,v6,v7,v8,v9,v10,v11,v12,v13⟩))) (.no)) (.no)) (.no)) (.no)) (.leaf (.inr (.k1 (v5) (v6) (v7) (v8) (v9) (v10) (v11) (v12) (v13))))
theorem T20_0  (y:List Value) (v0:Array Value) (v1:Nat) (v2:Nat) (v3:Int) (v4:Int) (v5:Int) (v6:Int) (v7:Int) (v8:Array Value) (v9:Nat) (v10:Nat) (v11:Array Value) (v12:Nat) (v13:Nat):evC Try.prog (Ans.c (p57.or (p58.or (p59.or p60)))) 60 (.code none (theLoop Try.prog 20 0) ⟨sets (junkF 65 y) [(1,(Value.pointer (Option.some (Addr.mk 0 0 Option.none)))),(33,(lstV v0 v1 v2 6)),(34,(.int .i64 v3)),(35,(.int .i64 v4))],[],⟨[.cells ⟨[(.int .i64 v5),(.int .i64 v6),(.int .i64 v7),(lstV v8 v9 v10 6),(lstV v11 v12 v13 5)]⟩ false],0,[]⟩⟩) (sumK 1 65 Lp20_0.pk)=(rd20_0 ⟨v0,v1,v2,v3,v4,v5,v6,v7,v8,v9,v10,v11,v12,v13⟩).out Lp20_0.enc:=by kernel_rfl
def L20_0 (x:X20_0):Option D20_0:=loopR rd20_0 x
section
variable (x:X20_0)
def L20_0_k0:Bool:=match L20_0 x with | some (.k0 ..)=>true | _=>false
def Qg0:Int:=match L20_0 x with | some (.k0 d _ _ _ _ _ _ _ _ _ _ _)=>d | _=>0
def Qg1:Int:=match L20_0 x with | some (.k0 _ d _ _ _ _ _ _ _ _ _ _)=>d | _=>0
def Qg2:Int:=match L20_0 x with | some (.k0 _ _ d _ _ _ _ _ _ _ _ _)=>d | _=>0
def Qg3:Int:=match L20_0 x with | some (.k0 _ _ _ d _ _ _ _ _ _ _ _)=>d | _=>0
def Qg4:Int:=match L20_0 x with | some (.k0 _ _ _ _ d _ _ _ _ _ _ _)=>d | _=>0
def Qg5:Int:=match L20_0 x with | some (.k0 _ _ _ _ _ d _ _ _ _ _ _)=>d | _=>0
def Qg6:Array Value:=match L20_0 x with | some (.k0 _ _ _ _ _ _ d _ _ _ _ _)=>d | _=>#[]
def Qg7:Nat:=match L20_0 x with | some (.k0 _ _ _ _ _ _ _ d _ _ _ _)=>d | _=>0
def Qg8:Nat:=match L20_0 x with | some (.k0 _ _ _ _ _ _ _ _ d _ _ _)=>d | _=>0
def Qg9:Array Value:=match L20_0 x with | some (.k0 _ _ _ _ _ _ _ _ _ d _ _)=>d | _=>#[]
def Qg10:Nat:=match L20_0 x with | some (.k0 _ _ _ _ _ _ _ _ _ _ d _)=>d | _=>0
def Qg11:Nat:=match L20_0 x with | some (.k0 _ _ _ _ _ _ _ _ _ _ _ d)=>d | _=>0
def L20_0_k1:Bool:=match L20_0 x with | some (.k1 ..)=>true | _=>false
def Qh0:Int:=match L20_0 x with | some (.k1 d _ _ _ _ _ _ _ _)=>d | _=>0
def Qh1:Int:=match L20_0 x with | some (.k1 _ d _ _ _ _ _ _ _)=>d | _=>0
def Qh2:Int:=match L20_0 x with | some (.k1 _ _ d _ _ _ _ _ _)=>d | _=>0
def Qh3:Array Value:=match L20_0 x with | some (.k1 _ _ _ d _ _ _ _ _)=>d | _=>#[]
def Qh4:Nat:=match L20_0 x with | some (.k1 _ _ _ _ d _ _ _ _)=>d | _=>0
def Qh5:Nat:=match L20_0 x with | some (.k1 _ _ _ _ _ d _ _ _)=>d | _=>0
def Qh6:Array Value:=match L20_0 x with | some (.k1 _ _ _ _ _ _ d _ _)=>d | _=>#[]
def Qh7:Nat:=match L20_0 x with | some (.k1 _ _ _ _ _ _ _ d _)=>d | _=>0
def Qh8:Nat:=match L20_0 x with | some (.k1 _ _ _ _ _ _ _ _ d)=>d | _=>0
end
def dec20_0:Task→Option (Code×X20_0)
  | .code none (.loop code) ⟨t,[],⟨[.cells ⟨[(.int .i64 v5),(.int .i64 v6),(.int .i64 v7),(.func (.via 0 ⟨[]⟩ 0 true) v8 ⟨[.slice (some ⟨0,v9,none⟩) v10 6]⟩),(.func (.via 0 ⟨[]⟩ 0 true) v11 ⟨[.slice (some ⟨0,v12,none⟩) v13 5]⟩)]⟩ false],0,[]⟩⟩ =>
    (match Nat.beq (firstReg code) 9,lenIs t 65,lget t 1,lget t 33,lget t 34,lget t 35 with
    | true,true,(Value.pointer (Option.some (Addr.mk 0 0 Option.none))),(.func (.via 0 ⟨[]⟩ 0 true) v0 ⟨[.slice (some ⟨0,v1,none⟩) v2 6]⟩),(.int .i64 v3),(.int .i64 v4)=>some (code,⟨v0,v1,v2,v3,v4,v5,v6,v7,v8,v9,v10,v11,v12,v13⟩)
    | _,_,_,_,_,_=>none)
  | _=>none
def alt20_0 (x:X20_0)(j:List Value):AT:=.br (L20_0_k0 x) (loopEnd 65 (.ret) [(2,(.int .i64 (Qg0 x))),(3,(.int .i64 (Qg1 x))),(4,(.int .i64 (Qg2 x)))] ⟨[.cells ⟨[(.int .i64 (Qg3 x)),(.int .i64 (Qg4 x)),(.int .i64 (Qg5 x)),(lstV (Qg6 x) (Qg7 x) (Qg8 x) 6),(lstV (Qg9 x) (Qg10 x) (Qg11 x) 5)]⟩ false],0,[]⟩ j) (.br (L20_0_k1 x) (loopEnd 65 (.exit 1) [(1,(Value.pointer (Option.some (Addr.mk 0 0 Option.none))))] ⟨[.cells ⟨[(.int .i64 (Qh0 x)),(.int .i64 (Qh1 x)),(.int .i64 (Qh2 x)),(lstV (Qh3 x) (Qh4 x) (Qh5 x) 6),(lstV (Qh6 x) (Qh7 x) (Qh8 x) 5)]⟩ false],0,[]⟩ j) (.no))
def la20_0 (J:Task→List Value):Ans:=loopAns Lp20_0.c dec20_0 alt20_0 J
theorem ha20_0:∀(x:X20_0) (j:List Value)(o:Out),(alt20_0 x j).out=some o→∃d,loopR rd20_0 x=some d∧o=Lp20_0.tail d j:=by
  intro x j o h
  unfold alt20_0 at h
  cases hL:L20_0 x with
  | none=>simp [L20_0_k0,Qg0,Qg1,Qg2,Qg3,Qg4,Qg5,Qg6,Qg7,Qg8,Qg9,Qg10,Qg11,L20_0_k1,Qh0,Qh1,Qh2,Qh3,Qh4,Qh5,Qh6,Qh7,Qh8,hL,AT.out]at h
  | some d =>
    refine ⟨d,hL,?_⟩
    cases d<;>(simp only [L20_0_k0,Qg0,Qg1,Qg2,Qg3,Qg4,Qg5,Qg6,Qg7,Qg8,Qg9,Qg10,Qg11,L20_0_k1,Qh0,Qh1,Qh2,Qh3,Qh4,Qh5,Qh6,Qh7,Qh8,hL,AT.out,loopEnd,cond_true,cond_false,Option.some.injEq]at h;rw [← h];rfl)
theorem hd20_0:∀(t:Task) (c:Code)(x:X20_0),dec20_0 t=some (c,x)→c=Lp20_0.c→∃T,t=.code none (.loop Lp20_0.c) ⟨T,[],⟨Lp20_0.hp x,0,[]⟩⟩∧T.length=Lp20_0.N∧∀kv∈Lp20_0.S.zip (Lp20_0.sl x),lget T kv.1=kv.2:=by
  intro t c x h hc
  unfold dec20_0 at h
  split at h
  case h_2=>cases h
  split at h
  case h_2=>cases h
  simp only [Option.some.injEq,Prod.mk.injEq]at h
  obtain ⟨rfl,rfl⟩:=h
  subst hc
  refine ⟨_,rfl,lenIs_eq _ _ (by assumption),?_⟩
  intro kv hk
  simp only [Lp20_0,List.zip_cons_cons,List.zip_nil_right,List.mem_cons,List.not_mem_nil,or_false]at hk
  rcases hk with rfl | rfl | rfl | rfl<;>assumption
theorem kl20_0:∃J,Known Try.prog (la20_0 J):=by
  exact LoopOf.known noNG mixed ok20_0 (by decide) (by decide) (Known.or known57 (Known.or known58 (Known.or known59 known60))) (n:=60) (rd:=rd20_0) (fun x j=>T20_0  j x.v0 x.v1 x.v2 x.v3 x.v4 x.v5 x.v6 x.v7 x.v8 x.v9 x.v10 x.v11 x.v12 x.v13) dec20_0 alt20_0 hd20_0 ha20_0
structure X20_1 where
  v0:Int
  v1:Int
  v2:Int
  v3:Int
  v4:Int
  v5:Array Value
  v6:Nat
  v7:Nat
  v8:Array Value
  v9:Nat
  v10:Nat
inductive D20_1 where
  | k0 (d0:Int) (d1:Int) (d2:Int) (d3:Int) (d4:Int) (d5:Int) (d6:Array Value) (d7:Nat) (d8:Nat) (d9:Array Value) (d10:Nat) (d11:Nat)
  | k1 (d0:Int) (d1:Int) (d2:Int) (d3:Array Value) (d4:Nat) (d5:Nat) (d6:Array Value) (d7:Nat) (d8:Nat)
def Lp20_1:LoopOf X20_1 D20_1 where
  c:=(theLoop Try.prog 20 1)
  N:=65
  M:=1
  S:=[1,53,54]
  sl:=fun x=>[(Value.pointer (Option.some (Addr.mk 0 0 Option.none))),(.int .i64 x.v0),(.int .i64 x.v1)]
  hp:=fun x=>[.cells ⟨[(.int .i64 x.v2),(.int .i64 x.v3),(.int .i64 x.v4),(lstV x.v5 x.v6 x.v7 6),(lstV x.v8 x.v9 x.v10 5)]⟩ false]
  ex:=fun d=>match d with | .k0 ..=>.ret | .k1 ..=>.exit 3
  pick:=fun e=>match e with | .ret=>[2,3,4] | .exit 3=>[] | _=>[]
  dv:=fun d=>match d with | .k0 d0 d1 d2 d3 d4 d5 d6 d7 d8 d9 d10 d11=>[(.int .i64 d0),(.int .i64 d1),(.int .i64 d2)] | .k1 d0 d1 d2 d3 d4 d5 d6 d7 d8=>[]
  dh:=fun d=>match d with | .k0 d0 d1 d2 d3 d4 d5 d6 d7 d8 d9 d10 d11=>[.cells ⟨[(.int .i64 d3),(.int .i64 d4),(.int .i64 d5),(lstV d6 d7 d8 6),(lstV d9 d10 d11 5)]⟩ false] | .k1 d0 d1 d2 d3 d4 d5 d6 d7 d8=>[.cells ⟨[(.int .i64 d0),(.int .i64 d1),(.int .i64 d2),(lstV d3 d4 d5 6),(lstV d6 d7 d8 5)]⟩ false]
theorem ok20_1:Lp20_1.Ok:=⟨fun x=>rfl,fun x=>rfl,fun x=>rfl,fun x=>rfl,fun d=>by cases d<;>rfl,fun d=>by cases d<;>rfl,fun d=>by cases d<;>rfl,fun d=>by cases d<;>(intro h;cases h),fun d=>by cases d<;>rfl,fun d=>by cases d<;>rfl⟩
def rd20_1 (x:X20_1):RT (Sum X20_1 D20_1):=match x with
  | ⟨v0,v1,v2,v3,v4,v5,v6,v7,v8,v9,v10⟩ =>
     .br (decide (v1<v0)) (.br (F60_ok v2 v3 v4 (v5) v6 v7 (v8) v9 v10 v1) (.br (not (decide ((F60_0 v2 v3 v4 (v5) v6 v7 (v8) v9 v10 v1)=(0:Int)))) (.leaf (.inr (.k0 ((3:Int)) (v1) ((F60_0 v2 v3 v4 (v5) v6 v7 (v8) v9 v10 v1)) (v2) (v3) (v4) (v5) (v6) (v7) (v8) (v9) (v10)))) (.leaf (.inl ⟨v0,(IntKind.wrap .i64 (v1+(1:Int))),v2,v3,v4,v5,v6,v7,v8,v9,v10⟩))) (.no)) (.leaf (.inr (.k1 (v2) (v3) (v4) (v5) (v6) (v7) (v8) (v9) (v10))))
theorem T20_1  (y:List Value) (v0:Int) (v1:Int) (v2:Int) (v3:Int) (v4:Int) (v5:Array Value) (v6:Nat) (v7:Nat) (v8:Array Value) (v9:Nat) (v10:Nat):evC Try.prog (Ans.c (p57.or (p58.or (p59.or p60)))) 60 (.code none (theLoop Try.prog 20 1) ⟨sets (junkF 65 y) [(1,(Value.pointer (Option.some (Addr.mk 0 0 Option.none)))),(53,(.int .i64 v0)),(54,(.int .i64 v1))],[],⟨[.cells ⟨[(.int .i64 v2),(.int .i64 v3),(.int .i64 v4),(lstV v5 v6 v7 6),(lstV v8 v9 v10 5)]⟩ false],0,[]⟩⟩) (sumK 1 65 Lp20_1.pk)=(rd20_1 ⟨v0,v1,v2,v3,v4,v5,v6,v7,v8,v9,v10⟩).out Lp20_1.enc:=by kernel_rfl
def L20_1 (x:X20_1):Option D20_1:=loopR rd20_1 x
section
variable (x:X20_1)
def L20_1_k0:Bool:=match L20_1 x with | some (.k0 ..)=>true | _=>false
def Qi0:Int:=match L20_1 x with | some (.k0 d _ _ _ _ _ _ _ _ _ _ _)=>d | _=>0
def Qi1:Int:=match L20_1 x with | some (.k0 _ d _ _ _ _ _ _ _ _ _ _)=>d | _=>0
def Qi2:Int:=match L20_1 x with | some (.k0 _ _ d _ _ _ _ _ _ _ _ _)=>d | _=>0
def Qi3:Int:=match L20_1 x with | some (.k0 _ _ _ d _ _ _ _ _ _ _ _)=>d | _=>0
def Qi4:Int:=match L20_1 x with | some (.k0 _ _ _ _ d _ _ _ _ _ _ _)=>d | _=>0
def Qi5:Int:=match L20_1 x with | some (.k0 _ _ _ _ _ d _ _ _ _ _ _)=>d | _=>0
def Qi6:Array Value:=match L20_1 x with | some (.k0 _ _ _ _ _ _ d _ _ _ _ _)=>d | _=>#[]
def Qi7:Nat:=match L20_1 x with | some (.k0 _ _ _ _ _ _ _ d _ _ _ _)=>d | _=>0
def Qi8:Nat:=match L20_1 x with | some (.k0 _ _ _ _ _ _ _ _ d _ _ _)=>d | _=>0
def Qi9:Array Value:=match L20_1 x with | some (.k0 _ _ _ _ _ _ _ _ _ d _ _)=>d | _=>#[]
def Qi10:Nat:=match L20_1 x with | some (.k0 _ _ _ _ _ _ _ _ _ _ d _)=>d | _=>0
def Qi11:Nat:=match L20_1 x with | some (.k0 _ _ _ _ _ _ _ _ _ _ _ d)=>d | _=>0
def L20_1_k1:Bool:=match L20_1 x with | some (.k1 ..)=>true | _=>false
def Qj0:Int:=match L20_1 x with | some (.k1 d _ _ _ _ _ _ _ _)=>d | _=>0
def Qj1:Int:=match L20_1 x with | some (.k1 _ d _ _ _ _ _ _ _)=>d | _=>0
def Qj2:Int:=match L20_1 x with | some (.k1 _ _ d _ _ _ _ _ _)=>d | _=>0
def Qj3:Array Value:=match L20_1 x with | some (.k1 _ _ _ d _ _ _ _ _)=>d | _=>#[]
def Qj4:Nat:=match L20_1 x with | some (.k1 _ _ _ _ d _ _ _ _)=>d | _=>0
def Qj5:Nat:=match L20_1 x with | some (.k1 _ _ _ _ _ d _ _ _)=>d | _=>0
def Qj6:Array Value:=match L20_1 x with | some (.k1 _ _ _ _ _ _ d _ _)=>d | _=>#[]
def Qj7:Nat:=match L20_1 x with | some (.k1 _ _ _ _ _ _ _ d _)=>d | _=>0
def Qj8:Nat:=match L20_1 x with | some (.k1 _ _ _ _ _ _ _ _ d)=>d | _=>0
end
def dec20_1:Task→Option (Code×X20_1)
  | .code none (.loop code) ⟨t,[],⟨[.cells ⟨[(.int .i64 v2),(.int .i64 v3),(.int .i64 v4),(.func (.via 0 ⟨[]⟩ 0 true) v5 ⟨[.slice (some ⟨0,v6,none⟩) v7 6]⟩),(.func (.via 0 ⟨[]⟩ 0 true) v8 ⟨[.slice (some ⟨0,v9,none⟩) v10 5]⟩)]⟩ false],0,[]⟩⟩ =>
    (match Nat.beq (firstReg code) 16,lenIs t 65,lget t 1,lget t 53,lget t 54 with
    | true,true,(Value.pointer (Option.some (Addr.mk 0 0 Option.none))),(.int .i64 v0),(.int .i64 v1)=>some (code,⟨v0,v1,v2,v3,v4,v5,v6,v7,v8,v9,v10⟩)
    | _,_,_,_,_=>none)
  | _=>none
def alt20_1 (x:X20_1)(j:List Value):AT:=.br (L20_1_k0 x) (loopEnd 65 (.ret) [(2,(.int .i64 (Qi0 x))),(3,(.int .i64 (Qi1 x))),(4,(.int .i64 (Qi2 x)))] ⟨[.cells ⟨[(.int .i64 (Qi3 x)),(.int .i64 (Qi4 x)),(.int .i64 (Qi5 x)),(lstV (Qi6 x) (Qi7 x) (Qi8 x) 6),(lstV (Qi9 x) (Qi10 x) (Qi11 x) 5)]⟩ false],0,[]⟩ j) (.br (L20_1_k1 x) (loopEnd 65 (.exit 3) [] ⟨[.cells ⟨[(.int .i64 (Qj0 x)),(.int .i64 (Qj1 x)),(.int .i64 (Qj2 x)),(lstV (Qj3 x) (Qj4 x) (Qj5 x) 6),(lstV (Qj6 x) (Qj7 x) (Qj8 x) 5)]⟩ false],0,[]⟩ j) (.no))
def la20_1 (J:Task→List Value):Ans:=loopAns Lp20_1.c dec20_1 alt20_1 J
theorem ha20_1:∀(x:X20_1) (j:List Value)(o:Out),(alt20_1 x j).out=some o→∃d,loopR rd20_1 x=some d∧o=Lp20_1.tail d j:=by
  intro x j o h
  unfold alt20_1 at h
  cases hL:L20_1 x with
  | none=>simp [L20_1_k0,Qi0,Qi1,Qi2,Qi3,Qi4,Qi5,Qi6,Qi7,Qi8,Qi9,Qi10,Qi11,L20_1_k1,Qj0,Qj1,Qj2,Qj3,Qj4,Qj5,Qj6,Qj7,Qj8,hL,AT.out]at h
  | some d =>
    refine ⟨d,hL,?_⟩
    cases d<;>(simp only [L20_1_k0,Qi0,Qi1,Qi2,Qi3,Qi4,Qi5,Qi6,Qi7,Qi8,Qi9,Qi10,Qi11,L20_1_k1,Qj0,Qj1,Qj2,Qj3,Qj4,Qj5,Qj6,Qj7,Qj8,hL,AT.out,loopEnd,cond_true,cond_false,Option.some.injEq]at h;rw [← h];rfl)
theorem hd20_1:∀(t:Task) (c:Code)(x:X20_1),dec20_1 t=some (c,x)→c=Lp20_1.c→∃T,t=.code none (.loop Lp20_1.c) ⟨T,[],⟨Lp20_1.hp x,0,[]⟩⟩∧T.length=Lp20_1.N∧∀kv∈Lp20_1.S.zip (Lp20_1.sl x),lget T kv.1=kv.2:=by
  intro t c x h hc
  unfold dec20_1 at h
  split at h
  case h_2=>cases h
  split at h
  case h_2=>cases h
  simp only [Option.some.injEq,Prod.mk.injEq]at h
  obtain ⟨rfl,rfl⟩:=h
  subst hc
  refine ⟨_,rfl,lenIs_eq _ _ (by assumption),?_⟩
  intro kv hk
  simp only [Lp20_1,List.zip_cons_cons,List.zip_nil_right,List.mem_cons,List.not_mem_nil,or_false]at hk
  rcases hk with rfl | rfl | rfl<;>assumption
theorem kl20_1:∃J,Known Try.prog (la20_1 J):=by
  exact LoopOf.known noNG mixed ok20_1 (by decide) (by decide) (Known.or known57 (Known.or known58 (Known.or known59 known60))) (n:=60) (rd:=rd20_1) (fun x j=>T20_1  j x.v0 x.v1 x.v2 x.v3 x.v4 x.v5 x.v6 x.v7 x.v8 x.v9 x.v10) dec20_1 alt20_1 hd20_1 ha20_1
structure R20 where
  r0:Int
  r1:Int
  r2:Int
structure A20 where
  a0:Int
  a1:Int
  a2:Int
  a3:Array Value
  a4:Nat
  a5:Nat
  a6:Array Value
  a7:Nat
  a8:Nat
def rt20 (a0:Int)(a1:Int)(a2:Int)(a3:Array Value)(a4:Nat)(a5:Nat)(a6:Array Value)(a7:Nat)(a8:Nat):RT R20 :=
  .br (decide ((5:Int)<(Int.ofNat a5))) (.leaf ⟨(1:Int),(0:Int),(3:Int)⟩) (.br (decide ((60:Int)<(Int.ofNat a8))) (.leaf ⟨(1:Int),(0:Int),(3:Int)⟩) (.br (F57_ok a0) (.br (not (F57_0 a0)) (.leaf ⟨(1:Int),(0:Int),(7:Int)⟩) (.br (F58_ok a1 (1:Int) (1000000:Int)) (.br (not (F58_0 a1 (1:Int) (1000000:Int))) (.leaf ⟨(1:Int),(0:Int),(7:Int)⟩) (.br (F58_ok a2 (1:Int) (1000000:Int)) (.br (not (F58_0 a2 (1:Int) (1000000:Int))) (.leaf ⟨(1:Int),(0:Int),(7:Int)⟩)
         (.sw (eqCode (Lp20_0.c) (Lp20_0.c)) true (by simp only [eqCode_self,arrEq_self]) (.br (L20_0_k0 (X20_0.mk a3 a4 a5 (Int.ofNat a5) (0:Int) a0 a1 a2 a3 a4 a5 a6 a7 a8)) (.leaf ⟨(Qg0 (X20_0.mk a3 a4 a5 (Int.ofNat a5) (0:Int) a0 a1 a2 a3 a4 a5 a6 a7 a8)),(Qg1 (X20_0.mk a3 a4 a5 (Int.ofNat a5) (0:Int) a0 a1 a2 a3 a4 a5 a6 a7 a8)),(Qg2 (X20_0.mk a3 a4 a5 (Int.ofNat a5) (0:Int) a0 a1 a2 a3 a4 a5 a6 a7 a8))⟩) (.br (L20_0_k1 (X20_0.mk a3 a4 a5 (Int.ofNat a5) (0:Int) a0 a1 a2 a3 a4 a5 a6 a7 a8))
            (.sw (eqCode (Lp20_1.c) (Lp20_1.c)) true (by simp only [eqCode_self,arrEq_self])
     (.br (L20_1_k0 (X20_1.mk (Int.ofNat (Qh8 (X20_0.mk a3 a4 a5 (Int.ofNat a5) (0:Int) a0 a1 a2 a3 a4 a5 a6 a7 a8))) (0:Int) (Qh0 (X20_0.mk a3 a4 a5 (Int.ofNat a5) (0:Int) a0 a1 a2 a3 a4 a5 a6 a7 a8)) (Qh1 (X20_0.mk a3 a4 a5 (Int.ofNat a5) (0:Int) a0 a1 a2 a3 a4 a5 a6 a7 a8)) (Qh2 (X20_0.mk a3 a4 a5 (Int.ofNat a5) (0:Int) a0 a1 a2 a3 a4 a5 a6 a7 a8)) (Qh3 (X20_0.mk a3 a4 a5 (Int.ofNat a5) (0:Int) a0 a1 a2 a3 a4 a5 a6 a7 a8)) (Qh4 (X20_0.mk a3 a4 a5 (Int.ofNat a5) (0:Int) a0 a1 a2 a3 a4 a5 a6 a7 a8)) (Qh5 (X20_0.mk a3 a4 a5 (Int.ofNat a5) (0:Int) a0 a1 a2 a3 a4 a5 a6 a7 a8)) (Qh6 (X20_0.mk a3 a4 a5 (Int.ofNat a5) (0:Int) a0 a1 a2 a3 a4 a5 a6 a7 a8)) (Qh7 (X20_0.mk a3 a4 a5 (Int.ofNat a5) (0:Int) a0 a1 a2 a3 a4 a5 a6 a7 a8)) (Qh8 (X20_0.mk a3 a4 a5 (Int.ofNat a5) (0:Int) a0 a1 a2 a3 a4 a5 a6 a7 a8)))) (.leaf ⟨(Qi0 (X20_1.mk (Int.ofNat (Qh8 (X20_0.mk a3 a4 a5 (Int.ofNat a5) (0:Int) a0 a1 a2 a3 a4 a5 a6 a7 a8))) (0:Int) (Qh0 (X20_0.mk a3 a4 a5 (Int.ofNat a5) (0:Int) a0 a1 a2 a3 a4 a5 a6 a7 a8)) (Qh1 (X20_0.mk a3 a4 a5 (Int.ofNat a5) (0:Int) a0 a1 a2 a3 a4 a5 a6 a7 a8)) (Qh2 (X20_0.mk a3 a4 a5 (Int.ofNat a5) (0:Int) a0 a1 a2 a3 a4 a5 a6 a7 a8)) (Qh3 (X20_0.mk a3 a4 a5 (Int.ofNat a5) (0:Int) a0 a1 a2 a3 a4 a5 a6 a7 a8)) (Qh4 (X20_0.mk a3 a4 a5 (Int.ofNat a5) (0:Int) a0 a1 a2 a3 a4 a5 a6 a7 a8)) (Qh5 (X20_0.mk a3 a4 a5 (Int.ofNat a5) (0:Int) a0 a1 a2 a3 a4 a5 a6 a7 a8)) (Qh6 (X20_0.mk a3 a4 a5 (Int.ofNat a5) (0:Int) a0 a1 a2 a3 a4 a5 a6 a7 a8)) (Qh7 (X20_0.mk a3 a4 a5 (Int.ofNat a5) (0:Int) a0 a1 a2 a3 a4 a5 a6 a7 a8)) (Qh8 (X20_0.mk a3 a4 a5 (Int.ofNat a5) (0:Int) a0 a1 a2 a3 a4 a5 a6 a7 a8)))),(Qi1 (X20_1.mk (Int.ofNat (Qh8 (X20_0.mk a3 a4 a5 (Int.ofNat a5) (0:Int) a0 a1 a2 a3 a4 a5 a6 a7 a8))) (0:Int) (Qh0 (X20_0.mk a3 a4 a5 (Int.ofNat a5) (0:Int) a0 a1 a2 a3 a4 a5 a6 a7 a8)) (Qh1 (X20_0.mk a3 a4 a5 (Int.ofNat a5) (0:Int) a0 a1 a2 a3 a4 a5 a6 a7 a8)) (Qh2 (X20_0.mk a3 a4 a5 (Int.ofNat a5) (0:Int) a0 a1 a2 a3 a4 a5 a6 a7 a8)) (Qh3 (X20_0.mk a3 a4 a5 (Int.ofNat a5) (0:Int) a0 a1 a2 a3 a4 a5 a6 a7 a8)) (Qh4 (X20_0.mk a3 a4 a5 (Int.ofNat a5) (0:Int) a0 a1 a2 a3 a4 a5 a6 a7 a8)) (Qh5 (X20_0.mk a3 a4 a5 (Int.ofNat a5) (0:Int) a0 a1 a2 a3 a4 a5 a6 a7 a8)) (Qh6 (X20_0.mk a3 a4 a5 (Int.ofNat a5) (0:Int) a0 a1 a2 a3 a4 a5 a6 a7 a8)) (Qh7 (X20_0.mk a3 a4 a5 (Int.ofNat a5) (0:Int) a0 a1 a2 a3 a4 a5 a6 a7 a8)) (Qh8 (X20_0.mk a3 a4 a5 (Int.ofNat a5) (0:Int) a0 a1 a2 a3 a4 a5 a6 a7 a8)))),(Qi2 (X20_1.mk (Int.ofNat (Qh8 (X20_0.mk a3 a4 a5 (Int.ofNat a5) (0:Int) a0 a1 a2 a3 a4 a5 a6 a7 a8))) (0:Int) (Qh0 (X20_0.mk a3 a4 a5 (Int.ofNat a5) (0:Int) a0 a1 a2 a3 a4 a5 a6 a7 a8)) (Qh1 (X20_0.mk a3 a4 a5 (Int.ofNat a5) (0:Int) a0 a1 a2 a3 a4 a5 a6 a7 a8)) (Qh2 (X20_0.mk a3 a4 a5 (Int.ofNat a5) (0:Int) a0 a1 a2 a3 a4 a5 a6 a7 a8)) (Qh3 (X20_0.mk a3 a4 a5 (Int.ofNat a5) (0:Int) a0 a1 a2 a3 a4 a5 a6 a7 a8)) (Qh4 (X20_0.mk a3 a4 a5 (Int.ofNat a5) (0:Int) a0 a1 a2 a3 a4 a5 a6 a7 a8)) (Qh5 (X20_0.mk a3 a4 a5 (Int.ofNat a5) (0:Int) a0 a1 a2 a3 a4 a5 a6 a7 a8)) (Qh6 (X20_0.mk a3 a4 a5 (Int.ofNat a5) (0:Int) a0 a1 a2 a3 a4 a5 a6 a7 a8)) (Qh7 (X20_0.mk a3 a4 a5 (Int.ofNat a5) (0:Int) a0 a1 a2 a3 a4 a5 a6 a7 a8)) (Qh8 (X20_0.mk a3 a4 a5 (Int.ofNat a5) (0:Int) a0 a1 a2 a3 a4 a5 a6 a7 a8))))⟩)
     (.br (L20_1_k1 (X20_1.mk (Int.ofNat (Qh8 (X20_0.mk a3 a4 a5 (Int.ofNat a5) (0:Int) a0 a1 a2 a3 a4 a5 a6 a7 a8))) (0:Int) (Qh0 (X20_0.mk a3 a4 a5 (Int.ofNat a5) (0:Int) a0 a1 a2 a3 a4 a5 a6 a7 a8)) (Qh1 (X20_0.mk a3 a4 a5 (Int.ofNat a5) (0:Int) a0 a1 a2 a3 a4 a5 a6 a7 a8)) (Qh2 (X20_0.mk a3 a4 a5 (Int.ofNat a5) (0:Int) a0 a1 a2 a3 a4 a5 a6 a7 a8)) (Qh3 (X20_0.mk a3 a4 a5 (Int.ofNat a5) (0:Int) a0 a1 a2 a3 a4 a5 a6 a7 a8)) (Qh4 (X20_0.mk a3 a4 a5 (Int.ofNat a5) (0:Int) a0 a1 a2 a3 a4 a5 a6 a7 a8)) (Qh5 (X20_0.mk a3 a4 a5 (Int.ofNat a5) (0:Int) a0 a1 a2 a3 a4 a5 a6 a7 a8)) (Qh6 (X20_0.mk a3 a4 a5 (Int.ofNat a5) (0:Int) a0 a1 a2 a3 a4 a5 a6 a7 a8)) (Qh7 (X20_0.mk a3 a4 a5 (Int.ofNat a5) (0:Int) a0 a1 a2 a3 a4 a5 a6 a7 a8)) (Qh8 (X20_0.mk a3 a4 a5 (Int.ofNat a5) (0:Int) a0 a1 a2 a3 a4 a5 a6 a7 a8)))) (.leaf ⟨(0:Int),(0:Int),(0:Int)⟩) (.no))) (.no)) (.no))) (.no))) (.no))) (.no))) (.no)))
def en20 (r:R20):Value:=(.tuple ⟨[(.int .i64 r.r0),(.int .i64 r.r1),(.int .i64 r.r2)]⟩)
theorem T20 (J0:Task→List Value)(J1:Task→List Value)(a0:Int)(a1:Int)(a2:Int)(a3:Array Value)(a4:Nat)(a5:Nat)(a6:Array Value)(a7:Nat)(a8:Nat):evC Try.prog (Ans.c (p57.or (p58.or (p59.or (p60.or ((la20_0 J0).or (la20_1 J1))))))) 60 (.call 20 ⟨[(.agg ⟨[(.int .i64 a0),(.int .i64 a1),(.int .i64 a2),(lstV a3 a4 a5 6),(lstV a6 a7 a8 5)]⟩)]⟩ ⟨[],0,[]⟩) (frzK [0,0,0])=(rt20 a0 a1 a2 a3 a4 a5 a6 a7 a8).out (fun r=>.ret (en20 r) ⟨[],0,[]⟩):=by kernel_rfl
def F20 (a0:Int)(a1:Int)(a2:Int)(a3:Array Value)(a4:Nat)(a5:Nat)(a6:Array Value)(a7:Nat)(a8:Nat):Option R20:=(rt20 a0 a1 a2 a3 a4 a5 a6 a7 a8).val
section
variable (a0:Int) (a1:Int) (a2:Int) (a3:Array Value) (a4:Nat) (a5:Nat) (a6:Array Value) (a7:Nat) (a8:Nat)
def F20_ok:Bool:=(F20 a0 a1 a2 a3 a4 a5 a6 a7 a8).isSome
def F20_0:Int:=match F20 a0 a1 a2 a3 a4 a5 a6 a7 a8 with | some r=>r.r0 | none=>0
def F20_1:Int:=match F20 a0 a1 a2 a3 a4 a5 a6 a7 a8 with | some r=>r.r1 | none=>0
def F20_2:Int:=match F20 a0 a1 a2 a3 a4 a5 a6 a7 a8 with | some r=>r.r2 | none=>0
end
def dec20:Task→Option (A20×Hp)
  | .call g ⟨[(.agg ⟨[(.int .i64 a0),(.int .i64 a1),(.int .i64 a2),(.func (.via 0 ⟨[]⟩ 0 true) a3 ⟨[.slice (some ⟨0,a4,none⟩) a5 6]⟩),(.func (.via 0 ⟨[]⟩ 0 true) a6 ⟨[.slice (some ⟨0,a7,none⟩) a8 5]⟩)]⟩)]⟩ h=>(match Nat.beq g 20 with | true=>some (⟨a0,a1,a2,a3,a4,a5,a6,a7,a8⟩,h) | false=>none)
  | _=>none
def alt20 (x:A20)(h:Hp):AT:=.br (F20_ok x.a0 x.a1 x.a2 x.a3 x.a4 x.a5 x.a6 x.a7 x.a8) (.leaf (.ret (.tuple ⟨[(.int .i64 (F20_0 x.a0 x.a1 x.a2 x.a3 x.a4 x.a5 x.a6 x.a7 x.a8)),(.int .i64 (F20_1 x.a0 x.a1 x.a2 x.a3 x.a4 x.a5 x.a6 x.a7 x.a8)),(.int .i64 (F20_2 x.a0 x.a1 x.a2 x.a3 x.a4 x.a5 x.a6 x.a7 x.a8))]⟩) h)) .no
def p20:Ans:=fnAns dec20 alt20
theorem ha20:∀(x:A20) (h:Hp)(o:Out),(alt20 x h).out=some o→∃r,(rt20 x.a0 x.a1 x.a2 x.a3 x.a4 x.a5 x.a6 x.a7 x.a8).val=some r∧o=.ret (en20 r) h:=by
  intro x h o e
  unfold alt20 at e
  simp only [AT.out]at e
  obtain ⟨g,e⟩:=cond_some e
  unfold F20_ok at g
  obtain ⟨r,hF⟩:=Option.isSome_iff_exists.1 g
  have hv:F20 x.a0 x.a1 x.a2 x.a3 x.a4 x.a5 x.a6 x.a7 x.a8=(rt20 x.a0 x.a1 x.a2 x.a3 x.a4 x.a5 x.a6 x.a7 x.a8).val:=by delta F20;exact rfl
  refine ⟨r,hv.symm.trans hF,?_⟩
  simp only [Option.some.injEq]at e
  rw [← e]
  have k0:F20_0 x.a0 x.a1 x.a2 x.a3 x.a4 x.a5 x.a6 x.a7 x.a8=r.r0:=by
    show (match F20 x.a0 x.a1 x.a2 x.a3 x.a4 x.a5 x.a6 x.a7 x.a8 with | some r=>r.r0 | none=>0)=r.r0
    rw [hF]
  have k1:F20_1 x.a0 x.a1 x.a2 x.a3 x.a4 x.a5 x.a6 x.a7 x.a8=r.r1:=by
    show (match F20 x.a0 x.a1 x.a2 x.a3 x.a4 x.a5 x.a6 x.a7 x.a8 with | some r=>r.r1 | none=>0)=r.r1
    rw [hF]
  have k2:F20_2 x.a0 x.a1 x.a2 x.a3 x.a4 x.a5 x.a6 x.a7 x.a8=r.r2:=by
    show (match F20 x.a0 x.a1 x.a2 x.a3 x.a4 x.a5 x.a6 x.a7 x.a8 with | some r=>r.r2 | none=>0)=r.r2
    rw [hF]
  rw [k0,k1,k2]<;>rfl
theorem hd20:∀(t:Task) (x:A20)(h:Hp),dec20 t=some (x,h)→t=.call 20 ⟨[(.agg ⟨[(.int .i64 x.a0),(.int .i64 x.a1),(.int .i64 x.a2),(lstV x.a3 x.a4 x.a5 6),(lstV x.a6 x.a7 x.a8 5)]⟩)]⟩ h:=by
  intro t x h e
  unfold dec20 at e
  split at e
  case h_2=>cases e
  split at e
  case h_2=>cases e
  rename_i hg
  simp only [Option.some.injEq,Prod.mk.injEq]at e
  obtain ⟨rfl,rfl⟩:=e
  rw [Nat.eq_of_beq_eq_true hg]
theorem known20:Known Try.prog p20:=by
  obtain ⟨J0,hJ0⟩:=kl20_0
  obtain ⟨J1,hJ1⟩:=kl20_1
  exact Known.fn noNG mixed (Known.or known57 (Known.or known58 (Known.or known59 (Known.or known60 (Known.or hJ0 hJ1))))) (n:=60) (zs:=[0,0,0]) 20 (fun x:A20=>[(.agg ⟨[(.int .i64 x.a0),(.int .i64 x.a1),(.int .i64 x.a2),(lstV x.a3 x.a4 x.a5 6),(lstV x.a6 x.a7 x.a8 5)]⟩)]) (fun x=>rt20 x.a0 x.a1 x.a2 x.a3 x.a4 x.a5 x.a6 x.a7 x.a8) en20 (fun x=>T20 J0 J1 x.a0 x.a1 x.a2 x.a3 x.a4 x.a5 x.a6 x.a7 x.a8) (fun x=>rfl) dec20 alt20 hd20 ha20
structure R61 where
  r0:Bool
structure A61 where
  a0:Int
def rt61 (a0:Int):RT R61 :=
  .br (decide ((0:Int)≤a0)) (.leaf ⟨(decide (a0≤(100000:Int)))⟩) (.leaf ⟨false⟩)
def en61 (r:R61):Value:=(.bool r.r0)
theorem T61  (a0:Int):evC Try.prog (Ans.c (fun _=>none:Ans)) 60 (.call 61 ⟨[(.int .i64 a0)]⟩ ⟨[],0,[]⟩) (frzK [0])=(rt61 a0).out (fun r=>.ret (en61 r) ⟨[],0,[]⟩):=by kernel_rfl
def F61 (a0:Int):Option R61:=(rt61 a0).val
section
variable (a0:Int)
def F61_ok:Bool:=(F61 a0).isSome
def F61_0:Bool:=match F61 a0 with | some r=>r.r0 | none=>false
end
def dec61:Task→Option (A61×Hp)
  | .call g ⟨[(.int .i64 a0)]⟩ h=>(match Nat.beq g 61 with | true=>some (⟨a0⟩,h) | false=>none)
  | _=>none
def alt61 (x:A61)(h:Hp):AT:=.br (F61_ok x.a0) (.leaf (.ret (.bool (F61_0 x.a0)) h)) .no
def p61:Ans:=fnAns dec61 alt61
theorem ha61:∀(x:A61) (h:Hp)(o:Out),(alt61 x h).out=some o→∃r,(rt61 x.a0).val=some r∧o=.ret (en61 r) h:=by
  intro x h o e
  unfold alt61 at e
  simp only [AT.out]at e
  obtain ⟨g,e⟩:=cond_some e
  unfold F61_ok at g
  obtain ⟨r,hF⟩:=Option.isSome_iff_exists.1 g
  have hv:F61 x.a0=(rt61 x.a0).val:=by delta F61;exact rfl
  refine ⟨r,hv.symm.trans hF,?_⟩
  simp only [Option.some.injEq]at e
  rw [← e]
  have k0:F61_0 x.a0=r.r0:=by
    show (match F61 x.a0 with | some r=>r.r0 | none=>false)=r.r0
    rw [hF]
  rw [k0]<;>rfl
theorem hd61:∀(t:Task) (x:A61)(h:Hp),dec61 t=some (x,h)→t=.call 61 ⟨[(.int .i64 x.a0)]⟩ h:=by
  intro t x h e
  unfold dec61 at e
  split at e
  case h_2=>cases e
  split at e
  case h_2=>cases e
  rename_i hg
  simp only [Option.some.injEq,Prod.mk.injEq]at e
  obtain ⟨rfl,rfl⟩:=e
  rw [Nat.eq_of_beq_eq_true hg]
theorem known61:Known Try.prog p61:=by
  exact Known.fn noNG mixed (Known.nothing Try.prog) (n:=60) (zs:=[0]) 61 (fun x:A61=>[(.int .i64 x.a0)]) (fun x=>rt61 x.a0) en61 (fun x=>T61  x.a0) (fun x=>rfl) dec61 alt61 hd61 ha61
structure R62 where
  r0:Bool
structure A62 where
  a0:Int
  a1:Int
  a2:Int
def rt62 (a0:Int)(a1:Int)(a2:Int):RT R62 :=
  .br (decide (a1≤a0)) (.leaf ⟨(decide (a0≤a2))⟩) (.leaf ⟨false⟩)
def en62 (r:R62):Value:=(.bool r.r0)
theorem T62  (a0:Int) (a1:Int) (a2:Int):evC Try.prog (Ans.c (fun _=>none:Ans)) 60 (.call 62 ⟨[(.int .i64 a0),(.int .i64 a1),(.int .i64 a2)]⟩ ⟨[],0,[]⟩) (frzK [0])=(rt62 a0 a1 a2).out (fun r=>.ret (en62 r) ⟨[],0,[]⟩):=by kernel_rfl
def F62 (a0:Int)(a1:Int)(a2:Int):Option R62:=(rt62 a0 a1 a2).val
section
variable (a0:Int) (a1:Int) (a2:Int)
def F62_ok:Bool:=(F62 a0 a1 a2).isSome
def F62_0:Bool:=match F62 a0 a1 a2 with | some r=>r.r0 | none=>false
end
def dec62:Task→Option (A62×Hp)
  | .call g ⟨[(.int .i64 a0),(.int .i64 a1),(.int .i64 a2)]⟩ h=>(match Nat.beq g 62 with | true=>some (⟨a0,a1,a2⟩,h) | false=>none)
  | _=>none
def alt62 (x:A62)(h:Hp):AT:=.br (F62_ok x.a0 x.a1 x.a2) (.leaf (.ret (.bool (F62_0 x.a0 x.a1 x.a2)) h)) .no
def p62:Ans:=fnAns dec62 alt62
theorem ha62:∀(x:A62) (h:Hp)(o:Out),(alt62 x h).out=some o→∃r,(rt62 x.a0 x.a1 x.a2).val=some r∧o=.ret (en62 r) h:=by
  intro x h o e
  unfold alt62 at e
  simp only [AT.out]at e
  obtain ⟨g,e⟩:=cond_some e
  unfold F62_ok at g
  obtain ⟨r,hF⟩:=Option.isSome_iff_exists.1 g
  have hv:F62 x.a0 x.a1 x.a2=(rt62 x.a0 x.a1 x.a2).val:=by delta F62;exact rfl
  refine ⟨r,hv.symm.trans hF,?_⟩
  simp only [Option.some.injEq]at e
  rw [← e]
  have k0:F62_0 x.a0 x.a1 x.a2=r.r0:=by
    show (match F62 x.a0 x.a1 x.a2 with | some r=>r.r0 | none=>false)=r.r0
    rw [hF]
  rw [k0]<;>rfl
theorem hd62:∀(t:Task) (x:A62)(h:Hp),dec62 t=some (x,h)→t=.call 62 ⟨[(.int .i64 x.a0),(.int .i64 x.a1),(.int .i64 x.a2)]⟩ h:=by
  intro t x h e
  unfold dec62 at e
  split at e
  case h_2=>cases e
  split at e
  case h_2=>cases e
  rename_i hg
  simp only [Option.some.injEq,Prod.mk.injEq]at e
  obtain ⟨rfl,rfl⟩:=e
  rw [Nat.eq_of_beq_eq_true hg]
theorem known62:Known Try.prog p62:=by
  exact Known.fn noNG mixed (Known.nothing Try.prog) (n:=60) (zs:=[0]) 62 (fun x:A62=>[(.int .i64 x.a0),(.int .i64 x.a1),(.int .i64 x.a2)]) (fun x=>rt62 x.a0 x.a1 x.a2) en62 (fun x=>T62  x.a0 x.a1 x.a2) (fun x=>rfl) dec62 alt62 hd62 ha62
structure X63_0 where
  v0:Int
  v1:Int
  v2:Int
  v3:Int
  v4:Int
  v5:Array Value
  v6:Nat
  v7:Nat
  v8:Array Value
  v9:Nat
  v10:Nat
  v11:ByteArray
  v12:Int
  v13:Int
  v14:Int
  v15:Int
  v16:Int
inductive D63_0 where
  | k0 (d0:Int) (d1:Int) (d2:Int) (d3:Int) (d4:Array Value) (d5:Nat) (d6:Nat) (d7:Array Value) (d8:Nat) (d9:Nat) (d10:ByteArray) (d11:Int) (d12:Int) (d13:Int) (d14:Int) (d15:Int)
  | k1 (d0:Int) (d1:Int) (d2:Int) (d3:Array Value) (d4:Nat) (d5:Nat) (d6:Array Value) (d7:Nat) (d8:Nat) (d9:ByteArray) (d10:Int) (d11:Int) (d12:Int) (d13:Int) (d14:Int)
def Lp63_0:LoopOf X63_0 D63_0 where
  c:=(theLoop Try.prog 63 0)
  N:=58
  M:=2
  S:=[1,2,5,6]
  sl:=fun x=>[(.int .i64 x.v0),(Value.pointer (Option.some (Addr.mk 0 0 Option.none))),(Value.pointer (Option.some (Addr.mk 1 0 Option.none))),(.int .i64 x.v1)]
  hp:=fun x=>[.cells ⟨[(.int .i64 x.v2),(.int .i64 x.v3),(.int .i64 x.v4),(lstV x.v5 x.v6 x.v7 6),(lstV x.v8 x.v9 x.v10 5)]⟩ false,.cells ⟨[(.string x.v11),(.int .i64 x.v12),(.int .i64 x.v13),(.int .i64 x.v14),(.int .i64 x.v15),(.int .i64 x.v16)]⟩ false]
  ex:=fun d=>match d with | .k0 ..=>.ret | .k1 ..=>.exit 0
  pick:=fun e=>match e with | .ret=>[4] | .exit 0=>[5] | _=>[]
  dv:=fun d=>match d with | .k0 d0 d1 d2 d3 d4 d5 d6 d7 d8 d9 d10 d11 d12 d13 d14 d15=>[(.int .i64 d0)] | .k1 d0 d1 d2 d3 d4 d5 d6 d7 d8 d9 d10 d11 d12 d13 d14=>[(Value.pointer (Option.some (Addr.mk 1 0 Option.none)))]
  dh:=fun d=>match d with | .k0 d0 d1 d2 d3 d4 d5 d6 d7 d8 d9 d10 d11 d12 d13 d14 d15=>[.cells ⟨[(.int .i64 d1),(.int .i64 d2),(.int .i64 d3),(lstV d4 d5 d6 6),(lstV d7 d8 d9 5)]⟩ false,.cells ⟨[(.string d10),(.int .i64 d11),(.int .i64 d12),(.int .i64 d13),(.int .i64 d14),(.int .i64 d15)]⟩ false] | .k1 d0 d1 d2 d3 d4 d5 d6 d7 d8 d9 d10 d11 d12 d13 d14=>[.cells ⟨[(.int .i64 d0),(.int .i64 d1),(.int .i64 d2),(lstV d3 d4 d5 6),(lstV d6 d7 d8 5)]⟩ false,.cells ⟨[(.string d9),(.int .i64 d10),(.int .i64 d11),(.int .i64 d12),(.int .i64 d13),(.int .i64 d14)]⟩ false]
theorem ok63_0:Lp63_0.Ok:=⟨fun x=>rfl,fun x=>rfl,fun x=>rfl,fun x=>rfl,fun d=>by cases d<;>rfl,fun d=>by cases d<;>rfl,fun d=>by cases d<;>rfl,fun d=>by cases d<;>(intro h;cases h),fun d=>by cases d<;>rfl,fun d=>by cases d<;>rfl⟩
def rd63_0 (x:X63_0):RT (Sum X63_0 D63_0):=match x with
  | ⟨v0,v1,v2,v3,v4,v5,v6,v7,v8,v9,v10,v11,v12,v13,v14,v15,v16⟩ =>
     .br (decide (v1<v0)) (.br (and (decide ((0:Int)≤v1)) (decide (v1<(Int.ofNat v7)))) (.br (isStr v5 ((v6+((Int.toNat v1)*6))+0)) (.br (strEq (getStr v5 ((v6+((Int.toNat v1)*6))+0)) v11) (.leaf (.inr (.k0 ((5:Int)) (v2) (v3) (v4) (v5) (v6) (v7) (v8) (v9) (v10) (v11) (v12) (v13) (v14) (v15) (v16)))) (.leaf (.inl ⟨v0,(IntKind.wrap .i64 (v1+(1:Int))),v2,v3,v4,v5,v6,v7,v8,v9,v10,v11,v12,v13,v14,v15,v16⟩))) (.no)) (.no)) (.leaf (.inr (.k1 (v2) (v3) (v4) (v5) (v6) (v7) (v8) (v9) (v10) (v11) (v12) (v13) (v14) (v15) (v16))))
theorem T63_0  (y:List Value) (v0:Int) (v1:Int) (v2:Int) (v3:Int) (v4:Int) (v5:Array Value) (v6:Nat) (v7:Nat) (v8:Array Value) (v9:Nat) (v10:Nat) (v11:ByteArray) (v12:Int) (v13:Int) (v14:Int) (v15:Int) (v16:Int):evC Try.prog (Ans.c (p62.or p99)) 60 (.code none (theLoop Try.prog 63 0) ⟨sets (junkF 58 y) [(1,(.int .i64 v0)),(2,(Value.pointer (Option.some (Addr.mk 0 0 Option.none)))),(5,(Value.pointer (Option.some (Addr.mk 1 0 Option.none)))),(6,(.int .i64 v1))],[],⟨[.cells ⟨[(.int .i64 v2),(.int .i64 v3),(.int .i64 v4),(lstV v5 v6 v7 6),(lstV v8 v9 v10 5)]⟩ false,.cells ⟨[(.string v11),(.int .i64 v12),(.int .i64 v13),(.int .i64 v14),(.int .i64 v15),(.int .i64 v16)]⟩ false],0,[]⟩⟩) (sumK 2 58 Lp63_0.pk)=(rd63_0 ⟨v0,v1,v2,v3,v4,v5,v6,v7,v8,v9,v10,v11,v12,v13,v14,v15,v16⟩).out Lp63_0.enc:=by kernel_rfl
def L63_0 (x:X63_0):Option D63_0:=loopR rd63_0 x
section
variable (x:X63_0)
def L63_0_k0:Bool:=match L63_0 x with | some (.k0 ..)=>true | _=>false
def Qk0:Int:=match L63_0 x with | some (.k0 d _ _ _ _ _ _ _ _ _ _ _ _ _ _ _)=>d | _=>0
def Qk1:Int:=match L63_0 x with | some (.k0 _ d _ _ _ _ _ _ _ _ _ _ _ _ _ _)=>d | _=>0
def Qk2:Int:=match L63_0 x with | some (.k0 _ _ d _ _ _ _ _ _ _ _ _ _ _ _ _)=>d | _=>0
def Qk3:Int:=match L63_0 x with | some (.k0 _ _ _ d _ _ _ _ _ _ _ _ _ _ _ _)=>d | _=>0
def Qk4:Array Value:=match L63_0 x with | some (.k0 _ _ _ _ d _ _ _ _ _ _ _ _ _ _ _)=>d | _=>#[]
def Qk5:Nat:=match L63_0 x with | some (.k0 _ _ _ _ _ d _ _ _ _ _ _ _ _ _ _)=>d | _=>0
def Qk6:Nat:=match L63_0 x with | some (.k0 _ _ _ _ _ _ d _ _ _ _ _ _ _ _ _)=>d | _=>0
def Qk7:Array Value:=match L63_0 x with | some (.k0 _ _ _ _ _ _ _ d _ _ _ _ _ _ _ _)=>d | _=>#[]
def Qk8:Nat:=match L63_0 x with | some (.k0 _ _ _ _ _ _ _ _ d _ _ _ _ _ _ _)=>d | _=>0
def Qk9:Nat:=match L63_0 x with | some (.k0 _ _ _ _ _ _ _ _ _ d _ _ _ _ _ _)=>d | _=>0
def Qk10:ByteArray:=match L63_0 x with | some (.k0 _ _ _ _ _ _ _ _ _ _ d _ _ _ _ _)=>d | _=>ByteArray.empty
def Qk11:Int:=match L63_0 x with | some (.k0 _ _ _ _ _ _ _ _ _ _ _ d _ _ _ _)=>d | _=>0
def Qk12:Int:=match L63_0 x with | some (.k0 _ _ _ _ _ _ _ _ _ _ _ _ d _ _ _)=>d | _=>0
def Qk13:Int:=match L63_0 x with | some (.k0 _ _ _ _ _ _ _ _ _ _ _ _ _ d _ _)=>d | _=>0
def Qk14:Int:=match L63_0 x with | some (.k0 _ _ _ _ _ _ _ _ _ _ _ _ _ _ d _)=>d | _=>0
def Qk15:Int:=match L63_0 x with | some (.k0 _ _ _ _ _ _ _ _ _ _ _ _ _ _ _ d)=>d | _=>0
def L63_0_k1:Bool:=match L63_0 x with | some (.k1 ..)=>true | _=>false
def Ql0:Int:=match L63_0 x with | some (.k1 d _ _ _ _ _ _ _ _ _ _ _ _ _ _)=>d | _=>0
def Ql1:Int:=match L63_0 x with | some (.k1 _ d _ _ _ _ _ _ _ _ _ _ _ _ _)=>d | _=>0
def Ql2:Int:=match L63_0 x with | some (.k1 _ _ d _ _ _ _ _ _ _ _ _ _ _ _)=>d | _=>0
def Ql3:Array Value:=match L63_0 x with | some (.k1 _ _ _ d _ _ _ _ _ _ _ _ _ _ _)=>d | _=>#[]
def Ql4:Nat:=match L63_0 x with | some (.k1 _ _ _ _ d _ _ _ _ _ _ _ _ _ _)=>d | _=>0
def Ql5:Nat:=match L63_0 x with | some (.k1 _ _ _ _ _ d _ _ _ _ _ _ _ _ _)=>d | _=>0
def Ql6:Array Value:=match L63_0 x with | some (.k1 _ _ _ _ _ _ d _ _ _ _ _ _ _ _)=>d | _=>#[]
def Ql7:Nat:=match L63_0 x with | some (.k1 _ _ _ _ _ _ _ d _ _ _ _ _ _ _)=>d | _=>0
def Ql8:Nat:=match L63_0 x with | some (.k1 _ _ _ _ _ _ _ _ d _ _ _ _ _ _)=>d | _=>0
def Ql9:ByteArray:=match L63_0 x with | some (.k1 _ _ _ _ _ _ _ _ _ d _ _ _ _ _)=>d | _=>ByteArray.empty
def Ql10:Int:=match L63_0 x with | some (.k1 _ _ _ _ _ _ _ _ _ _ d _ _ _ _)=>d | _=>0
def Ql11:Int:=match L63_0 x with | some (.k1 _ _ _ _ _ _ _ _ _ _ _ d _ _ _)=>d | _=>0
def Ql12:Int:=match L63_0 x with | some (.k1 _ _ _ _ _ _ _ _ _ _ _ _ d _ _)=>d | _=>0
def Ql13:Int:=match L63_0 x with | some (.k1 _ _ _ _ _ _ _ _ _ _ _ _ _ d _)=>d | _=>0
def Ql14:Int:=match L63_0 x with | some (.k1 _ _ _ _ _ _ _ _ _ _ _ _ _ _ d)=>d | _=>0
end
def dec63_0:Task→Option (Code×X63_0)
  | .code none (.loop code) ⟨t,[],⟨[.cells ⟨[(.int .i64 v2),(.int .i64 v3),(.int .i64 v4),(.func (.via 0 ⟨[]⟩ 0 true) v5 ⟨[.slice (some ⟨0,v6,none⟩) v7 6]⟩),(.func (.via 0 ⟨[]⟩ 0 true) v8 ⟨[.slice (some ⟨0,v9,none⟩) v10 5]⟩)]⟩ false,.cells ⟨[(.string v11),(.int .i64 v12),(.int .i64 v13),(.int .i64 v14),(.int .i64 v15),(.int .i64 v16)]⟩ false],0,[]⟩⟩ =>
    (match Nat.beq (firstReg code) 5,lenIs t 58,lget t 1,lget t 2,lget t 5,lget t 6 with
    | true,true,(.int .i64 v0),(Value.pointer (Option.some (Addr.mk 0 0 Option.none))),(Value.pointer (Option.some (Addr.mk 1 0 Option.none))),(.int .i64 v1)=>some (code,⟨v0,v1,v2,v3,v4,v5,v6,v7,v8,v9,v10,v11,v12,v13,v14,v15,v16⟩)
    | _,_,_,_,_,_=>none)
  | _=>none
def alt63_0 (x:X63_0)(j:List Value):AT:=.br (L63_0_k0 x) (loopEnd 58 (.ret) [(4,(.int .i64 (Qk0 x)))] ⟨[.cells ⟨[(.int .i64 (Qk1 x)),(.int .i64 (Qk2 x)),(.int .i64 (Qk3 x)),(lstV (Qk4 x) (Qk5 x) (Qk6 x) 6),(lstV (Qk7 x) (Qk8 x) (Qk9 x) 5)]⟩ false,.cells ⟨[(.string (Qk10 x)),(.int .i64 (Qk11 x)),(.int .i64 (Qk12 x)),(.int .i64 (Qk13 x)),(.int .i64 (Qk14 x)),(.int .i64 (Qk15 x))]⟩ false],0,[]⟩ j) (.br (L63_0_k1 x) (loopEnd 58 (.exit 0) [(5,(Value.pointer (Option.some (Addr.mk 1 0 Option.none))))] ⟨[.cells ⟨[(.int .i64 (Ql0 x)),(.int .i64 (Ql1 x)),(.int .i64 (Ql2 x)),(lstV (Ql3 x) (Ql4 x) (Ql5 x) 6),(lstV (Ql6 x) (Ql7 x) (Ql8 x) 5)]⟩ false,.cells ⟨[(.string (Ql9 x)),(.int .i64 (Ql10 x)),(.int .i64 (Ql11 x)),(.int .i64 (Ql12 x)),(.int .i64 (Ql13 x)),(.int .i64 (Ql14 x))]⟩ false],0,[]⟩ j) (.no))
def la63_0 (J:Task→List Value):Ans:=loopAns Lp63_0.c dec63_0 alt63_0 J
theorem ha63_0:∀(x:X63_0) (j:List Value)(o:Out),(alt63_0 x j).out=some o→∃d,loopR rd63_0 x=some d∧o=Lp63_0.tail d j:=by
  intro x j o h
  unfold alt63_0 at h
  cases hL:L63_0 x with
  | none=>simp [L63_0_k0,Qk0,Qk1,Qk2,Qk3,Qk4,Qk5,Qk6,Qk7,Qk8,Qk9,Qk10,Qk11,Qk12,Qk13,Qk14,Qk15,L63_0_k1,Ql0,Ql1,Ql2,Ql3,Ql4,Ql5,Ql6,Ql7,Ql8,Ql9,Ql10,Ql11,Ql12,Ql13,Ql14,hL,AT.out]at h
  | some d =>
    refine ⟨d,hL,?_⟩
    cases d<;>(simp only [L63_0_k0,Qk0,Qk1,Qk2,Qk3,Qk4,Qk5,Qk6,Qk7,Qk8,Qk9,Qk10,Qk11,Qk12,Qk13,Qk14,Qk15,L63_0_k1,Ql0,Ql1,Ql2,Ql3,Ql4,Ql5,Ql6,Ql7,Ql8,Ql9,Ql10,Ql11,Ql12,Ql13,Ql14,hL,AT.out,loopEnd,cond_true,cond_false,Option.some.injEq]at h;rw [← h];rfl)
theorem hd63_0:∀(t:Task) (c:Code)(x:X63_0),dec63_0 t=some (c,x)→c=Lp63_0.c→∃T,t=.code none (.loop Lp63_0.c) ⟨T,[],⟨Lp63_0.hp x,0,[]⟩⟩∧T.length=Lp63_0.N∧∀kv∈Lp63_0.S.zip (Lp63_0.sl x),lget T kv.1=kv.2:=by
  intro t c x h hc
  unfold dec63_0 at h
  split at h
  case h_2=>cases h
  split at h
  case h_2=>cases h
  simp only [Option.some.injEq,Prod.mk.injEq]at h
  obtain ⟨rfl,rfl⟩:=h
  subst hc
  refine ⟨_,rfl,lenIs_eq _ _ (by assumption),?_⟩
  intro kv hk
  simp only [Lp63_0,List.zip_cons_cons,List.zip_nil_right,List.mem_cons,List.not_mem_nil,or_false]at hk
  rcases hk with rfl | rfl | rfl | rfl<;>assumption
theorem kl63_0:∃J,Known Try.prog (la63_0 J):=by
  exact LoopOf.known noNG mixed ok63_0 (by decide) (by decide) (Known.or known62 known99) (n:=60) (rd:=rd63_0) (fun x j=>T63_0  j x.v0 x.v1 x.v2 x.v3 x.v4 x.v5 x.v6 x.v7 x.v8 x.v9 x.v10 x.v11 x.v12 x.v13 x.v14 x.v15 x.v16) dec63_0 alt63_0 hd63_0 ha63_0
structure R63 where
  r0:Int
structure A63 where
  a0:Int
  a1:Int
  a2:Int
  a3:Array Value
  a4:Nat
  a5:Nat
  a6:Array Value
  a7:Nat
  a8:Nat
  a9:Int
def rt63 (a0:Int)(a1:Int)(a2:Int)(a3:Array Value)(a4:Nat)(a5:Nat)(a6:Array Value)(a7:Nat)(a8:Nat)(a9:Int):RT R63 :=
  .br (and (decide ((0:Int)≤a9)) (decide (a9<(Int.ofNat a5)))) (.br (rdOk a3 [Leaf.str,(Leaf.int .i64),(Leaf.int .i64),(Leaf.int .i64),(Leaf.int .i64),(Leaf.int .i64)] (a4+((Int.toNat a9)*6))) (.br (F99_ok (getStr a3 (a4+((Int.toNat a9)*6)))) (.br (not (F99_0 (getStr a3 (a4+((Int.toNat a9)*6))))) (.leaf ⟨(6:Int)⟩)
     (.sw (eqCode (Lp63_0.c) (Lp63_0.c)) true (by simp only [eqCode_self,arrEq_self]) (.br (L63_0_k0 (X63_0.mk a9 (0:Int) a0 a1 a2 a3 a4 a5 a6 a7 a8 (getStr a3 (a4+((Int.toNat a9)*6))) (getInt a3 ((a4+((Int.toNat a9)*6))+1)) (getInt a3 (((a4+((Int.toNat a9)*6))+1)+1)) (getInt a3 ((((a4+((Int.toNat a9)*6))+1)+1)+1)) (getInt a3 (((((a4+((Int.toNat a9)*6))+1)+1)+1)+1)) (getInt a3 ((((((a4+((Int.toNat a9)*6))+1)+1)+1)+1)+1)))) (.leaf ⟨(Qk0 (X63_0.mk a9 (0:Int) a0 a1 a2 a3 a4 a5 a6 a7 a8 (getStr a3 (a4+((Int.toNat a9)*6))) (getInt a3 ((a4+((Int.toNat a9)*6))+1)) (getInt a3 (((a4+((Int.toNat a9)*6))+1)+1)) (getInt a3 ((((a4+((Int.toNat a9)*6))+1)+1)+1)) (getInt a3 (((((a4+((Int.toNat a9)*6))+1)+1)+1)+1)) (getInt a3 ((((((a4+((Int.toNat a9)*6))+1)+1)+1)+1)+1))))⟩)
     (.br (L63_0_k1 (X63_0.mk a9 (0:Int) a0 a1 a2 a3 a4 a5 a6 a7 a8 (getStr a3 (a4+((Int.toNat a9)*6))) (getInt a3 ((a4+((Int.toNat a9)*6))+1)) (getInt a3 (((a4+((Int.toNat a9)*6))+1)+1)) (getInt a3 ((((a4+((Int.toNat a9)*6))+1)+1)+1)) (getInt a3 (((((a4+((Int.toNat a9)*6))+1)+1)+1)+1)) (getInt a3 ((((((a4+((Int.toNat a9)*6))+1)+1)+1)+1)+1)))) (.br (F62_ok (Ql10 (X63_0.mk a9 (0:Int) a0 a1 a2 a3 a4 a5 a6 a7 a8 (getStr a3 (a4+((Int.toNat a9)*6))) (getInt a3 ((a4+((Int.toNat a9)*6))+1)) (getInt a3 (((a4+((Int.toNat a9)*6))+1)+1)) (getInt a3 ((((a4+((Int.toNat a9)*6))+1)+1)+1)) (getInt a3 (((((a4+((Int.toNat a9)*6))+1)+1)+1)+1)) (getInt a3 ((((((a4+((Int.toNat a9)*6))+1)+1)+1)+1)+1)))) (-100000000:Int) (100000000:Int))
     (.br (not (F62_0 (Ql10 (X63_0.mk a9 (0:Int) a0 a1 a2 a3 a4 a5 a6 a7 a8 (getStr a3 (a4+((Int.toNat a9)*6))) (getInt a3 ((a4+((Int.toNat a9)*6))+1)) (getInt a3 (((a4+((Int.toNat a9)*6))+1)+1)) (getInt a3 ((((a4+((Int.toNat a9)*6))+1)+1)+1)) (getInt a3 (((((a4+((Int.toNat a9)*6))+1)+1)+1)+1)) (getInt a3 ((((((a4+((Int.toNat a9)*6))+1)+1)+1)+1)+1)))) (-100000000:Int) (100000000:Int))) (.leaf ⟨(7:Int)⟩) (.br (F62_ok (Ql11 (X63_0.mk a9 (0:Int) a0 a1 a2 a3 a4 a5 a6 a7 a8 (getStr a3 (a4+((Int.toNat a9)*6))) (getInt a3 ((a4+((Int.toNat a9)*6))+1)) (getInt a3 (((a4+((Int.toNat a9)*6))+1)+1)) (getInt a3 ((((a4+((Int.toNat a9)*6))+1)+1)+1)) (getInt a3 (((((a4+((Int.toNat a9)*6))+1)+1)+1)+1)) (getInt a3 ((((((a4+((Int.toNat a9)*6))+1)+1)+1)+1)+1)))) (-100000000:Int) (100000000:Int))
     (.br (not (F62_0 (Ql11 (X63_0.mk a9 (0:Int) a0 a1 a2 a3 a4 a5 a6 a7 a8 (getStr a3 (a4+((Int.toNat a9)*6))) (getInt a3 ((a4+((Int.toNat a9)*6))+1)) (getInt a3 (((a4+((Int.toNat a9)*6))+1)+1)) (getInt a3 ((((a4+((Int.toNat a9)*6))+1)+1)+1)) (getInt a3 (((((a4+((Int.toNat a9)*6))+1)+1)+1)+1)) (getInt a3 ((((((a4+((Int.toNat a9)*6))+1)+1)+1)+1)+1)))) (-100000000:Int) (100000000:Int))) (.leaf ⟨(7:Int)⟩) (.br (F62_ok (Ql12 (X63_0.mk a9 (0:Int) a0 a1 a2 a3 a4 a5 a6 a7 a8 (getStr a3 (a4+((Int.toNat a9)*6))) (getInt a3 ((a4+((Int.toNat a9)*6))+1)) (getInt a3 (((a4+((Int.toNat a9)*6))+1)+1)) (getInt a3 ((((a4+((Int.toNat a9)*6))+1)+1)+1)) (getInt a3 (((((a4+((Int.toNat a9)*6))+1)+1)+1)+1)) (getInt a3 ((((((a4+((Int.toNat a9)*6))+1)+1)+1)+1)+1)))) (0:Int) (10000000:Int))
     (.br (not (F62_0 (Ql12 (X63_0.mk a9 (0:Int) a0 a1 a2 a3 a4 a5 a6 a7 a8 (getStr a3 (a4+((Int.toNat a9)*6))) (getInt a3 ((a4+((Int.toNat a9)*6))+1)) (getInt a3 (((a4+((Int.toNat a9)*6))+1)+1)) (getInt a3 ((((a4+((Int.toNat a9)*6))+1)+1)+1)) (getInt a3 (((((a4+((Int.toNat a9)*6))+1)+1)+1)+1)) (getInt a3 ((((((a4+((Int.toNat a9)*6))+1)+1)+1)+1)+1)))) (0:Int) (10000000:Int))) (.leaf ⟨(7:Int)⟩) (.br (F62_ok (Ql13 (X63_0.mk a9 (0:Int) a0 a1 a2 a3 a4 a5 a6 a7 a8 (getStr a3 (a4+((Int.toNat a9)*6))) (getInt a3 ((a4+((Int.toNat a9)*6))+1)) (getInt a3 (((a4+((Int.toNat a9)*6))+1)+1)) (getInt a3 ((((a4+((Int.toNat a9)*6))+1)+1)+1)) (getInt a3 (((((a4+((Int.toNat a9)*6))+1)+1)+1)+1)) (getInt a3 ((((((a4+((Int.toNat a9)*6))+1)+1)+1)+1)+1)))) (0:Int) (10000:Int))
     (.br (not (F62_0 (Ql13 (X63_0.mk a9 (0:Int) a0 a1 a2 a3 a4 a5 a6 a7 a8 (getStr a3 (a4+((Int.toNat a9)*6))) (getInt a3 ((a4+((Int.toNat a9)*6))+1)) (getInt a3 (((a4+((Int.toNat a9)*6))+1)+1)) (getInt a3 ((((a4+((Int.toNat a9)*6))+1)+1)+1)) (getInt a3 (((((a4+((Int.toNat a9)*6))+1)+1)+1)+1)) (getInt a3 ((((((a4+((Int.toNat a9)*6))+1)+1)+1)+1)+1)))) (0:Int) (10000:Int))) (.leaf ⟨(7:Int)⟩) (.br (F62_ok (Ql14 (X63_0.mk a9 (0:Int) a0 a1 a2 a3 a4 a5 a6 a7 a8 (getStr a3 (a4+((Int.toNat a9)*6))) (getInt a3 ((a4+((Int.toNat a9)*6))+1)) (getInt a3 (((a4+((Int.toNat a9)*6))+1)+1)) (getInt a3 ((((a4+((Int.toNat a9)*6))+1)+1)+1)) (getInt a3 (((((a4+((Int.toNat a9)*6))+1)+1)+1)+1)) (getInt a3 ((((((a4+((Int.toNat a9)*6))+1)+1)+1)+1)+1)))) (0:Int) (600:Int))
     (.br (not (F62_0 (Ql14 (X63_0.mk a9 (0:Int) a0 a1 a2 a3 a4 a5 a6 a7 a8 (getStr a3 (a4+((Int.toNat a9)*6))) (getInt a3 ((a4+((Int.toNat a9)*6))+1)) (getInt a3 (((a4+((Int.toNat a9)*6))+1)+1)) (getInt a3 ((((a4+((Int.toNat a9)*6))+1)+1)+1)) (getInt a3 (((((a4+((Int.toNat a9)*6))+1)+1)+1)+1)) (getInt a3 ((((((a4+((Int.toNat a9)*6))+1)+1)+1)+1)+1)))) (0:Int) (600:Int))) (.leaf ⟨(7:Int)⟩) (.leaf ⟨(0:Int)⟩)) (.no))) (.no))) (.no))) (.no))) (.no)) (.no))) (.no))) (.no)) (.no)) (.no)
def en63 (r:R63):Value:=(.int .i64 r.r0)
theorem T63 (J0:Task→List Value)(a0:Int)(a1:Int)(a2:Int)(a3:Array Value)(a4:Nat)(a5:Nat)(a6:Array Value)(a7:Nat)(a8:Nat)(a9:Int):evC Try.prog (Ans.c (p62.or (p99.or (la63_0 J0)))) 60 (.call 63 ⟨[(.agg ⟨[(.int .i64 a0),(.int .i64 a1),(.int .i64 a2),(lstV a3 a4 a5 6),(lstV a6 a7 a8 5)]⟩),(.int .i64 a9)]⟩ ⟨[],0,[]⟩) (frzK [0])=(rt63 a0 a1 a2 a3 a4 a5 a6 a7 a8 a9).out (fun r=>.ret (en63 r) ⟨[],0,[]⟩):=by kernel_rfl
def F63 (a0:Int)(a1:Int)(a2:Int)(a3:Array Value)(a4:Nat)(a5:Nat)(a6:Array Value)(a7:Nat)(a8:Nat)(a9:Int):Option R63:=(rt63 a0 a1 a2 a3 a4 a5 a6 a7 a8 a9).val
section
variable (a0:Int) (a1:Int) (a2:Int) (a3:Array Value) (a4:Nat) (a5:Nat) (a6:Array Value) (a7:Nat) (a8:Nat) (a9:Int)
def F63_ok:Bool:=(F63 a0 a1 a2 a3 a4 a5 a6 a7 a8 a9).isSome
def F63_0:Int:=match F63 a0 a1 a2 a3 a4 a5 a6 a7 a8 a9 with | some r=>r.r0 | none=>0
end
def dec63:Task→Option (A63×Hp)
  | .call g ⟨[(.agg ⟨[(.int .i64 a0),(.int .i64 a1),(.int .i64 a2),(.func (.via 0 ⟨[]⟩ 0 true) a3 ⟨[.slice (some ⟨0,a4,none⟩) a5 6]⟩),(.func (.via 0 ⟨[]⟩ 0 true) a6 ⟨[.slice (some ⟨0,a7,none⟩) a8 5]⟩)]⟩),(.int .i64 a9)]⟩ h=>(match Nat.beq g 63 with | true=>some (⟨a0,a1,a2,a3,a4,a5,a6,a7,a8,a9⟩,h) | false=>none)
  | _=>none
def alt63 (x:A63)(h:Hp):AT:=.br (F63_ok x.a0 x.a1 x.a2 x.a3 x.a4 x.a5 x.a6 x.a7 x.a8 x.a9) (.leaf (.ret (.int .i64 (F63_0 x.a0 x.a1 x.a2 x.a3 x.a4 x.a5 x.a6 x.a7 x.a8 x.a9)) h)) .no
def p63:Ans:=fnAns dec63 alt63
theorem ha63:∀(x:A63) (h:Hp)(o:Out),(alt63 x h).out=some o→∃r,(rt63 x.a0 x.a1 x.a2 x.a3 x.a4 x.a5 x.a6 x.a7 x.a8 x.a9).val=some r∧o=.ret (en63 r) h:=by
  intro x h o e
  unfold alt63 at e
  simp only [AT.out]at e
  obtain ⟨g,e⟩:=cond_some e
  unfold F63_ok at g
  obtain ⟨r,hF⟩:=Option.isSome_iff_exists.1 g
  have hv:F63 x.a0 x.a1 x.a2 x.a3 x.a4 x.a5 x.a6 x.a7 x.a8 x.a9=(rt63 x.a0 x.a1 x.a2 x.a3 x.a4 x.a5 x.a6 x.a7 x.a8 x.a9).val:=by delta F63;exact rfl
  refine ⟨r,hv.symm.trans hF,?_⟩
  simp only [Option.some.injEq]at e
  rw [← e]
  have k0:F63_0 x.a0 x.a1 x.a2 x.a3 x.a4 x.a5 x.a6 x.a7 x.a8 x.a9=r.r0:=by
    show (match F63 x.a0 x.a1 x.a2 x.a3 x.a4 x.a5 x.a6 x.a7 x.a8 x.a9 with | some r=>r.r0 | none=>0)=r.r0
    rw [hF]
  rw [k0]<;>rfl
theorem hd63:∀(t:Task) (x:A63)(h:Hp),dec63 t=some (x,h)→t=.call 63 ⟨[(.agg ⟨[(.int .i64 x.a0),(.int .i64 x.a1),(.int .i64 x.a2),(lstV x.a3 x.a4 x.a5 6),(lstV x.a6 x.a7 x.a8 5)]⟩),(.int .i64 x.a9)]⟩ h:=by
  intro t x h e
  unfold dec63 at e
  split at e
  case h_2=>cases e
  split at e
  case h_2=>cases e
  rename_i hg
  simp only [Option.some.injEq,Prod.mk.injEq]at e
  obtain ⟨rfl,rfl⟩:=e
  rw [Nat.eq_of_beq_eq_true hg]
theorem known63:Known Try.prog p63:=by
  obtain ⟨J0,hJ0⟩:=kl63_0
  exact Known.fn noNG mixed (Known.or known62 (Known.or known99 hJ0)) (n:=60) (zs:=[0]) 63 (fun x:A63=>[(.agg ⟨[(.int .i64 x.a0),(.int .i64 x.a1),(.int .i64 x.a2),(lstV x.a3 x.a4 x.a5 6),(lstV x.a6 x.a7 x.a8 5)]⟩),(.int .i64 x.a9)]) (fun x=>rt63 x.a0 x.a1 x.a2 x.a3 x.a4 x.a5 x.a6 x.a7 x.a8 x.a9) en63 (fun x=>T63 J0 x.a0 x.a1 x.a2 x.a3 x.a4 x.a5 x.a6 x.a7 x.a8 x.a9) (fun x=>rfl) dec63 alt63 hd63 ha63
structure X64_0 where
  v0:Int
  v1:Int
  v2:Int
  v3:Int
  v4:Int
  v5:Array Value
  v6:Nat
  v7:Nat
  v8:Array Value
  v9:Nat
  v10:Nat
  v11:Int
  v12:Int
  v13:Int
  v14:Int
  v15:Int
inductive D64_0 where
  | k0 (d0:Int) (d1:Int) (d2:Int) (d3:Int) (d4:Array Value) (d5:Nat) (d6:Nat) (d7:Array Value) (d8:Nat) (d9:Nat) (d10:Int) (d11:Int) (d12:Int) (d13:Int) (d14:Int)
  | k1 (d0:Int) (d1:Int) (d2:Int) (d3:Array Value) (d4:Nat) (d5:Nat) (d6:Array Value) (d7:Nat) (d8:Nat) (d9:Int) (d10:Int) (d11:Int) (d12:Int) (d13:Int)
def Lp64_0:LoopOf X64_0 D64_0 where
  c:=(theLoop Try.prog 64 0)
  N:=69
  M:=2
  S:=[1,2,5,6]
  sl:=fun x=>[(.int .i64 x.v0),(Value.pointer (Option.some (Addr.mk 0 0 Option.none))),(Value.pointer (Option.some (Addr.mk 1 0 Option.none))),(.int .i64 x.v1)]
  hp:=fun x=>[.cells ⟨[(.int .i64 x.v2),(.int .i64 x.v3),(.int .i64 x.v4),(lstV x.v5 x.v6 x.v7 6),(lstV x.v8 x.v9 x.v10 5)]⟩ false,.cells ⟨[(.int .i64 x.v11),(.int .i64 x.v12),(.int .i64 x.v13),(.int .i64 x.v14),(.int .i64 x.v15)]⟩ false]
  ex:=fun d=>match d with | .k0 ..=>.ret | .k1 ..=>.exit 0
  pick:=fun e=>match e with | .ret=>[4] | .exit 0=>[] | _=>[]
  dv:=fun d=>match d with | .k0 d0 d1 d2 d3 d4 d5 d6 d7 d8 d9 d10 d11 d12 d13 d14=>[(.int .i64 d0)] | .k1 d0 d1 d2 d3 d4 d5 d6 d7 d8 d9 d10 d11 d12 d13=>[]
  dh:=fun d=>match d with | .k0 d0 d1 d2 d3 d4 d5 d6 d7 d8 d9 d10 d11 d12 d13 d14=>[.cells ⟨[(.int .i64 d1),(.int .i64 d2),(.int .i64 d3),(lstV d4 d5 d6 6),(lstV d7 d8 d9 5)]⟩ false,.cells ⟨[(.int .i64 d10),(.int .i64 d11),(.int .i64 d12),(.int .i64 d13),(.int .i64 d14)]⟩ false] | .k1 d0 d1 d2 d3 d4 d5 d6 d7 d8 d9 d10 d11 d12 d13=>[.cells ⟨[(.int .i64 d0),(.int .i64 d1),(.int .i64 d2),(lstV d3 d4 d5 6),(lstV d6 d7 d8 5)]⟩ false,.cells ⟨[(.int .i64 d9),(.int .i64 d10),(.int .i64 d11),(.int .i64 d12),(.int .i64 d13)]⟩ false]
theorem ok64_0:Lp64_0.Ok:=⟨fun x=>rfl,fun x=>rfl,fun x=>rfl,fun x=>rfl,fun d=>by cases d<;>rfl,fun d=>by cases d<;>rfl,fun d=>by cases d<;>rfl,fun d=>by cases d<;>(intro h;cases h),fun d=>by cases d<;>rfl,fun d=>by cases d<;>rfl⟩
def rd64_0 (x:X64_0):RT (Sum X64_0 D64_0):=match x with
  | ⟨v0,v1,v2,v3,v4,v5,v6,v7,v8,v9,v10,v11,v12,v13,v14,v15⟩ =>
     .br (decide (v1<v0)) (.br (and (decide ((0:Int)≤v1)) (decide (v1<(Int.ofNat v10)))) (.br (isInt .i64 v8 ((v9+((Int.toNat v1)*5))+0)) (.br (decide ((getInt v8 ((v9+((Int.toNat v1)*5))+0))=v11)) (.br (and (decide ((0:Int)≤v1)) (decide (v1<(Int.ofNat v10)))) (.br (isInt .i64 v8 ((v9+((Int.toNat v1)*5))+1)) (.br (decide ((getInt v8 ((v9+((Int.toNat v1)*5))+1))=v12)) (.leaf (.inr (.k0 ((5:Int)) (v2) (v3) (v4) (v5) (v6) (v7) (v8) (v9) (v10) (v11) (v12) (v13) (v14) (v15)))) (.leaf (.inl ⟨v0,(IntKind.wrap .i64 (v1+(1:Int))),v2,v3,v4,v5,v6,v7,v8,v9,v10,v11,v12,v13,v14,v15⟩))) (.no)) (.no)) (.leaf (.inl ⟨v0,(IntKind.wrap .i64 (v1+(1:Int))),v2,v3,v4,v5,v6,v7,v8,v9,v10,v11,v12,v13,v14,v15⟩))) (.no)) (.no)) (.leaf (.inr (.k1 (v2) (v3) (v4) (v5) (v6) (v7) (v8) (v9) (v10) (v11) (v12) (v13) (v14) (v15))))
theorem T64_0  (y:List Value) (v0:Int) (v1:Int) (v2:Int) (v3:Int) (v4:Int) (v5:Array Value) (v6:Nat) (v7:Nat) (v8:Array Value) (v9:Nat) (v10:Nat) (v11:Int) (v12:Int) (v13:Int) (v14:Int) (v15:Int):evC Try.prog (Ans.c p62) 60 (.code none (theLoop Try.prog 64 0) ⟨sets (junkF 69 y) [(1,(.int .i64 v0)),(2,(Value.pointer (Option.some (Addr.mk 0 0 Option.none)))),(5,(Value.pointer (Option.some (Addr.mk 1 0 Option.none)))),(6,(.int .i64 v1))],[],⟨[.cells ⟨[(.int .i64 v2),(.int .i64 v3),(.int .i64 v4),(lstV v5 v6 v7 6),(lstV v8 v9 v10 5)]⟩ false,.cells ⟨[(.int .i64 v11),(.int .i64 v12),(.int .i64 v13),(.int .i64 v14),(.int .i64 v15)]⟩ false],0,[]⟩⟩) (sumK 2 69 Lp64_0.pk)=(rd64_0 ⟨v0,v1,v2,v3,v4,v5,v6,v7,v8,v9,v10,v11,v12,v13,v14,v15⟩).out Lp64_0.enc:=by kernel_rfl
def L64_0 (x:X64_0):Option D64_0:=loopR rd64_0 x
section
variable (x:X64_0)
def L64_0_k0:Bool:=match L64_0 x with | some (.k0 ..)=>true | _=>false
def Qm0:Int:=match L64_0 x with | some (.k0 d _ _ _ _ _ _ _ _ _ _ _ _ _ _)=>d | _=>0
def Qm1:Int:=match L64_0 x with | some (.k0 _ d _ _ _ _ _ _ _ _ _ _ _ _ _)=>d | _=>0
def Qm2:Int:=match L64_0 x with | some (.k0 _ _ d _ _ _ _ _ _ _ _ _ _ _ _)=>d | _=>0
def Qm3:Int:=match L64_0 x with | some (.k0 _ _ _ d _ _ _ _ _ _ _ _ _ _ _)=>d | _=>0
def Qm4:Array Value:=match L64_0 x with | some (.k0 _ _ _ _ d _ _ _ _ _ _ _ _ _ _)=>d | _=>#[]
def Qm5:Nat:=match L64_0 x with | some (.k0 _ _ _ _ _ d _ _ _ _ _ _ _ _ _)=>d | _=>0
def Qm6:Nat:=match L64_0 x with | some (.k0 _ _ _ _ _ _ d _ _ _ _ _ _ _ _)=>d | _=>0
def Qm7:Array Value:=match L64_0 x with | some (.k0 _ _ _ _ _ _ _ d _ _ _ _ _ _ _)=>d | _=>#[]
def Qm8:Nat:=match L64_0 x with | some (.k0 _ _ _ _ _ _ _ _ d _ _ _ _ _ _)=>d | _=>0
def Qm9:Nat:=match L64_0 x with | some (.k0 _ _ _ _ _ _ _ _ _ d _ _ _ _ _)=>d | _=>0
def Qm10:Int:=match L64_0 x with | some (.k0 _ _ _ _ _ _ _ _ _ _ d _ _ _ _)=>d | _=>0
def Qm11:Int:=match L64_0 x with | some (.k0 _ _ _ _ _ _ _ _ _ _ _ d _ _ _)=>d | _=>0
def Qm12:Int:=match L64_0 x with | some (.k0 _ _ _ _ _ _ _ _ _ _ _ _ d _ _)=>d | _=>0
def Qm13:Int:=match L64_0 x with | some (.k0 _ _ _ _ _ _ _ _ _ _ _ _ _ d _)=>d | _=>0
def Qm14:Int:=match L64_0 x with | some (.k0 _ _ _ _ _ _ _ _ _ _ _ _ _ _ d)=>d | _=>0
def L64_0_k1:Bool:=match L64_0 x with | some (.k1 ..)=>true | _=>false
def Qn0:Int:=match L64_0 x with | some (.k1 d _ _ _ _ _ _ _ _ _ _ _ _ _)=>d | _=>0
def Qn1:Int:=match L64_0 x with | some (.k1 _ d _ _ _ _ _ _ _ _ _ _ _ _)=>d | _=>0
def Qn2:Int:=match L64_0 x with | some (.k1 _ _ d _ _ _ _ _ _ _ _ _ _ _)=>d | _=>0
def Qn3:Array Value:=match L64_0 x with | some (.k1 _ _ _ d _ _ _ _ _ _ _ _ _ _)=>d | _=>#[]
def Qn4:Nat:=match L64_0 x with | some (.k1 _ _ _ _ d _ _ _ _ _ _ _ _ _)=>d | _=>0
def Qn5:Nat:=match L64_0 x with | some (.k1 _ _ _ _ _ d _ _ _ _ _ _ _ _)=>d | _=>0
def Qn6:Array Value:=match L64_0 x with | some (.k1 _ _ _ _ _ _ d _ _ _ _ _ _ _)=>d | _=>#[]
def Qn7:Nat:=match L64_0 x with | some (.k1 _ _ _ _ _ _ _ d _ _ _ _ _ _)=>d | _=>0
def Qn8:Nat:=match L64_0 x with | some (.k1 _ _ _ _ _ _ _ _ d _ _ _ _ _)=>d | _=>0
def Qn9:Int:=match L64_0 x with | some (.k1 _ _ _ _ _ _ _ _ _ d _ _ _ _)=>d | _=>0
def Qn10:Int:=match L64_0 x with | some (.k1 _ _ _ _ _ _ _ _ _ _ d _ _ _)=>d | _=>0
def Qn11:Int:=match L64_0 x with | some (.k1 _ _ _ _ _ _ _ _ _ _ _ d _ _)=>d | _=>0
def Qn12:Int:=match L64_0 x with | some (.k1 _ _ _ _ _ _ _ _ _ _ _ _ d _)=>d | _=>0
def Qn13:Int:=match L64_0 x with | some (.k1 _ _ _ _ _ _ _ _ _ _ _ _ _ d)=>d | _=>0
end
def dec64_0:Task→Option (Code×X64_0)
  | .code none (.loop code) ⟨t,[],⟨[.cells ⟨[(.int .i64 v2),(.int .i64 v3),(.int .i64 v4),(.func (.via 0 ⟨[]⟩ 0 true) v5 ⟨[.slice (some ⟨0,v6,none⟩) v7 6]⟩),(.func (.via 0 ⟨[]⟩ 0 true) v8 ⟨[.slice (some ⟨0,v9,none⟩) v10 5]⟩)]⟩ false,.cells ⟨[(.int .i64 v11),(.int .i64 v12),(.int .i64 v13),(.int .i64 v14),(.int .i64 v15)]⟩ false],0,[]⟩⟩ =>
    (match Nat.beq (firstReg code) 7,lenIs t 69,lget t 1,lget t 2,lget t 5,lget t 6 with
    | true,true,(.int .i64 v0),(Value.pointer (Option.some (Addr.mk 0 0 Option.none))),(Value.pointer (Option.some (Addr.mk 1 0 Option.none))),(.int .i64 v1)=>some (code,⟨v0,v1,v2,v3,v4,v5,v6,v7,v8,v9,v10,v11,v12,v13,v14,v15⟩)
    | _,_,_,_,_,_=>none)
  | _=>none
def alt64_0 (x:X64_0)(j:List Value):AT:=.br (L64_0_k0 x) (loopEnd 69 (.ret) [(4,(.int .i64 (Qm0 x)))] ⟨[.cells ⟨[(.int .i64 (Qm1 x)),(.int .i64 (Qm2 x)),(.int .i64 (Qm3 x)),(lstV (Qm4 x) (Qm5 x) (Qm6 x) 6),(lstV (Qm7 x) (Qm8 x) (Qm9 x) 5)]⟩ false,.cells ⟨[(.int .i64 (Qm10 x)),(.int .i64 (Qm11 x)),(.int .i64 (Qm12 x)),(.int .i64 (Qm13 x)),(.int .i64 (Qm14 x))]⟩ false],0,[]⟩ j) (.br (L64_0_k1 x) (loopEnd 69 (.exit 0) [] ⟨[.cells ⟨[(.int .i64 (Qn0 x)),(.int .i64 (Qn1 x)),(.int .i64 (Qn2 x)),(lstV (Qn3 x) (Qn4 x) (Qn5 x) 6),(lstV (Qn6 x) (Qn7 x) (Qn8 x) 5)]⟩ false,.cells ⟨[(.int .i64 (Qn9 x)),(.int .i64 (Qn10 x)),(.int .i64 (Qn11 x)),(.int .i64 (Qn12 x)),(.int .i64 (Qn13 x))]⟩ false],0,[]⟩ j) (.no))
def la64_0 (J:Task→List Value):Ans:=loopAns Lp64_0.c dec64_0 alt64_0 J
theorem ha64_0:∀(x:X64_0) (j:List Value)(o:Out),(alt64_0 x j).out=some o→∃d,loopR rd64_0 x=some d∧o=Lp64_0.tail d j:=by
  intro x j o h
  unfold alt64_0 at h
  cases hL:L64_0 x with
  | none=>simp [L64_0_k0,Qm0,Qm1,Qm2,Qm3,Qm4,Qm5,Qm6,Qm7,Qm8,Qm9,Qm10,Qm11,Qm12,Qm13,Qm14,L64_0_k1,Qn0,Qn1,Qn2,Qn3,Qn4,Qn5,Qn6,Qn7,Qn8,Qn9,Qn10,Qn11,Qn12,Qn13,hL,AT.out]at h
  | some d =>
    refine ⟨d,hL,?_⟩
    cases d<;>(simp only [L64_0_k0,Qm0,Qm1,Qm2,Qm3,Qm4,Qm5,Qm6,Qm7,Qm8,Qm9,Qm10,Qm11,Qm12,Qm13,Qm14,L64_0_k1,Qn0,Qn1,Qn2,Qn3,Qn4,Qn5,Qn6,Qn7,Qn8,Qn9,Qn10,Qn11,Qn12,Qn13,hL,AT.out,loopEnd,cond_true,cond_false,Option.some.injEq]at h;rw [← h];rfl)
theorem hd64_0:∀(t:Task) (c:Code)(x:X64_0),dec64_0 t=some (c,x)→c=Lp64_0.c→∃T,t=.code none (.loop Lp64_0.c) ⟨T,[],⟨Lp64_0.hp x,0,[]⟩⟩∧T.length=Lp64_0.N∧∀kv∈Lp64_0.S.zip (Lp64_0.sl x),lget T kv.1=kv.2:=by
  intro t c x h hc
  unfold dec64_0 at h
  split at h
  case h_2=>cases h
  split at h
  case h_2=>cases h
  simp only [Option.some.injEq,Prod.mk.injEq]at h
  obtain ⟨rfl,rfl⟩:=h
  subst hc
  refine ⟨_,rfl,lenIs_eq _ _ (by assumption),?_⟩
  intro kv hk
  simp only [Lp64_0,List.zip_cons_cons,List.zip_nil_right,List.mem_cons,List.not_mem_nil,or_false]at hk
  rcases hk with rfl | rfl | rfl | rfl<;>assumption
theorem kl64_0:∃J,Known Try.prog (la64_0 J):=by
  exact LoopOf.known noNG mixed ok64_0 (by decide) (by decide) known62 (n:=60) (rd:=rd64_0) (fun x j=>T64_0  j x.v0 x.v1 x.v2 x.v3 x.v4 x.v5 x.v6 x.v7 x.v8 x.v9 x.v10 x.v11 x.v12 x.v13 x.v14 x.v15) dec64_0 alt64_0 hd64_0 ha64_0
structure R64 where
  r0:Int
structure A64 where
  a0:Int
  a1:Int
  a2:Int
  a3:Array Value
  a4:Nat
  a5:Nat
  a6:Array Value
  a7:Nat
  a8:Nat
  a9:Int
def rt64 (a0:Int)(a1:Int)(a2:Int)(a3:Array Value)(a4:Nat)(a5:Nat)(a6:Array Value)(a7:Nat)(a8:Nat)(a9:Int):RT R64 :=
  .br (and (decide ((0:Int)≤a9)) (decide (a9<(Int.ofNat a8)))) (.br (rdOk a6 [(Leaf.int .i64),(Leaf.int .i64),(Leaf.int .i64),(Leaf.int .i64),(Leaf.int .i64)] (a7+((Int.toNat a9)*5))) (.br (F62_ok (getInt a6 (a7+((Int.toNat a9)*5))) (0:Int) (IntKind.wrap .i64 ((Int.ofNat a5)-(1:Int)))) (.br (not (F62_0 (getInt a6 (a7+((Int.toNat a9)*5))) (0:Int) (IntKind.wrap .i64 ((Int.ofNat a5)-(1:Int))))) (.leaf ⟨(4:Int)⟩) (.br (F62_ok (getInt a6 ((a7+((Int.toNat a9)*5))+1)) a0 (100000:Int)) (.br (not (F62_0 (getInt a6 ((a7+((Int.toNat a9)*5))+1)) a0 (100000:Int))) (.leaf ⟨(7:Int)⟩) (.br (F62_ok (getInt a6 (((a7+((Int.toNat a9)*5))+1)+1)) (-2000000000:Int) (2000000000:Int)) (.br (not (F62_0 (getInt a6 (((a7+((Int.toNat a9)*5))+1)+1)) (-2000000000:Int) (2000000000:Int))) (.leaf ⟨(7:Int)⟩) (.br (F62_ok (getInt a6 ((((a7+((Int.toNat a9)*5))+1)+1)+1)) (-2000000000:Int) (2000000000:Int))
     (.br (not (F62_0 (getInt a6 ((((a7+((Int.toNat a9)*5))+1)+1)+1)) (-2000000000:Int) (2000000000:Int))) (.leaf ⟨(7:Int)⟩) (.br (F62_ok (getInt a6 (((((a7+((Int.toNat a9)*5))+1)+1)+1)+1)) (-2000000000:Int) (2000000000:Int)) (.br (not (F62_0 (getInt a6 (((((a7+((Int.toNat a9)*5))+1)+1)+1)+1)) (-2000000000:Int) (2000000000:Int))) (.leaf ⟨(7:Int)⟩)
             (.sw (eqCode (Lp64_0.c) (Lp64_0.c)) true (by simp only [eqCode_self,arrEq_self]) (.br (L64_0_k0 (X64_0.mk a9 (0:Int) a0 a1 a2 a3 a4 a5 a6 a7 a8 (getInt a6 (a7+((Int.toNat a9)*5))) (getInt a6 ((a7+((Int.toNat a9)*5))+1)) (getInt a6 (((a7+((Int.toNat a9)*5))+1)+1)) (getInt a6 ((((a7+((Int.toNat a9)*5))+1)+1)+1)) (getInt a6 (((((a7+((Int.toNat a9)*5))+1)+1)+1)+1)))) (.leaf ⟨(Qm0 (X64_0.mk a9 (0:Int) a0 a1 a2 a3 a4 a5 a6 a7 a8 (getInt a6 (a7+((Int.toNat a9)*5))) (getInt a6 ((a7+((Int.toNat a9)*5))+1)) (getInt a6 (((a7+((Int.toNat a9)*5))+1)+1)) (getInt a6 ((((a7+((Int.toNat a9)*5))+1)+1)+1)) (getInt a6 (((((a7+((Int.toNat a9)*5))+1)+1)+1)+1))))⟩)
     (.br (L64_0_k1 (X64_0.mk a9 (0:Int) a0 a1 a2 a3 a4 a5 a6 a7 a8 (getInt a6 (a7+((Int.toNat a9)*5))) (getInt a6 ((a7+((Int.toNat a9)*5))+1)) (getInt a6 (((a7+((Int.toNat a9)*5))+1)+1)) (getInt a6 ((((a7+((Int.toNat a9)*5))+1)+1)+1)) (getInt a6 (((((a7+((Int.toNat a9)*5))+1)+1)+1)+1)))) (.leaf ⟨(0:Int)⟩) (.no))) (.no))) (.no))) (.no))) (.no))) (.no))) (.no)) (.no)) (.no)
def en64 (r:R64):Value:=(.int .i64 r.r0)
theorem T64 (J0:Task→List Value)(a0:Int)(a1:Int)(a2:Int)(a3:Array Value)(a4:Nat)(a5:Nat)(a6:Array Value)(a7:Nat)(a8:Nat)(a9:Int):evC Try.prog (Ans.c (p62.or (la64_0 J0))) 60 (.call 64 ⟨[(.agg ⟨[(.int .i64 a0),(.int .i64 a1),(.int .i64 a2),(lstV a3 a4 a5 6),(lstV a6 a7 a8 5)]⟩),(.int .i64 a9)]⟩ ⟨[],0,[]⟩) (frzK [0])=(rt64 a0 a1 a2 a3 a4 a5 a6 a7 a8 a9).out (fun r=>.ret (en64 r) ⟨[],0,[]⟩):=by kernel_rfl
def F64 (a0:Int)(a1:Int)(a2:Int)(a3:Array Value)(a4:Nat)(a5:Nat)(a6:Array Value)(a7:Nat)(a8:Nat)(a9:Int):Option R64:=(rt64 a0 a1 a2 a3 a4 a5 a6 a7 a8 a9).val
section
variable (a0:Int) (a1:Int) (a2:Int) (a3:Array Value) (a4:Nat) (a5:Nat) (a6:Array Value) (a7:Nat) (a8:Nat) (a9:Int)
def F64_ok:Bool:=(F64 a0 a1 a2 a3 a4 a5 a6 a7 a8 a9).isSome
def F64_0:Int:=match F64 a0 a1 a2 a3 a4 a5 a6 a7 a8 a9 with | some r=>r.r0 | none=>0
end
def dec64:Task→Option (A64×Hp)
  | .call g ⟨[(.agg ⟨[(.int .i64 a0),(.int .i64 a1),(.int .i64 a2),(.func (.via 0 ⟨[]⟩ 0 true) a3 ⟨[.slice (some ⟨0,a4,none⟩) a5 6]⟩),(.func (.via 0 ⟨[]⟩ 0 true) a6 ⟨[.slice (some ⟨0,a7,none⟩) a8 5]⟩)]⟩),(.int .i64 a9)]⟩ h=>(match Nat.beq g 64 with | true=>some (⟨a0,a1,a2,a3,a4,a5,a6,a7,a8,a9⟩,h) | false=>none)
  | _=>none
def alt64 (x:A64)(h:Hp):AT:=.br (F64_ok x.a0 x.a1 x.a2 x.a3 x.a4 x.a5 x.a6 x.a7 x.a8 x.a9) (.leaf (.ret (.int .i64 (F64_0 x.a0 x.a1 x.a2 x.a3 x.a4 x.a5 x.a6 x.a7 x.a8 x.a9)) h)) .no
def p64:Ans:=fnAns dec64 alt64
theorem ha64:∀(x:A64) (h:Hp)(o:Out),(alt64 x h).out=some o→∃r,(rt64 x.a0 x.a1 x.a2 x.a3 x.a4 x.a5 x.a6 x.a7 x.a8 x.a9).val=some r∧o=.ret (en64 r) h:=by
  intro x h o e
  unfold alt64 at e
  simp only [AT.out]at e
  obtain ⟨g,e⟩:=cond_some e
  unfold F64_ok at g
  obtain ⟨r,hF⟩:=Option.isSome_iff_exists.1 g
  have hv:F64 x.a0 x.a1 x.a2 x.a3 x.a4 x.a5 x.a6 x.a7 x.a8 x.a9=(rt64 x.a0 x.a1 x.a2 x.a3 x.a4 x.a5 x.a6 x.a7 x.a8 x.a9).val:=by delta F64;exact rfl
  refine ⟨r,hv.symm.trans hF,?_⟩
  simp only [Option.some.injEq]at e
  rw [← e]
  have k0:F64_0 x.a0 x.a1 x.a2 x.a3 x.a4 x.a5 x.a6 x.a7 x.a8 x.a9=r.r0:=by
    show (match F64 x.a0 x.a1 x.a2 x.a3 x.a4 x.a5 x.a6 x.a7 x.a8 x.a9 with | some r=>r.r0 | none=>0)=r.r0
    rw [hF]
  rw [k0]<;>rfl
theorem hd64:∀(t:Task) (x:A64)(h:Hp),dec64 t=some (x,h)→t=.call 64 ⟨[(.agg ⟨[(.int .i64 x.a0),(.int .i64 x.a1),(.int .i64 x.a2),(lstV x.a3 x.a4 x.a5 6),(lstV x.a6 x.a7 x.a8 5)]⟩),(.int .i64 x.a9)]⟩ h:=by
  intro t x h e
  unfold dec64 at e
  split at e
  case h_2=>cases e
  split at e
  case h_2=>cases e
  rename_i hg
  simp only [Option.some.injEq,Prod.mk.injEq]at e
  obtain ⟨rfl,rfl⟩:=e
  rw [Nat.eq_of_beq_eq_true hg]
theorem known64:Known Try.prog p64:=by
  obtain ⟨J0,hJ0⟩:=kl64_0
  exact Known.fn noNG mixed (Known.or known62 hJ0) (n:=60) (zs:=[0]) 64 (fun x:A64=>[(.agg ⟨[(.int .i64 x.a0),(.int .i64 x.a1),(.int .i64 x.a2),(lstV x.a3 x.a4 x.a5 6),(lstV x.a6 x.a7 x.a8 5)]⟩),(.int .i64 x.a9)]) (fun x=>rt64 x.a0 x.a1 x.a2 x.a3 x.a4 x.a5 x.a6 x.a7 x.a8 x.a9) en64 (fun x=>T64 J0 x.a0 x.a1 x.a2 x.a3 x.a4 x.a5 x.a6 x.a7 x.a8 x.a9) (fun x=>rfl) dec64 alt64 hd64 ha64
end
end Go.Proofs.Ytmppkpdoonljpaa
