/- Part 8 of the texts below the claim. Conditions: none. -/
import Derived.Test.YtoghoeebiddblaaMg7
set_option linter.unusedVariables false
set_option linter.unusedSimpArgs false
namespace Go.Proofs.Ytoghoeebiddblaa
open Go.Gi Go.RowKit Go.Proofs.Ytoghoeebiddblaa.Old
noncomputable section
set_option maxRecDepth 100000
set_option maxHeartbeats 4000000
structure R13 where
  (r0:Int)
structure A13 where
  (a0 a1 a2:Int)
def rt13 (a0 a1 a2:Int):RT R13 :=
  .br (F40_ok a0 (1:Int) (100000000:Int)) (.br (not (F40_0 a0 (1:Int) (100000000:Int))) (.leaf ⟨(7:Int)⟩) (.br (F41_ok a1 a2 (1:Int) (10000:Int)) (.br (not (F41_0 a1 a2 (1:Int) (10000:Int))) (.leaf ⟨(7:Int)⟩) (.leaf ⟨(0:Int)⟩)) (.no))) (.no)
def en13 (r:R13):Value:=(.int .i64 r.r0)
theorem T13  (a0 a1 a2:Int):evC Try.prog (Ans.c (p40.or p41)) 60 (.call 13 ⟨[(.agg ⟨[(.int .i64 a0),(.int .i64 a1),(.int .i64 a2)]⟩)]⟩ ⟨[],0,[]⟩) (frzK [0])=(rt13 a0 a1 a2).out (fun r=>.ret (en13 r) ⟨[],0,[]⟩):=by kernel_rfl
def F13 (a0 a1 a2:Int):Option R13:=(rt13 a0 a1 a2).val
section
variable (a0 a1 a2:Int)
def F13_ok:Bool:=(F13 a0 a1 a2).isSome
def F13_0:Int:=match F13 a0 a1 a2 with | some r=>r.r0 | none=>0
end
def dec13:Task→Option (A13×Hp)
  | .call g ⟨[(.agg ⟨[(.int .i64 a0),(.int .i64 a1),(.int .i64 a2)]⟩)]⟩ h=>(match Nat.beq g 13 with | true=>some (⟨a0,a1,a2⟩,h) | false=>none)
  | _=>none
def alt13 (x:A13)(h:Hp):AT:=.br (F13_ok x.a0 x.a1 x.a2) (.leaf (.ret (.int .i64 (F13_0 x.a0 x.a1 x.a2)) h)) .no
def p13:Ans:=fnAns dec13 alt13
theorem ha13:∀(x:A13) (h:Hp)(o:Out),(alt13 x h).out=some o→∃r,(rt13 x.a0 x.a1 x.a2).val=some r∧o=.ret (en13 r) h:=by
  intro x h o e
  unfold alt13 at e
  simp only [AT.out]at e
  obtain ⟨g,e⟩:=cond_some e
  unfold F13_ok at g
  obtain ⟨r,hF⟩:=Option.isSome_iff_exists.1 g
  have hv:F13 x.a0 x.a1 x.a2=(rt13 x.a0 x.a1 x.a2).val:=by delta F13;exact rfl
  refine ⟨r,hv.symm.trans hF,?_⟩
  simp only [Option.some.injEq]at e
  rw [← e]
  have k0:F13_0 x.a0 x.a1 x.a2=r.r0:=by
    show (match F13 x.a0 x.a1 x.a2 with | some r=>r.r0 | none=>0)=r.r0
    rw [hF]
  rw [k0]<;>rfl
theorem hd13:∀(t:Task) (x:A13)(h:Hp),dec13 t=some (x,h)→t=.call 13 ⟨[(.agg ⟨[(.int .i64 x.a0),(.int .i64 x.a1),(.int .i64 x.a2)]⟩)]⟩ h:=by
  intro t x h e
  unfold dec13 at e
  split at e
  case h_2=>cases e
  split at e
  case h_2=>cases e
  rename_i hg
  simp only [Option.some.injEq,Prod.mk.injEq]at e
  obtain ⟨rfl,rfl⟩:=e
  rw [Nat.eq_of_beq_eq_true hg]
theorem known13:Known Try.prog p13:=by
  exact Known.fn noNG mixed (Known.or known40 known41) (n:=60) (zs:=[0]) 13 (fun x:A13=>[(.agg ⟨[(.int .i64 x.a0),(.int .i64 x.a1),(.int .i64 x.a2)]⟩)]) (fun x=>rt13 x.a0 x.a1 x.a2) en13 (fun x=>T13  x.a0 x.a1 x.a2) (fun x=>rfl) dec13 alt13 hd13 ha13
structure R14 where
  (r0:Int)
structure A14 where
  (a0 a1 a2:Int)
def rt14 (a0 a1 a2:Int):RT R14 :=
  .br (F42_ok a0 (1:Int) (100000000:Int)) (.br (not (F42_0 a0 (1:Int) (100000000:Int))) (.leaf ⟨(7:Int)⟩) (.br (F42_ok a1 (1:Int) (10000:Int)) (.br (not (F42_0 a1 (1:Int) (10000:Int))) (.leaf ⟨(7:Int)⟩) (.br (F42_ok a2 a1 (10000:Int)) (.br (not (F42_0 a2 a1 (10000:Int))) (.leaf ⟨(7:Int)⟩) (.leaf ⟨(0:Int)⟩)) (.no))) (.no))) (.no)
def en14 (r:R14):Value:=(.int .i64 r.r0)
theorem T14  (a0 a1 a2:Int):evC Try.prog (Ans.c p42) 60 (.call 14 ⟨[(.agg ⟨[(.int .i64 a0),(.int .i64 a1),(.int .i64 a2)]⟩)]⟩ ⟨[],0,[]⟩) (frzK [0])=(rt14 a0 a1 a2).out (fun r=>.ret (en14 r) ⟨[],0,[]⟩):=by kernel_rfl
def F14 (a0 a1 a2:Int):Option R14:=(rt14 a0 a1 a2).val
section
variable (a0 a1 a2:Int)
def F14_ok:Bool:=(F14 a0 a1 a2).isSome
def F14_0:Int:=match F14 a0 a1 a2 with | some r=>r.r0 | none=>0
end
def dec14:Task→Option (A14×Hp)
  | .call g ⟨[(.agg ⟨[(.int .i64 a0),(.int .i64 a1),(.int .i64 a2)]⟩)]⟩ h=>(match Nat.beq g 14 with | true=>some (⟨a0,a1,a2⟩,h) | false=>none)
  | _=>none
def alt14 (x:A14)(h:Hp):AT:=.br (F14_ok x.a0 x.a1 x.a2) (.leaf (.ret (.int .i64 (F14_0 x.a0 x.a1 x.a2)) h)) .no
def p14:Ans:=fnAns dec14 alt14
theorem ha14:∀(x:A14) (h:Hp)(o:Out),(alt14 x h).out=some o→∃r,(rt14 x.a0 x.a1 x.a2).val=some r∧o=.ret (en14 r) h:=by
  intro x h o e
  unfold alt14 at e
  simp only [AT.out]at e
  obtain ⟨g,e⟩:=cond_some e
  unfold F14_ok at g
  obtain ⟨r,hF⟩:=Option.isSome_iff_exists.1 g
  have hv:F14 x.a0 x.a1 x.a2=(rt14 x.a0 x.a1 x.a2).val:=by delta F14;exact rfl
  refine ⟨r,hv.symm.trans hF,?_⟩
  simp only [Option.some.injEq]at e
  rw [← e]
  have k0:F14_0 x.a0 x.a1 x.a2=r.r0:=by
    show (match F14 x.a0 x.a1 x.a2 with | some r=>r.r0 | none=>0)=r.r0
    rw [hF]
  rw [k0]<;>rfl
theorem hd14:∀(t:Task) (x:A14)(h:Hp),dec14 t=some (x,h)→t=.call 14 ⟨[(.agg ⟨[(.int .i64 x.a0),(.int .i64 x.a1),(.int .i64 x.a2)]⟩)]⟩ h:=by
  intro t x h e
  unfold dec14 at e
  split at e
  case h_2=>cases e
  split at e
  case h_2=>cases e
  rename_i hg
  simp only [Option.some.injEq,Prod.mk.injEq]at e
  obtain ⟨rfl,rfl⟩:=e
  rw [Nat.eq_of_beq_eq_true hg]
theorem known14:Known Try.prog p14:=by
  exact Known.fn noNG mixed known42 (n:=60) (zs:=[0]) 14 (fun x:A14=>[(.agg ⟨[(.int .i64 x.a0),(.int .i64 x.a1),(.int .i64 x.a2)]⟩)]) (fun x=>rt14 x.a0 x.a1 x.a2) en14 (fun x=>T14  x.a0 x.a1 x.a2) (fun x=>rfl) dec14 alt14 hd14 ha14
structure R44 where
  (r0:Bool)
structure A44 where
  (a0 a1:Int)
  (a2 a3:Int)
  (a4 a5 a6:Int)
def rt44 (a0 a1:Int)(a2 a3:Int)(a4 a5 a6:Int):RT R44 :=
  .br (F41_ok a1 a2 (-2000000000:Int) (2000000000:Int)) (.br (F41_0 a1 a2 (-2000000000:Int) (2000000000:Int)) (.br (F41_ok a3 a4 (-2000000000:Int) (2000000000:Int)) (.br (F41_0 a3 a4 (-2000000000:Int) (2000000000:Int)) (.br (F41_ok a5 a6 (0:Int) (100000:Int)) (.leaf ⟨(F41_0 a5 a6 (0:Int) (100000:Int))⟩) (.no)) (.leaf ⟨false⟩)) (.no)) (.leaf ⟨false⟩)) (.no)
def en44 (r:R44):Value:=(.bool r.r0)
theorem T44  (a0 a1:Int) (a2 a3:Int) (a4 a5 a6:Int):evC Try.prog (Ans.c p41) 60 (.call 44 ⟨[(.agg ⟨[(.int .i64 a0),(.int .i64 a1),(.int .i64 a2),(.int .i64 a3),(.int .i64 a4),(.int .i64 a5),(.int .i64 a6)]⟩)]⟩ ⟨[],0,[]⟩) (frzK [0])=(rt44 a0 a1 a2 a3 a4 a5 a6).out (fun r=>.ret (en44 r) ⟨[],0,[]⟩):=by kernel_rfl
def F44 (a0 a1:Int)(a2 a3:Int)(a4 a5 a6:Int):Option R44:=(rt44 a0 a1 a2 a3 a4 a5 a6).val
section
variable (a0 a1:Int) (a2 a3:Int) (a4 a5 a6:Int)
def F44_ok:Bool:=(F44 a0 a1 a2 a3 a4 a5 a6).isSome
def F44_0:Bool:=match F44 a0 a1 a2 a3 a4 a5 a6 with | some r=>r.r0 | none=>false
end
def dec44:Task→Option (A44×Hp)
  | .call g ⟨[(.agg ⟨[(.int .i64 a0),(.int .i64 a1),(.int .i64 a2),(.int .i64 a3),(.int .i64 a4),(.int .i64 a5),(.int .i64 a6)]⟩)]⟩ h=>(match Nat.beq g 44 with | true=>some (⟨a0,a1,a2,a3,a4,a5,a6⟩,h) | false=>none)
  | _=>none
def alt44 (x:A44)(h:Hp):AT:=.br (F44_ok x.a0 x.a1 x.a2 x.a3 x.a4 x.a5 x.a6) (.leaf (.ret (.bool (F44_0 x.a0 x.a1 x.a2 x.a3 x.a4 x.a5 x.a6)) h)) .no
def p44:Ans:=fnAns dec44 alt44
theorem ha44:∀(x:A44) (h:Hp)(o:Out),(alt44 x h).out=some o→∃r,(rt44 x.a0 x.a1 x.a2 x.a3 x.a4 x.a5 x.a6).val=some r∧o=.ret (en44 r) h:=by
  intro x h o e
  unfold alt44 at e
  simp only [AT.out]at e
  obtain ⟨g,e⟩:=cond_some e
  unfold F44_ok at g
  obtain ⟨r,hF⟩:=Option.isSome_iff_exists.1 g
  have hv:F44 x.a0 x.a1 x.a2 x.a3 x.a4 x.a5 x.a6=(rt44 x.a0 x.a1 x.a2 x.a3 x.a4 x.a5 x.a6).val:=by delta F44;exact rfl
  refine ⟨r,hv.symm.trans hF,?_⟩
  simp only [Option.some.injEq]at e
  rw [← e]
  have k0:F44_0 x.a0 x.a1 x.a2 x.a3 x.a4 x.a5 x.a6=r.r0:=by
    show (match F44 x.a0 x.a1 x.a2 x.a3 x.a4 x.a5 x.a6 with | some r=>r.r0 | none=>false)=r.r0
    rw [hF]
  rw [k0]<;>rfl
theorem hd44:∀(t:Task) (x:A44)(h:Hp),dec44 t=some (x,h)→t=.call 44 ⟨[(.agg ⟨[(.int .i64 x.a0),(.int .i64 x.a1),(.int .i64 x.a2),(.int .i64 x.a3),(.int .i64 x.a4),(.int .i64 x.a5),(.int .i64 x.a6)]⟩)]⟩ h:=by
  intro t x h e
  unfold dec44 at e
  split at e
  case h_2=>cases e
  split at e
  case h_2=>cases e
  rename_i hg
  simp only [Option.some.injEq,Prod.mk.injEq]at e
  obtain ⟨rfl,rfl⟩:=e
  rw [Nat.eq_of_beq_eq_true hg]
theorem known44:Known Try.prog p44:=by
  exact Known.fn noNG mixed known41 (n:=60) (zs:=[0]) 44 (fun x:A44=>[(.agg ⟨[(.int .i64 x.a0),(.int .i64 x.a1),(.int .i64 x.a2),(.int .i64 x.a3),(.int .i64 x.a4),(.int .i64 x.a5),(.int .i64 x.a6)]⟩)]) (fun x=>rt44 x.a0 x.a1 x.a2 x.a3 x.a4 x.a5 x.a6) en44 (fun x=>T44  x.a0 x.a1 x.a2 x.a3 x.a4 x.a5 x.a6) (fun x=>rfl) dec44 alt44 hd44 ha44
structure R46 where
  (r0 r1:Int)
structure A46 where
  (a0 a1:Int)
  (a2 a3:Int)
def rt46 (a0 a1:Int)(a2 a3:Int):RT R46 :=
  .leaf ⟨(IntKind.wrap .i64 (a0+a2)),(IntKind.wrap .i64 (a1+a3))⟩
def en46 (r:R46):Value:=(.agg ⟨[(.int .i64 r.r0),(.int .i64 r.r1)]⟩)
theorem T46  (a0 a1:Int) (a2 a3:Int):evC Try.prog (Ans.c (fun _=>none:Ans)) 60 (.call 46 ⟨[(.agg ⟨[(.int .i64 a0),(.int .i64 a1)]⟩),(.agg ⟨[(.int .i64 a2),(.int .i64 a3)]⟩)]⟩ ⟨[],0,[]⟩) (frzK [0])=(rt46 a0 a1 a2 a3).out (fun r=>.ret (en46 r) ⟨[],0,[]⟩):=by kernel_rfl
def F46 (a0 a1:Int)(a2 a3:Int):Option R46:=(rt46 a0 a1 a2 a3).val
section
variable (a0 a1:Int) (a2 a3:Int)
def F46_ok:Bool:=(F46 a0 a1 a2 a3).isSome
def F46_0:Int:=match F46 a0 a1 a2 a3 with | some r=>r.r0 | none=>0
def F46_1:Int:=match F46 a0 a1 a2 a3 with | some r=>r.r1 | none=>0
end
def dec46:Task→Option (A46×Hp)
  | .call g ⟨[(.agg ⟨[(.int .i64 a0),(.int .i64 a1)]⟩),(.agg ⟨[(.int .i64 a2),(.int .i64 a3)]⟩)]⟩ h=>(match Nat.beq g 46 with | true=>some (⟨a0,a1,a2,a3⟩,h) | false=>none)
  | _=>none
def alt46 (x:A46)(h:Hp):AT:=.br (F46_ok x.a0 x.a1 x.a2 x.a3) (.leaf (.ret (.agg ⟨[(.int .i64 (F46_0 x.a0 x.a1 x.a2 x.a3)),(.int .i64 (F46_1 x.a0 x.a1 x.a2 x.a3))]⟩) h)) .no
def p46:Ans:=fnAns dec46 alt46
theorem ha46:∀(x:A46) (h:Hp)(o:Out),(alt46 x h).out=some o→∃r,(rt46 x.a0 x.a1 x.a2 x.a3).val=some r∧o=.ret (en46 r) h:=by
  intro x h o e
  unfold alt46 at e
  simp only [AT.out]at e
  obtain ⟨g,e⟩:=cond_some e
  unfold F46_ok at g
  obtain ⟨r,hF⟩:=Option.isSome_iff_exists.1 g
  have hv:F46 x.a0 x.a1 x.a2 x.a3=(rt46 x.a0 x.a1 x.a2 x.a3).val:=by delta F46;exact rfl
  refine ⟨r,hv.symm.trans hF,?_⟩
  simp only [Option.some.injEq]at e
  rw [← e]
  have k0:F46_0 x.a0 x.a1 x.a2 x.a3=r.r0:=by
    show (match F46 x.a0 x.a1 x.a2 x.a3 with | some r=>r.r0 | none=>0)=r.r0
    rw [hF]
  have k1:F46_1 x.a0 x.a1 x.a2 x.a3=r.r1:=by
    show (match F46 x.a0 x.a1 x.a2 x.a3 with | some r=>r.r1 | none=>0)=r.r1
    rw [hF]
  rw [k0,k1]<;>rfl
theorem hd46:∀(t:Task) (x:A46)(h:Hp),dec46 t=some (x,h)→t=.call 46 ⟨[(.agg ⟨[(.int .i64 x.a0),(.int .i64 x.a1)]⟩),(.agg ⟨[(.int .i64 x.a2),(.int .i64 x.a3)]⟩)]⟩ h:=by
  intro t x h e
  unfold dec46 at e
  split at e
  case h_2=>cases e
  split at e
  case h_2=>cases e
  rename_i hg
  simp only [Option.some.injEq,Prod.mk.injEq]at e
  obtain ⟨rfl,rfl⟩:=e
  rw [Nat.eq_of_beq_eq_true hg]
theorem known46:Known Try.prog p46:=by
  exact Known.fn noNG mixed (Known.nothing Try.prog) (n:=60) (zs:=[0]) 46 (fun x:A46=>[(.agg ⟨[(.int .i64 x.a0),(.int .i64 x.a1)]⟩),(.agg ⟨[(.int .i64 x.a2),(.int .i64 x.a3)]⟩)]) (fun x=>rt46 x.a0 x.a1 x.a2 x.a3) en46 (fun x=>T46  x.a0 x.a1 x.a2 x.a3) (fun x=>rfl) dec46 alt46 hd46 ha46
structure R76 where
  (r0 r1:Int)
structure A76 where
  (a0 a1 a2:Int)
def rt76 (a0 a1 a2:Int):RT R76 :=
  .leaf ⟨(IntKind.wrap .i64 (a0*a2)),(IntKind.wrap .i64 (a1*a2))⟩
def en76 (r:R76):Value:=(.agg ⟨[(.int .i64 r.r0),(.int .i64 r.r1)]⟩)
theorem T76  (a0 a1 a2:Int):evC Try.prog (Ans.c (fun _=>none:Ans)) 60 (.call 76 ⟨[(.agg ⟨[(.int .i64 a0),(.int .i64 a1)]⟩),(.int .i64 a2)]⟩ ⟨[],0,[]⟩) (frzK [0])=(rt76 a0 a1 a2).out (fun r=>.ret (en76 r) ⟨[],0,[]⟩):=by kernel_rfl
def F76 (a0 a1 a2:Int):Option R76:=(rt76 a0 a1 a2).val
section
variable (a0 a1 a2:Int)
def F76_ok:Bool:=(F76 a0 a1 a2).isSome
def F76_0:Int:=match F76 a0 a1 a2 with | some r=>r.r0 | none=>0
def F76_1:Int:=match F76 a0 a1 a2 with | some r=>r.r1 | none=>0
end
def dec76:Task→Option (A76×Hp)
  | .call g ⟨[(.agg ⟨[(.int .i64 a0),(.int .i64 a1)]⟩),(.int .i64 a2)]⟩ h=>(match Nat.beq g 76 with | true=>some (⟨a0,a1,a2⟩,h) | false=>none)
  | _=>none
def alt76 (x:A76)(h:Hp):AT:=.br (F76_ok x.a0 x.a1 x.a2) (.leaf (.ret (.agg ⟨[(.int .i64 (F76_0 x.a0 x.a1 x.a2)),(.int .i64 (F76_1 x.a0 x.a1 x.a2))]⟩) h)) .no
def p76:Ans:=fnAns dec76 alt76
theorem ha76:∀(x:A76) (h:Hp)(o:Out),(alt76 x h).out=some o→∃r,(rt76 x.a0 x.a1 x.a2).val=some r∧o=.ret (en76 r) h:=by
  intro x h o e
  unfold alt76 at e
  simp only [AT.out]at e
  obtain ⟨g,e⟩:=cond_some e
  unfold F76_ok at g
  obtain ⟨r,hF⟩:=Option.isSome_iff_exists.1 g
  have hv:F76 x.a0 x.a1 x.a2=(rt76 x.a0 x.a1 x.a2).val:=by delta F76;exact rfl
  refine ⟨r,hv.symm.trans hF,?_⟩
  simp only [Option.some.injEq]at e
  rw [← e]
  have k0:F76_0 x.a0 x.a1 x.a2=r.r0:=by
    show (match F76 x.a0 x.a1 x.a2 with | some r=>r.r0 | none=>0)=r.r0
    rw [hF]
  have k1:F76_1 x.a0 x.a1 x.a2=r.r1:=by
    show (match F76 x.a0 x.a1 x.a2 with | some r=>r.r1 | none=>0)=r.r1
    rw [hF]
  rw [k0,k1]<;>rfl
theorem hd76:∀(t:Task) (x:A76)(h:Hp),dec76 t=some (x,h)→t=.call 76 ⟨[(.agg ⟨[(.int .i64 x.a0),(.int .i64 x.a1)]⟩),(.int .i64 x.a2)]⟩ h:=by
  intro t x h e
  unfold dec76 at e
  split at e
  case h_2=>cases e
  split at e
  case h_2=>cases e
  rename_i hg
  simp only [Option.some.injEq,Prod.mk.injEq]at e
  obtain ⟨rfl,rfl⟩:=e
  rw [Nat.eq_of_beq_eq_true hg]
theorem known76:Known Try.prog p76:=by
  exact Known.fn noNG mixed (Known.nothing Try.prog) (n:=60) (zs:=[0]) 76 (fun x:A76=>[(.agg ⟨[(.int .i64 x.a0),(.int .i64 x.a1)]⟩),(.int .i64 x.a2)]) (fun x=>rt76 x.a0 x.a1 x.a2) en76 (fun x=>T76  x.a0 x.a1 x.a2) (fun x=>rfl) dec76 alt76 hd76 ha76
structure X45_0 where
  (v0:Int)
  (v1:Array Value)
  (v2 v3:Nat)
  (v4 v5:Int)
  (v6 v7:Int)
  (v8 v9:Int)
inductive D45_0 where
  | k0 (d0 d1:Int) (d2 d3:Int)
def Lp45_0:LoopOf X45_0 D45_0 where
  c:=(theLoop Try.prog 45 0)
  N:=38
  M:=2
  S:=[1,4,5,9,10,11]
  sl:=fun x=>[(.int .i64 x.v0),(Value.pointer (Option.some (Addr.mk 0 0 Option.none))),(Value.pointer (Option.some (Addr.mk 1 0 Option.none))),(lstV x.v1 x.v2 x.v3 6),(.int .i64 x.v4),(.int .i64 x.v5)]
  hp:=fun x=>[.cells ⟨[(.int .i64 x.v6),(.int .i64 x.v7)]⟩ false,.cells ⟨[(.int .i64 x.v8),(.int .i64 x.v9)]⟩ false]
  ex:=fun d=>match d with | .k0 ..=>.exit 0
  pick:=fun e=>match e with | .exit 0=>[4,5] | _=>[]
  dv:=fun d=>match d with | .k0 d0 d1 d2 d3=>[(Value.pointer (Option.some (Addr.mk 0 0 Option.none))),(Value.pointer (Option.some (Addr.mk 1 0 Option.none)))]
  dh:=fun d=>match d with | .k0 d0 d1 d2 d3=>[.cells ⟨[(.int .i64 d0),(.int .i64 d1)]⟩ false,.cells ⟨[(.int .i64 d2),(.int .i64 d3)]⟩ false]
theorem ok45_0:Lp45_0.Ok:=⟨fun x=>rfl,fun x=>rfl,fun x=>rfl,fun x=>rfl,fun d=>by cases d<;>rfl,fun d=>by cases d<;>rfl,fun d=>by cases d<;>rfl,fun d=>by cases d<;>(intro h;cases h),fun d=>by cases d<;>rfl,fun d=>by cases d<;>rfl⟩
def rd45_0 (x:X45_0):RT (Sum X45_0 D45_0):=match x with
  | ⟨v0,v1,v2,v3,v4,v5,v6,v7,v8,v9⟩ =>
     .br (decide (v5<v4)) (.br (and (decide ((0:Int)≤v5)) (decide (v5<(Int.ofNat v3)))) (.br (rdOk v1 [(Leaf.int .i64),(Leaf.int .i64),(Leaf.int .i64),(Leaf.int .i64),(Leaf.int .i64),(Leaf.int .i64)] (v2+((Int.toNat v5)*6))) (.br (decide (v6=v6)) (.br (decide (v7=v7)) (.br (decide (v6=v6)) (.br (decide (v7=v7)) (.br (decide (v8=v8)) (.br (decide (v9=v9)) (.br (decide (v8=v8)) (.br (decide (v9=v9)) (.br (decide ((getInt v1 (((((v2+((Int.toNat v5)*6))+1)+1)+1)+1))=(getInt v1 (((((v2+((Int.toNat v5)*6))+1)+1)+1)+1)))) (.br (decide ((getInt v1 ((((((v2+((Int.toNat v5)*6))+1)+1)+1)+1)+1))=(getInt v1 ((((((v2+((Int.toNat v5)*6))+1)+1)+1)+1)+1)))) (.br (decide ((getInt v1 (((((v2+((Int.toNat v5)*6))+1)+1)+1)+1))=(getInt v1 (((((v2+((Int.toNat v5)*6))+1)+1)+1)+1)))) (.br (decide ((getInt v1 ((((((v2+((Int.toNat v5)*6))+1)+1)+1)+1)+1))=(getInt v1 ((((((v2+((Int.toNat v5)*6))+1)+1)+1)+1)+1)))) (.br (decide (v8=v8)) (.br (decide (v9=v9)) (.br (decide (v8=v8)) (.br (decide (v9=v9))
     (.br (decide ((getInt v1 (((((v2+((Int.toNat v5)*6))+1)+1)+1)+1))=(getInt v1 (((((v2+((Int.toNat v5)*6))+1)+1)+1)+1)))) (.br (decide ((getInt v1 ((((((v2+((Int.toNat v5)*6))+1)+1)+1)+1)+1))=(getInt v1 ((((((v2+((Int.toNat v5)*6))+1)+1)+1)+1)+1)))) (.br (decide ((getInt v1 (((((v2+((Int.toNat v5)*6))+1)+1)+1)+1))=(getInt v1 (((((v2+((Int.toNat v5)*6))+1)+1)+1)+1)))) (.br (decide ((getInt v1 ((((((v2+((Int.toNat v5)*6))+1)+1)+1)+1)+1))=(getInt v1 ((((((v2+((Int.toNat v5)*6))+1)+1)+1)+1)+1)))) (.br (decide (v8=v8)) (.br (decide (v9=v9)) (.br (decide (v8=v8))
     (.br (decide (v9=v9)) (.leaf (.inl ⟨v0,v1,v2,v3,v4,(IntKind.wrap .i64 (v5+(1:Int))),(F46_0 v6 v7 (F76_0 (getInt v1 (((v2+((Int.toNat v5)*6))+1)+1)) (getInt v1 ((((v2+((Int.toNat v5)*6))+1)+1)+1)) (max (IntKind.wrap .i64 ((min (getInt v1 ((v2+((Int.toNat v5)*6))+1)) v0)-(getInt v1 (v2+((Int.toNat v5)*6))))) (0:Int))) (F76_1 (getInt v1 (((v2+((Int.toNat v5)*6))+1)+1)) (getInt v1 ((((v2+((Int.toNat v5)*6))+1)+1)+1)) (max (IntKind.wrap .i64 ((min (getInt v1 ((v2+((Int.toNat v5)*6))+1)) v0)-(getInt v1 (v2+((Int.toNat v5)*6))))) (0:Int)))),(F46_1 v6 v7 (F76_0 (getInt v1 (((v2+((Int.toNat v5)*6))+1)+1)) (getInt v1 ((((v2+((Int.toNat v5)*6))+1)+1)+1)) (max (IntKind.wrap .i64 ((min (getInt v1 ((v2+((Int.toNat v5)*6))+1)) v0)-(getInt v1 (v2+((Int.toNat v5)*6))))) (0:Int))) (F76_1 (getInt v1 (((v2+((Int.toNat v5)*6))+1)+1)) (getInt v1 ((((v2+((Int.toNat v5)*6))+1)+1)+1)) (max (IntKind.wrap .i64 ((min (getInt v1 ((v2+((Int.toNat v5)*6))+1)) v0)-(getInt v1 (v2+((Int.toNat v5)*6))))) (0:Int)))),(F46_0 v8 v9 (F76_0 (getInt v1 (((((v2+((Int.toNat v5)*6))+1)+1)+1)+1)) (getInt v1 ((((((v2+((Int.toNat v5)*6))+1)+1)+1)+1)+1)) (max (IntKind.wrap .i64 ((min (getInt v1 ((v2+((Int.toNat v5)*6))+1)) v0)-(getInt v1 (v2+((Int.toNat v5)*6))))) (0:Int))) (F76_1 (getInt v1 (((((v2+((Int.toNat v5)*6))+1)+1)+1)+1)) (getInt v1 ((((((v2+((Int.toNat v5)*6))+1)+1)+1)+1)+1)) (max (IntKind.wrap .i64 ((min (getInt v1 ((v2+((Int.toNat v5)*6))+1)) v0)-(getInt v1 (v2+((Int.toNat v5)*6))))) (0:Int)))),(F46_1 v8 v9 (F76_0 (getInt v1 (((((v2+((Int.toNat v5)*6))+1)+1)+1)+1)) (getInt v1 ((((((v2+((Int.toNat v5)*6))+1)+1)+1)+1)+1)) (max (IntKind.wrap .i64 ((min (getInt v1 ((v2+((Int.toNat v5)*6))+1)) v0)-(getInt v1 (v2+((Int.toNat v5)*6))))) (0:Int))) (F76_1 (getInt v1 (((((v2+((Int.toNat v5)*6))+1)+1)+1)+1)) (getInt v1 ((((((v2+((Int.toNat v5)*6))+1)+1)+1)+1)+1)) (max (IntKind.wrap .i64 ((min (getInt v1 ((v2+((Int.toNat v5)*6))+1)) v0)-(getInt v1 (v2+((Int.toNat v5)*6))))) (0:Int))))⟩)) (.no)) (.no)) (.no)) (.no)) (.no)) (.no)) (.no)) (.no)) (.no)) (.no)) (.no)) (.no)) (.no)) (.no)) (.no)) (.no)) (.no)) (.no)) (.no)) (.no)) (.no)) (.no)) (.no)) (.no)) (.no)) (.no)) (.leaf (.inr (.k0 v6 v7 v8 v9)))
theorem T45_0  (y:List Value) (v0:Int) (v1:Array Value) (v2 v3:Nat) (v4 v5:Int) (v6 v7:Int) (v8 v9:Int):evC Try.prog (Ans.c (p46.or p76)) 60 (.code none (theLoop Try.prog 45 0) ⟨sets (junkF 38 y) [(1,(.int .i64 v0)),(4,(Value.pointer (some (Addr.mk 0 0 none)))),(5,(Value.pointer (some (Addr.mk 1 0 none)))),(9,(lstV v1 v2 v3 6)),(10,(.int .i64 v4)),(11,(.int .i64 v5))],[],⟨[.cells ⟨[(.int .i64 v6),(.int .i64 v7)]⟩ false,.cells ⟨[(.int .i64 v8),(.int .i64 v9)]⟩ false],0,[]⟩⟩) (sumK 2 38 Lp45_0.pk)=(rd45_0 ⟨v0,v1,v2,v3,v4,v5,v6,v7,v8,v9⟩).out Lp45_0.enc:=by kernel_rfl
def L45_0 (x:X45_0):Option D45_0:=loopR rd45_0 x
section
variable (x:X45_0)
def L45_0_k0:Bool:=match L45_0 x with | some (.k0 ..)=>true | _=>false
def Qc0:Int:=match L45_0 x with | some (.k0 d _ _ _)=>d | _=>0
def Qc1:Int:=match L45_0 x with | some (.k0 _ d _ _)=>d | _=>0
def Qc2:Int:=match L45_0 x with | some (.k0 _ _ d _)=>d | _=>0
def Qc3:Int:=match L45_0 x with | some (.k0 _ _ _ d)=>d | _=>0
end
def dec45_0:Task→Option (Code×X45_0)
  | .code none (.loop code) ⟨t,[],⟨[.cells ⟨[(.int .i64 v6),(.int .i64 v7)]⟩ false,.cells ⟨[(.int .i64 v8),(.int .i64 v9)]⟩ false],0,[]⟩⟩ =>
    (match Nat.beq (firstReg code) 2,lenIs t 38,lget t 1,lget t 4,lget t 5,lget t 9,lget t 10,lget t 11 with
    | true,true,(.int .i64 v0),(Value.pointer (Option.some (Addr.mk 0 0 Option.none))),(Value.pointer (Option.some (Addr.mk 1 0 Option.none))),(.func (.via 0 ⟨[]⟩ 0 true) v1 ⟨[.slice (some ⟨0,v2,none⟩) v3 6]⟩),(.int .i64 v4),(.int .i64 v5)=>some (code,⟨v0,v1,v2,v3,v4,v5,v6,v7,v8,v9⟩)
    | _,_,_,_,_,_,_,_=>none)
  | _=>none
def alt45_0 (x:X45_0)(j:List Value):AT:=.br (L45_0_k0 x) (loopEnd 38 (.exit 0) [(4,(Value.pointer (Option.some (Addr.mk 0 0 Option.none)))),(5,(Value.pointer (Option.some (Addr.mk 1 0 Option.none))))] ⟨[.cells ⟨[(.int .i64 (Qc0 x)),(.int .i64 (Qc1 x))]⟩ false,.cells ⟨[(.int .i64 (Qc2 x)),(.int .i64 (Qc3 x))]⟩ false],0,[]⟩ j) (.no)
def la45_0 (J:Task→List Value):Ans:=loopAns Lp45_0.c dec45_0 alt45_0 J
theorem ha45_0:∀(x:X45_0) (j:List Value)(o:Out),(alt45_0 x j).out=some o→∃d,loopR rd45_0 x=some d∧o=Lp45_0.tail d j:=by
  intro x j o h
  unfold alt45_0 at h
  cases hL:L45_0 x with
  | none=>simp [L45_0_k0,Qc0,Qc1,Qc2,Qc3,hL,AT.out]at h
  | some d =>
    refine ⟨d,hL,?_⟩
    cases d<;>(simp only [L45_0_k0,Qc0,Qc1,Qc2,Qc3,hL,AT.out,loopEnd,cond_true,cond_false,Option.some.injEq]at h;rw [← h];rfl)
theorem hd45_0:∀(t:Task) (c:Code)(x:X45_0),dec45_0 t=some (c,x)→c=Lp45_0.c→∃T,t=.code none (.loop Lp45_0.c) ⟨T,[],⟨Lp45_0.hp x,0,[]⟩⟩∧T.length=Lp45_0.N∧∀kv∈Lp45_0.S.zip (Lp45_0.sl x),lget T kv.1=kv.2:=by
  intro t c x h hc
  unfold dec45_0 at h
  split at h
  case h_2=>cases h
  split at h
  case h_2=>cases h
  simp only [Option.some.injEq,Prod.mk.injEq]at h
  obtain ⟨rfl,rfl⟩:=h
  subst hc
  refine ⟨_,rfl,lenIs_eq _ _ (by assumption),?_⟩
  intro kv hk
  simp only [Lp45_0,List.zip_cons_cons,List.zip_nil_right,List.mem_cons,List.not_mem_nil,or_false]at hk
  rcases hk with rfl | rfl | rfl | rfl | rfl | rfl<;>assumption
theorem kl45_0:∃J,Known Try.prog (la45_0 J):=by
  exact LoopOf.known noNG mixed ok45_0 (by decide) (by decide) (Known.or known46 known76) (n:=60) (rd:=rd45_0) (fun x j=>T45_0  j x.v0 x.v1 x.v2 x.v3 x.v4 x.v5 x.v6 x.v7 x.v8 x.v9) dec45_0 alt45_0 hd45_0 ha45_0
structure R45 where
  (r0 r1:Int)
  (r2 r3:Int)
structure A45 where
  (a0:Array Value)
  (a1 a2:Nat)
  (a3:Int)
def rt45 (a0:Array Value)(a1 a2:Nat)(a3:Int):RT R45 :=
  .sw (eqCode (Lp45_0.c) (Lp45_0.c)) true (by simp only [eqCode_self,arrEq_self]) (.br (L45_0_k0 (X45_0.mk a3 a0 a1 a2 (Int.ofNat a2) (0:Int) (0:Int) (0:Int) (0:Int) (0:Int))) (.br (decide ((Qc2 (X45_0.mk a3 a0 a1 a2 (Int.ofNat a2) (0:Int) (0:Int) (0:Int) (0:Int) (0:Int)))=(Qc2 (X45_0.mk a3 a0 a1 a2 (Int.ofNat a2) (0:Int) (0:Int) (0:Int) (0:Int) (0:Int))))) (.br (decide ((Qc3 (X45_0.mk a3 a0 a1 a2 (Int.ofNat a2) (0:Int) (0:Int) (0:Int) (0:Int) (0:Int)))=(Qc3 (X45_0.mk a3 a0 a1 a2 (Int.ofNat a2) (0:Int) (0:Int) (0:Int) (0:Int) (0:Int))))) (.br (decide ((Qc2 (X45_0.mk a3 a0 a1 a2 (Int.ofNat a2) (0:Int) (0:Int) (0:Int) (0:Int) (0:Int)))=(Qc2 (X45_0.mk a3 a0 a1 a2 (Int.ofNat a2) (0:Int) (0:Int) (0:Int) (0:Int) (0:Int)))))
     (.br (decide ((Qc3 (X45_0.mk a3 a0 a1 a2 (Int.ofNat a2) (0:Int) (0:Int) (0:Int) (0:Int) (0:Int)))=(Qc3 (X45_0.mk a3 a0 a1 a2 (Int.ofNat a2) (0:Int) (0:Int) (0:Int) (0:Int) (0:Int))))) (.leaf ⟨(Qc0 (X45_0.mk a3 a0 a1 a2 (Int.ofNat a2) (0:Int) (0:Int) (0:Int) (0:Int) (0:Int))),(Qc1 (X45_0.mk a3 a0 a1 a2 (Int.ofNat a2) (0:Int) (0:Int) (0:Int) (0:Int) (0:Int))),(Qc2 (X45_0.mk a3 a0 a1 a2 (Int.ofNat a2) (0:Int) (0:Int) (0:Int) (0:Int) (0:Int))),(Qc3 (X45_0.mk a3 a0 a1 a2 (Int.ofNat a2) (0:Int) (0:Int) (0:Int) (0:Int) (0:Int)))⟩) (.no)) (.no)) (.no)) (.no)) (.no)) (.no)
def en45 (r:R45):Value:=(.tuple ⟨[(.agg ⟨[(.int .i64 r.r0),(.int .i64 r.r1)]⟩),(.agg ⟨[(.int .i64 r.r2),(.int .i64 r.r3)]⟩)]⟩)
theorem T45 (J0:Task→List Value)(a0:Array Value)(a1 a2:Nat)(a3:Int):evC Try.prog (Ans.c (p46.or (p76.or (la45_0 J0)))) 60 (.call 45 ⟨[(lstV a0 a1 a2 6),(.int .i64 a3)]⟩ ⟨[],0,[]⟩) (frzK [0,0])=(rt45 a0 a1 a2 a3).out (fun r=>.ret (en45 r) ⟨[],0,[]⟩):=by kernel_rfl
def F45 (a0:Array Value)(a1 a2:Nat)(a3:Int):Option R45:=(rt45 a0 a1 a2 a3).val
section
variable (a0:Array Value) (a1 a2:Nat) (a3:Int)
def F45_ok:Bool:=(F45 a0 a1 a2 a3).isSome
def F45_0:Int:=match F45 a0 a1 a2 a3 with | some r=>r.r0 | none=>0
def F45_1:Int:=match F45 a0 a1 a2 a3 with | some r=>r.r1 | none=>0
def F45_2:Int:=match F45 a0 a1 a2 a3 with | some r=>r.r2 | none=>0
def F45_3:Int:=match F45 a0 a1 a2 a3 with | some r=>r.r3 | none=>0
end
def dec45:Task→Option (A45×Hp)
  | .call g ⟨[(.func (.via 0 ⟨[]⟩ 0 true) a0 ⟨[.slice (some ⟨0,a1,none⟩) a2 6]⟩),(.int .i64 a3)]⟩ h=>(match Nat.beq g 45 with | true=>some (⟨a0,a1,a2,a3⟩,h) | false=>none)
  | _=>none
def alt45 (x:A45)(h:Hp):AT:=.br (F45_ok x.a0 x.a1 x.a2 x.a3) (.leaf (.ret (.tuple ⟨[(.agg ⟨[(.int .i64 (F45_0 x.a0 x.a1 x.a2 x.a3)),(.int .i64 (F45_1 x.a0 x.a1 x.a2 x.a3))]⟩),(.agg ⟨[(.int .i64 (F45_2 x.a0 x.a1 x.a2 x.a3)),(.int .i64 (F45_3 x.a0 x.a1 x.a2 x.a3))]⟩)]⟩) h)) .no
def p45:Ans:=fnAns dec45 alt45
theorem ha45:∀(x:A45) (h:Hp)(o:Out),(alt45 x h).out=some o→∃r,(rt45 x.a0 x.a1 x.a2 x.a3).val=some r∧o=.ret (en45 r) h:=by
  intro x h o e
  unfold alt45 at e
  simp only [AT.out]at e
  obtain ⟨g,e⟩:=cond_some e
  unfold F45_ok at g
  obtain ⟨r,hF⟩:=Option.isSome_iff_exists.1 g
  have hv:F45 x.a0 x.a1 x.a2 x.a3=(rt45 x.a0 x.a1 x.a2 x.a3).val:=by delta F45;exact rfl
  refine ⟨r,hv.symm.trans hF,?_⟩
  simp only [Option.some.injEq]at e
  rw [← e]
  have k0:F45_0 x.a0 x.a1 x.a2 x.a3=r.r0:=by
    show (match F45 x.a0 x.a1 x.a2 x.a3 with | some r=>r.r0 | none=>0)=r.r0
    rw [hF]
  have k1:F45_1 x.a0 x.a1 x.a2 x.a3=r.r1:=by
    show (match F45 x.a0 x.a1 x.a2 x.a3 with | some r=>r.r1 | none=>0)=r.r1
    rw [hF]
  have k2:F45_2 x.a0 x.a1 x.a2 x.a3=r.r2:=by
    show (match F45 x.a0 x.a1 x.a2 x.a3 with | some r=>r.r2 | none=>0)=r.r2
    rw [hF]
  have k3:F45_3 x.a0 x.a1 x.a2 x.a3=r.r3:=by
    show (match F45 x.a0 x.a1 x.a2 x.a3 with | some r=>r.r3 | none=>0)=r.r3
    rw [hF]
  rw [k0,k1,k2,k3]<;>rfl
theorem hd45:∀(t:Task) (x:A45)(h:Hp),dec45 t=some (x,h)→t=.call 45 ⟨[(lstV x.a0 x.a1 x.a2 6),(.int .i64 x.a3)]⟩ h:=by
  intro t x h e
  unfold dec45 at e
  split at e
  case h_2=>cases e
  split at e
  case h_2=>cases e
  rename_i hg
  simp only [Option.some.injEq,Prod.mk.injEq]at e
  obtain ⟨rfl,rfl⟩:=e
  rw [Nat.eq_of_beq_eq_true hg]
theorem known45:Known Try.prog p45:=by
  obtain ⟨J0,hJ0⟩:=kl45_0
  exact Known.fn noNG mixed (Known.or known46 (Known.or known76 hJ0)) (n:=60) (zs:=[0,0]) 45 (fun x:A45=>[(lstV x.a0 x.a1 x.a2 6),(.int .i64 x.a3)]) (fun x=>rt45 x.a0 x.a1 x.a2 x.a3) en45 (fun x=>T45 J0 x.a0 x.a1 x.a2 x.a3) (fun x=>rfl) dec45 alt45 hd45 ha45
structure R77 where
  (r0:Int)
structure A77 where
  (a0 a1:Int)
def rt77 (a0 a1:Int):RT R77 :=
  .br (not (decide (a1=(0:Int)))) (.br (not (decide (a1=(0:Int)))) (.br (decide ((Int.tmod a0 a1)<(0:Int))) (.leaf ⟨(IntKind.wrap .i64 ((IntKind.wrap .i64 (Int.tdiv a0 a1))-(1:Int)))⟩) (.leaf ⟨(IntKind.wrap .i64 (Int.tdiv a0 a1))⟩)) (.no)) (.no)
def en77 (r:R77):Value:=(.int .i64 r.r0)
theorem T77  (a0 a1:Int):evC Try.prog (Ans.c (fun _=>none:Ans)) 60 (.call 77 ⟨[(.int .i64 a0),(.int .i64 a1)]⟩ ⟨[],0,[]⟩) (frzK [0])=(rt77 a0 a1).out (fun r=>.ret (en77 r) ⟨[],0,[]⟩):=by kernel_rfl
def F77 (a0 a1:Int):Option R77:=(rt77 a0 a1).val
section
variable (a0 a1:Int)
def F77_ok:Bool:=(F77 a0 a1).isSome
def F77_0:Int:=match F77 a0 a1 with | some r=>r.r0 | none=>0
end
def dec77:Task→Option (A77×Hp)
  | .call g ⟨[(.int .i64 a0),(.int .i64 a1)]⟩ h=>(match Nat.beq g 77 with | true=>some (⟨a0,a1⟩,h) | false=>none)
  | _=>none
def alt77 (x:A77)(h:Hp):AT:=.br (F77_ok x.a0 x.a1) (.leaf (.ret (.int .i64 (F77_0 x.a0 x.a1)) h)) .no
def p77:Ans:=fnAns dec77 alt77
theorem ha77:∀(x:A77) (h:Hp)(o:Out),(alt77 x h).out=some o→∃r,(rt77 x.a0 x.a1).val=some r∧o=.ret (en77 r) h:=by
  intro x h o e
  unfold alt77 at e
  simp only [AT.out]at e
  obtain ⟨g,e⟩:=cond_some e
  unfold F77_ok at g
  obtain ⟨r,hF⟩:=Option.isSome_iff_exists.1 g
  have hv:F77 x.a0 x.a1=(rt77 x.a0 x.a1).val:=by delta F77;exact rfl
  refine ⟨r,hv.symm.trans hF,?_⟩
  simp only [Option.some.injEq]at e
  rw [← e]
  have k0:F77_0 x.a0 x.a1=r.r0:=by
    show (match F77 x.a0 x.a1 with | some r=>r.r0 | none=>0)=r.r0
    rw [hF]
  rw [k0]<;>rfl
theorem hd77:∀(t:Task) (x:A77)(h:Hp),dec77 t=some (x,h)→t=.call 77 ⟨[(.int .i64 x.a0),(.int .i64 x.a1)]⟩ h:=by
  intro t x h e
  unfold dec77 at e
  split at e
  case h_2=>cases e
  split at e
  case h_2=>cases e
  rename_i hg
  simp only [Option.some.injEq,Prod.mk.injEq]at e
  obtain ⟨rfl,rfl⟩:=e
  rw [Nat.eq_of_beq_eq_true hg]
theorem known77:Known Try.prog p77:=by
  exact Known.fn noNG mixed (Known.nothing Try.prog) (n:=60) (zs:=[0]) 77 (fun x:A77=>[(.int .i64 x.a0),(.int .i64 x.a1)]) (fun x=>rt77 x.a0 x.a1) en77 (fun x=>T77  x.a0 x.a1) (fun x=>rfl) dec77 alt77 hd77 ha77
structure R78 where
  (r0:Int)
structure A78 where
  (a0 a1:Int)
def rt78 (a0 a1:Int):RT R78 :=
  .br (F77_ok (IntKind.wrap .i64 ((0:Int)-a0)) a1) (.leaf ⟨(IntKind.wrap .i64 ((0:Int)-(F77_0 (IntKind.wrap .i64 ((0:Int)-a0)) a1)))⟩) (.no)
def en78 (r:R78):Value:=(.int .i64 r.r0)
theorem T78  (a0 a1:Int):evC Try.prog (Ans.c p77) 60 (.call 78 ⟨[(.int .i64 a0),(.int .i64 a1)]⟩ ⟨[],0,[]⟩) (frzK [0])=(rt78 a0 a1).out (fun r=>.ret (en78 r) ⟨[],0,[]⟩):=by kernel_rfl
def F78 (a0 a1:Int):Option R78:=(rt78 a0 a1).val
section
variable (a0 a1:Int)
def F78_ok:Bool:=(F78 a0 a1).isSome
def F78_0:Int:=match F78 a0 a1 with | some r=>r.r0 | none=>0
end
def dec78:Task→Option (A78×Hp)
  | .call g ⟨[(.int .i64 a0),(.int .i64 a1)]⟩ h=>(match Nat.beq g 78 with | true=>some (⟨a0,a1⟩,h) | false=>none)
  | _=>none
def alt78 (x:A78)(h:Hp):AT:=.br (F78_ok x.a0 x.a1) (.leaf (.ret (.int .i64 (F78_0 x.a0 x.a1)) h)) .no
def p78:Ans:=fnAns dec78 alt78
theorem ha78:∀(x:A78) (h:Hp)(o:Out),(alt78 x h).out=some o→∃r,(rt78 x.a0 x.a1).val=some r∧o=.ret (en78 r) h:=by
  intro x h o e
  unfold alt78 at e
  simp only [AT.out]at e
  obtain ⟨g,e⟩:=cond_some e
  unfold F78_ok at g
  obtain ⟨r,hF⟩:=Option.isSome_iff_exists.1 g
  have hv:F78 x.a0 x.a1=(rt78 x.a0 x.a1).val:=by delta F78;exact rfl
  refine ⟨r,hv.symm.trans hF,?_⟩
  simp only [Option.some.injEq]at e
  rw [← e]
  have k0:F78_0 x.a0 x.a1=r.r0:=by
    show (match F78 x.a0 x.a1 with | some r=>r.r0 | none=>0)=r.r0
    rw [hF]
  rw [k0]<;>rfl
theorem hd78:∀(t:Task) (x:A78)(h:Hp),dec78 t=some (x,h)→t=.call 78 ⟨[(.int .i64 x.a0),(.int .i64 x.a1)]⟩ h:=by
  intro t x h e
  unfold dec78 at e
  split at e
  case h_2=>cases e
  split at e
  case h_2=>cases e
  rename_i hg
  simp only [Option.some.injEq,Prod.mk.injEq]at e
  obtain ⟨rfl,rfl⟩:=e
  rw [Nat.eq_of_beq_eq_true hg]
theorem known78:Known Try.prog p78:=by
  exact Known.fn noNG mixed known77 (n:=60) (zs:=[0]) 78 (fun x:A78=>[(.int .i64 x.a0),(.int .i64 x.a1)]) (fun x=>rt78 x.a0 x.a1) en78 (fun x=>T78  x.a0 x.a1) (fun x=>rfl) dec78 alt78 hd78 ha78
structure R47 where
  (r0 r1:Int)
structure A47 where
  (a0 a1:Int)
  (a2 a3:Int)
def rt47 (a0 a1:Int)(a2 a3:Int):RT R47 :=
  .br (F77_ok a0 a2) (.br (F77_ok a0 a3) (.br (F78_ok a1 a2) (.br (F78_ok a1 a3) (.br (decide (a0=a0)) (.br (decide (a0=a0)) (.br (decide (a3=a3)) (.br (decide (a3=a3)) (.br (decide (a1=a1)) (.br (decide (a1=a1)) (.br (decide (a2=a2)) (.br (decide (a2=a2)) (.br (decide (a1=a1)) (.br (decide (a1=a1)) (.br (decide (a3=a3)) (.br (decide (a3=a3)) (.br (decide (a1=a1)) (.br (decide (a1=a1)) (.br (decide (a2=a2)) (.br (decide (a2=a2)) (.br (decide (a1=a1)) (.br (decide (a1=a1)) (.br (decide (a3=a3)) (.br (decide (a3=a3)) (.br (decide ((min (F77_0 a0 a2) (F77_0 a0 a3))=(min (F77_0 a0 a2) (F77_0 a0 a3)))) (.br (decide ((min (F77_0 a0 a2) (F77_0 a0 a3))=(min (F77_0 a0 a2) (F77_0 a0 a3)))) (.br (decide (a1=a1)) (.br (decide (a1=a1)) (.br (decide (a3=a3)) (.br (decide (a3=a3)) (.br (decide ((min (F77_0 a0 a2) (F77_0 a0 a3))=(min (F77_0 a0 a2) (F77_0 a0 a3))))
 (.br (decide ((min (F77_0 a0 a2) (F77_0 a0 a3))=(min (F77_0 a0 a2) (F77_0 a0 a3)))) (.leaf ⟨(min (F77_0 a0 a2) (F77_0 a0 a3)),(max (F78_0 a1 a2) (F78_0 a1 a3))⟩) (.no)) (.no)) (.no)) (.no)) (.no)) (.no)) (.no)) (.no)) (.no)) (.no)) (.no)) (.no)) (.no)) (.no)) (.no)) (.no)) (.no)) (.no)) (.no)) (.no)) (.no)) (.no)) (.no)) (.no)) (.no)) (.no)) (.no)) (.no)) (.no)) (.no)) (.no)) (.no)
def en47 (r:R47):Value:=(.agg ⟨[(.int .i64 r.r0),(.int .i64 r.r1)]⟩)
theorem T47  (a0 a1:Int) (a2 a3:Int):evC Try.prog (Ans.c (p77.or p78)) 60 (.call 47 ⟨[(.agg ⟨[(.int .i64 a0),(.int .i64 a1)]⟩),(.agg ⟨[(.int .i64 a2),(.int .i64 a3)]⟩)]⟩ ⟨[],0,[]⟩) (frzK [0])=(rt47 a0 a1 a2 a3).out (fun r=>.ret (en47 r) ⟨[],0,[]⟩):=by kernel_rfl
def F47 (a0 a1:Int)(a2 a3:Int):Option R47:=(rt47 a0 a1 a2 a3).val
section
variable (a0 a1:Int) (a2 a3:Int)
def F47_ok:Bool:=(F47 a0 a1 a2 a3).isSome
def F47_0:Int:=match F47 a0 a1 a2 a3 with | some r=>r.r0 | none=>0
def F47_1:Int:=match F47 a0 a1 a2 a3 with | some r=>r.r1 | none=>0
end
def dec47:Task→Option (A47×Hp)
  | .call g ⟨[(.agg ⟨[(.int .i64 a0),(.int .i64 a1)]⟩),(.agg ⟨[(.int .i64 a2),(.int .i64 a3)]⟩)]⟩ h=>(match Nat.beq g 47 with | true=>some (⟨a0,a1,a2,a3⟩,h) | false=>none)
  | _=>none
def alt47 (x:A47)(h:Hp):AT:=.br (F47_ok x.a0 x.a1 x.a2 x.a3) (.leaf (.ret (.agg ⟨[(.int .i64 (F47_0 x.a0 x.a1 x.a2 x.a3)),(.int .i64 (F47_1 x.a0 x.a1 x.a2 x.a3))]⟩) h)) .no
def p47:Ans:=fnAns dec47 alt47
theorem ha47:∀(x:A47) (h:Hp)(o:Out),(alt47 x h).out=some o→∃r,(rt47 x.a0 x.a1 x.a2 x.a3).val=some r∧o=.ret (en47 r) h:=by
  intro x h o e
  unfold alt47 at e
  simp only [AT.out]at e
  obtain ⟨g,e⟩:=cond_some e
  unfold F47_ok at g
  obtain ⟨r,hF⟩:=Option.isSome_iff_exists.1 g
  have hv:F47 x.a0 x.a1 x.a2 x.a3=(rt47 x.a0 x.a1 x.a2 x.a3).val:=by delta F47;exact rfl
  refine ⟨r,hv.symm.trans hF,?_⟩
  simp only [Option.some.injEq]at e
  rw [← e]
  have k0:F47_0 x.a0 x.a1 x.a2 x.a3=r.r0:=by
    show (match F47 x.a0 x.a1 x.a2 x.a3 with | some r=>r.r0 | none=>0)=r.r0
    rw [hF]
  have k1:F47_1 x.a0 x.a1 x.a2 x.a3=r.r1:=by
    show (match F47 x.a0 x.a1 x.a2 x.a3 with | some r=>r.r1 | none=>0)=r.r1
    rw [hF]
  rw [k0,k1]<;>rfl
theorem hd47:∀(t:Task) (x:A47)(h:Hp),dec47 t=some (x,h)→t=.call 47 ⟨[(.agg ⟨[(.int .i64 x.a0),(.int .i64 x.a1)]⟩),(.agg ⟨[(.int .i64 x.a2),(.int .i64 x.a3)]⟩)]⟩ h:=by
  intro t x h e
  unfold dec47 at e
  split at e
  case h_2=>cases e
  split at e
  case h_2=>cases e
  rename_i hg
  simp only [Option.some.injEq,Prod.mk.injEq]at e
  obtain ⟨rfl,rfl⟩:=e
  rw [Nat.eq_of_beq_eq_true hg]
theorem known47:Known Try.prog p47:=by
  exact Known.fn noNG mixed (Known.or known77 known78) (n:=60) (zs:=[0]) 47 (fun x:A47=>[(.agg ⟨[(.int .i64 x.a0),(.int .i64 x.a1)]⟩),(.agg ⟨[(.int .i64 x.a2),(.int .i64 x.a3)]⟩)]) (fun x=>rt47 x.a0 x.a1 x.a2 x.a3) en47 (fun x=>T47  x.a0 x.a1 x.a2 x.a3) (fun x=>rfl) dec47 alt47 hd47 ha47
structure R15 where
  (r0 r1:Int)
  (r2 r3:Int)
  (r4 r5:Int)
  (r6 r7:Int)
structure A15 where
  (a0 a1:Int)
  (a2 a3:Int)
  (a4 a5:Int)
  (a6 a7:Int)
  (a8 a9:Int)
  (a10:Array Value)
  (a11 a12:Nat)
def rt15 (a0 a1:Int)(a2 a3:Int)(a4 a5:Int)(a6 a7:Int)(a8 a9:Int)(a10:Array Value)(a11 a12:Nat):RT R15 :=
  .br (F13_ok a7 a8 a9) (.br (not (decide ((F13_0 a7 a8 a9)=(0:Int)))) (.leaf ⟨(0:Int),(0:Int),(0:Int),(0:Int),(0:Int),(0:Int),(0:Int),(F13_0 a7 a8 a9)⟩) (.br (F43_ok a10 a11 a12) (.br (not (decide ((F43_1 a10 a11 a12)=(0:Int)))) (.leaf ⟨(0:Int),(0:Int),(0:Int),(0:Int),(0:Int),(0:Int),(0:Int),(F43_1 a10 a11 a12)⟩) (.br (F44_ok a0 a1 a2 a3 a4 a5 a6) (.br (not (F44_0 a0 a1 a2 a3 a4 a5 a6)) (.leaf ⟨(0:Int),(0:Int),(0:Int),(0:Int),(0:Int),(0:Int),(0:Int),(7:Int)⟩) (.br (and (decide ((0:Int)≤(IntKind.wrap .i64 ((Int.ofNat a12)-(1:Int))))) (decide ((IntKind.wrap .i64 ((Int.ofNat a12)-(1:Int)))<(Int.ofNat a12)))) (.br (isInt .i64 a10 ((a11+((Int.toNat (IntKind.wrap .i64 ((Int.ofNat a12)-(1:Int))))*6))+1)) (.br (decide ((getInt a10 ((a11+((Int.toNat (IntKind.wrap .i64 ((Int.ofNat a12)-(1:Int))))*6))+1))<a7)) (.leaf ⟨(0:Int),(0:Int),(0:Int),(0:Int),(0:Int),(0:Int),(0:Int),(4:Int)⟩) (.br (F45_ok a10 a11 a12 a7) (.br (F47_ok (F45_0 a10 a11 a12 a7) (F45_1 a10 a11 a12 a7) a8 a9)
 (.br (F47_ok (F45_2 a10 a11 a12 a7) (F45_3 a10 a11 a12 a7) a8 a9) (.br (decide (a1=a1)) (.br (decide (a2=a2)) (.br (decide (a1=a1)) (.br (decide (a2=a2)) (.br (decide (a3=a3)) (.br (decide (a4=a4)) (.br (decide (a3=a3)) (.br (decide (a4=a4)) (.br (decide ((F45_2 a10 a11 a12 a7)=(F45_2 a10 a11 a12 a7))) (.br (decide ((F45_3 a10 a11 a12 a7)=(F45_3 a10 a11 a12 a7))) (.br (decide ((F45_2 a10 a11 a12 a7)=(F45_2 a10 a11 a12 a7))) (.br (decide ((F45_3 a10 a11 a12 a7)=(F45_3 a10 a11 a12 a7))) (.br (decide (a8=a8)) (.br (decide (a9=a9)) (.br (decide (a8=a8)) (.br (decide (a9=a9)) (.br (decide (a3=a3)) (.br (decide (a4=a4)) (.br (decide (a3=a3)) (.br (decide (a4=a4)) (.br (decide ((F45_2 a10 a11 a12 a7)=(F45_2 a10 a11 a12 a7))) (.br (decide ((F45_3 a10 a11 a12 a7)=(F45_3 a10 a11 a12 a7))) (.br (decide ((F45_2 a10 a11 a12 a7)=(F45_2 a10 a11 a12 a7))) (.br (decide ((F45_3 a10 a11 a12 a7)=(F45_3 a10 a11 a12 a7))) (.br (decide (a8=a8)) (.br (decide (a9=a9)) (.br (decide (a8=a8))
 (.br (decide (a9=a9)) (.br (decide (a3=a3)) (.br (decide (a4=a4)) (.br (decide (a3=a3)) (.br (decide (a4=a4)) (.br (F47_ok a7 a7 a8 a9) (.br (decide (a5=a5)) (.br (decide (a6=a6)) (.br (decide (a5=a5))
 (.br (decide (a6=a6)) (.leaf ⟨a0,(F46_0 a1 a2 (F47_0 (F45_0 a10 a11 a12 a7) (F45_1 a10 a11 a12 a7) a8 a9) (F47_1 (F45_0 a10 a11 a12 a7) (F45_1 a10 a11 a12 a7) a8 a9)),(F46_1 a1 a2 (F47_0 (F45_0 a10 a11 a12 a7) (F45_1 a10 a11 a12 a7) a8 a9) (F47_1 (F45_0 a10 a11 a12 a7) (F45_1 a10 a11 a12 a7) a8 a9)),(F46_0 a3 a4 (F47_0 (F45_2 a10 a11 a12 a7) (F45_3 a10 a11 a12 a7) a8 a9) (F47_1 (F45_2 a10 a11 a12 a7) (F45_3 a10 a11 a12 a7) a8 a9)),(F46_1 a3 a4 (F47_0 (F45_2 a10 a11 a12 a7) (F45_3 a10 a11 a12 a7) a8 a9) (F47_1 (F45_2 a10 a11 a12 a7) (F45_3 a10 a11 a12 a7) a8 a9)),(F46_0 a5 a6 (F47_0 a7 a7 a8 a9) (F47_1 a7 a7 a8 a9)),(F46_1 a5 a6 (F47_0 a7 a7 a8 a9) (F47_1 a7 a7 a8 a9)),(0:Int)⟩) (.no)) (.no)) (.no)) (.no)) (.no)) (.no)) (.no)) (.no)) (.no)) (.no)) (.no)) (.no)) (.no)) (.no)) (.no)) (.no)) (.no)) (.no)) (.no)) (.no)) (.no)) (.no)) (.no)) (.no)) (.no)) (.no)) (.no)) (.no)) (.no)) (.no)) (.no)) (.no)) (.no)) (.no)) (.no)) (.no)) (.no)) (.no)) (.no)) (.no))) (.no)) (.no))) (.no))) (.no))) (.no)
def en15 (r:R15):Value:=(.tuple ⟨[(.agg ⟨[(.int .i64 r.r0),(.int .i64 r.r1),(.int .i64 r.r2),(.int .i64 r.r3),(.int .i64 r.r4),(.int .i64 r.r5),(.int .i64 r.r6)]⟩),(.int .i64 r.r7)]⟩)
theorem T15  (a0 a1:Int) (a2 a3:Int) (a4 a5:Int) (a6 a7:Int) (a8 a9:Int) (a10:Array Value) (a11 a12:Nat):evC Try.prog (Ans.c (p13.or (p43.or (p44.or (p45.or (p46.or p47)))))) 60 (.call 15 ⟨[(.agg ⟨[(.int .i64 a0),(.int .i64 a1),(.int .i64 a2),(.int .i64 a3),(.int .i64 a4),(.int .i64 a5),(.int .i64 a6)]⟩),(.agg ⟨[(.int .i64 a7),(.int .i64 a8),(.int .i64 a9)]⟩),(lstV a10 a11 a12 6)]⟩ ⟨[],0,[]⟩) (frzK [0,0])=(rt15 a0 a1 a2 a3 a4 a5 a6 a7 a8 a9 a10 a11 a12).out (fun r=>.ret (en15 r) ⟨[],0,[]⟩):=by kernel_rfl
def F15 (a0 a1:Int)(a2 a3:Int)(a4 a5:Int)(a6 a7:Int)(a8 a9:Int)(a10:Array Value)(a11 a12:Nat):Option R15:=(rt15 a0 a1 a2 a3 a4 a5 a6 a7 a8 a9 a10 a11 a12).val
section
variable (a0 a1:Int) (a2 a3:Int) (a4 a5:Int) (a6 a7:Int) (a8 a9:Int) (a10:Array Value) (a11 a12:Nat)
def F15_ok:Bool:=(F15 a0 a1 a2 a3 a4 a5 a6 a7 a8 a9 a10 a11 a12).isSome
def F15_0:Int:=match F15 a0 a1 a2 a3 a4 a5 a6 a7 a8 a9 a10 a11 a12 with | some r=>r.r0 | none=>0
def F15_1:Int:=match F15 a0 a1 a2 a3 a4 a5 a6 a7 a8 a9 a10 a11 a12 with | some r=>r.r1 | none=>0
def F15_2:Int:=match F15 a0 a1 a2 a3 a4 a5 a6 a7 a8 a9 a10 a11 a12 with | some r=>r.r2 | none=>0
def F15_3:Int:=match F15 a0 a1 a2 a3 a4 a5 a6 a7 a8 a9 a10 a11 a12 with | some r=>r.r3 | none=>0
def F15_4:Int:=match F15 a0 a1 a2 a3 a4 a5 a6 a7 a8 a9 a10 a11 a12 with | some r=>r.r4 | none=>0
def F15_5:Int:=match F15 a0 a1 a2 a3 a4 a5 a6 a7 a8 a9 a10 a11 a12 with | some r=>r.r5 | none=>0
def F15_6:Int:=match F15 a0 a1 a2 a3 a4 a5 a6 a7 a8 a9 a10 a11 a12 with | some r=>r.r6 | none=>0
def F15_7:Int:=match F15 a0 a1 a2 a3 a4 a5 a6 a7 a8 a9 a10 a11 a12 with | some r=>r.r7 | none=>0
end
def dec15:Task→Option (A15×Hp)
  | .call g ⟨[(.agg ⟨[(.int .i64 a0),(.int .i64 a1),(.int .i64 a2),(.int .i64 a3),(.int .i64 a4),(.int .i64 a5),(.int .i64 a6)]⟩),(.agg ⟨[(.int .i64 a7),(.int .i64 a8),(.int .i64 a9)]⟩),(.func (.via 0 ⟨[]⟩ 0 true) a10 ⟨[.slice (some ⟨0,a11,none⟩) a12 6]⟩)]⟩ h=>(match Nat.beq g 15 with | true=>some (⟨a0,a1,a2,a3,a4,a5,a6,a7,a8,a9,a10,a11,a12⟩,h) | false=>none)
  | _=>none
def alt15 (x:A15)(h:Hp):AT:=.br (F15_ok x.a0 x.a1 x.a2 x.a3 x.a4 x.a5 x.a6 x.a7 x.a8 x.a9 x.a10 x.a11 x.a12) (.leaf (.ret (.tuple ⟨[(.agg ⟨[(.int .i64 (F15_0 x.a0 x.a1 x.a2 x.a3 x.a4 x.a5 x.a6 x.a7 x.a8 x.a9 x.a10 x.a11 x.a12)),(.int .i64 (F15_1 x.a0 x.a1 x.a2 x.a3 x.a4 x.a5 x.a6 x.a7 x.a8 x.a9 x.a10 x.a11 x.a12)),(.int .i64 (F15_2 x.a0 x.a1 x.a2 x.a3 x.a4 x.a5 x.a6 x.a7 x.a8 x.a9 x.a10 x.a11 x.a12)),(.int .i64 (F15_3 x.a0 x.a1 x.a2 x.a3 x.a4 x.a5 x.a6 x.a7 x.a8 x.a9 x.a10 x.a11 x.a12)),(.int .i64 (F15_4 x.a0 x.a1 x.a2 x.a3 x.a4 x.a5 x.a6 x.a7 x.a8 x.a9 x.a10 x.a11 x.a12)),(.int .i64 (F15_5 x.a0 x.a1 x.a2 x.a3 x.a4 x.a5 x.a6 x.a7 x.a8 x.a9 x.a10 x.a11 x.a12)),(.int .i64 (F15_6 x.a0 x.a1 x.a2 x.a3 x.a4 x.a5 x.a6 x.a7 x.a8 x.a9 x.a10 x.a11 x.a12))]⟩),(.int .i64 (F15_7 x.a0 x.a1 x.a2 x.a3 x.a4 x.a5 x.a6 x.a7 x.a8 x.a9 x.a10 x.a11 x.a12))]⟩) h)) .no
def p15:Ans:=fnAns dec15 alt15
theorem ha15:∀(x:A15) (h:Hp)(o:Out),(alt15 x h).out=some o→∃r,(rt15 x.a0 x.a1 x.a2 x.a3 x.a4 x.a5 x.a6 x.a7 x.a8 x.a9 x.a10 x.a11 x.a12).val=some r∧o=.ret (en15 r) h:=by
  intro x h o e
  unfold alt15 at e
  simp only [AT.out]at e
  obtain ⟨g,e⟩:=cond_some e
  unfold F15_ok at g
  obtain ⟨r,hF⟩:=Option.isSome_iff_exists.1 g
  have hv:F15 x.a0 x.a1 x.a2 x.a3 x.a4 x.a5 x.a6 x.a7 x.a8 x.a9 x.a10 x.a11 x.a12=(rt15 x.a0 x.a1 x.a2 x.a3 x.a4 x.a5 x.a6 x.a7 x.a8 x.a9 x.a10 x.a11 x.a12).val:=by delta F15;exact rfl
  refine ⟨r,hv.symm.trans hF,?_⟩
  simp only [Option.some.injEq]at e
  rw [← e]
  have k0:F15_0 x.a0 x.a1 x.a2 x.a3 x.a4 x.a5 x.a6 x.a7 x.a8 x.a9 x.a10 x.a11 x.a12=r.r0:=by
    show (match F15 x.a0 x.a1 x.a2 x.a3 x.a4 x.a5 x.a6 x.a7 x.a8 x.a9 x.a10 x.a11 x.a12 with | some r=>r.r0 | none=>0)=r.r0
    rw [hF]
  have k1:F15_1 x.a0 x.a1 x.a2 x.a3 x.a4 x.a5 x.a6 x.a7 x.a8 x.a9 x.a10 x.a11 x.a12=r.r1:=by
    show (match F15 x.a0 x.a1 x.a2 x.a3 x.a4 x.a5 x.a6 x.a7 x.a8 x.a9 x.a10 x.a11 x.a12 with | some r=>r.r1 | none=>0)=r.r1
    rw [hF]
  have k2:F15_2 x.a0 x.a1 x.a2 x.a3 x.a4 x.a5 x.a6 x.a7 x.a8 x.a9 x.a10 x.a11 x.a12=r.r2:=by
    show (match F15 x.a0 x.a1 x.a2 x.a3 x.a4 x.a5 x.a6 x.a7 x.a8 x.a9 x.a10 x.a11 x.a12 with | some r=>r.r2 | none=>0)=r.r2
    rw [hF]
  have k3:F15_3 x.a0 x.a1 x.a2 x.a3 x.a4 x.a5 x.a6 x.a7 x.a8 x.a9 x.a10 x.a11 x.a12=r.r3:=by
    show (match F15 x.a0 x.a1 x.a2 x.a3 x.a4 x.a5 x.a6 x.a7 x.a8 x.a9 x.a10 x.a11 x.a12 with | some r=>r.r3 | none=>0)=r.r3
    rw [hF]
  have k4:F15_4 x.a0 x.a1 x.a2 x.a3 x.a4 x.a5 x.a6 x.a7 x.a8 x.a9 x.a10 x.a11 x.a12=r.r4:=by
    show (match F15 x.a0 x.a1 x.a2 x.a3 x.a4 x.a5 x.a6 x.a7 x.a8 x.a9 x.a10 x.a11 x.a12 with | some r=>r.r4 | none=>0)=r.r4
    rw [hF]
  have k5:F15_5 x.a0 x.a1 x.a2 x.a3 x.a4 x.a5 x.a6 x.a7 x.a8 x.a9 x.a10 x.a11 x.a12=r.r5:=by
    show (match F15 x.a0 x.a1 x.a2 x.a3 x.a4 x.a5 x.a6 x.a7 x.a8 x.a9 x.a10 x.a11 x.a12 with | some r=>r.r5 | none=>0)=r.r5
    rw [hF]
  have k6:F15_6 x.a0 x.a1 x.a2 x.a3 x.a4 x.a5 x.a6 x.a7 x.a8 x.a9 x.a10 x.a11 x.a12=r.r6:=by
    show (match F15 x.a0 x.a1 x.a2 x.a3 x.a4 x.a5 x.a6 x.a7 x.a8 x.a9 x.a10 x.a11 x.a12 with | some r=>r.r6 | none=>0)=r.r6
    rw [hF]
  have k7:F15_7 x.a0 x.a1 x.a2 x.a3 x.a4 x.a5 x.a6 x.a7 x.a8 x.a9 x.a10 x.a11 x.a12=r.r7:=by
    show (match F15 x.a0 x.a1 x.a2 x.a3 x.a4 x.a5 x.a6 x.a7 x.a8 x.a9 x.a10 x.a11 x.a12 with | some r=>r.r7 | none=>0)=r.r7
    rw [hF]
  rw [k0,k1,k2,k3,k4,k5,k6,k7]<;>rfl
theorem hd15:∀(t:Task) (x:A15)(h:Hp),dec15 t=some (x,h)→t=.call 15 ⟨[(.agg ⟨[(.int .i64 x.a0),(.int .i64 x.a1),(.int .i64 x.a2),(.int .i64 x.a3),(.int .i64 x.a4),(.int .i64 x.a5),(.int .i64 x.a6)]⟩),(.agg ⟨[(.int .i64 x.a7),(.int .i64 x.a8),(.int .i64 x.a9)]⟩),(lstV x.a10 x.a11 x.a12 6)]⟩ h:=by
  intro t x h e
  unfold dec15 at e
  split at e
  case h_2=>cases e
  split at e
  case h_2=>cases e
  rename_i hg
  simp only [Option.some.injEq,Prod.mk.injEq]at e
  obtain ⟨rfl,rfl⟩:=e
  rw [Nat.eq_of_beq_eq_true hg]
theorem known15:Known Try.prog p15:=by
  exact Known.fn noNG mixed (Known.or known13 (Known.or known43 (Known.or known44 (Known.or known45 (Known.or known46 known47))))) (n:=60) (zs:=[0,0]) 15 (fun x:A15=>[(.agg ⟨[(.int .i64 x.a0),(.int .i64 x.a1),(.int .i64 x.a2),(.int .i64 x.a3),(.int .i64 x.a4),(.int .i64 x.a5),(.int .i64 x.a6)]⟩),(.agg ⟨[(.int .i64 x.a7),(.int .i64 x.a8),(.int .i64 x.a9)]⟩),(lstV x.a10 x.a11 x.a12 6)]) (fun x=>rt15 x.a0 x.a1 x.a2 x.a3 x.a4 x.a5 x.a6 x.a7 x.a8 x.a9 x.a10 x.a11 x.a12) en15 (fun x=>T15  x.a0 x.a1 x.a2 x.a3 x.a4 x.a5 x.a6 x.a7 x.a8 x.a9 x.a10 x.a11 x.a12) (fun x=>rfl) dec15 alt15 hd15 ha15
structure R49 where
  (r0:Bool)
structure A49 where
  (a0 a1 a2:Int)
def rt49 (a0 a1 a2:Int):RT R49 :=
  .br (F42_ok a0 (IntKind.wrap .i64 ((0:Int)-a2)) a2) (.br (F42_0 a0 (IntKind.wrap .i64 ((0:Int)-a2)) a2) (.br (F42_ok a1 (IntKind.wrap .i64 ((0:Int)-a2)) a2) (.br (F42_0 a1 (IntKind.wrap .i64 ((0:Int)-a2)) a2) (.leaf ⟨(decide (a0≤a1))⟩) (.leaf ⟨false⟩)) (.no)) (.leaf ⟨false⟩)) (.no)
def en49 (r:R49):Value:=(.bool r.r0)
theorem T49  (a0 a1 a2:Int):evC Try.prog (Ans.c p42) 60 (.call 49 ⟨[(.agg ⟨[(.int .i64 a0),(.int .i64 a1)]⟩),(.int .i64 a2)]⟩ ⟨[],0,[]⟩) (frzK [0])=(rt49 a0 a1 a2).out (fun r=>.ret (en49 r) ⟨[],0,[]⟩):=by kernel_rfl
def F49 (a0 a1 a2:Int):Option R49:=(rt49 a0 a1 a2).val
section
variable (a0 a1 a2:Int)
def F49_ok:Bool:=(F49 a0 a1 a2).isSome
def F49_0:Bool:=match F49 a0 a1 a2 with | some r=>r.r0 | none=>false
end
def dec49:Task→Option (A49×Hp)
  | .call g ⟨[(.agg ⟨[(.int .i64 a0),(.int .i64 a1)]⟩),(.int .i64 a2)]⟩ h=>(match Nat.beq g 49 with | true=>some (⟨a0,a1,a2⟩,h) | false=>none)
  | _=>none
def alt49 (x:A49)(h:Hp):AT:=.br (F49_ok x.a0 x.a1 x.a2) (.leaf (.ret (.bool (F49_0 x.a0 x.a1 x.a2)) h)) .no
def p49:Ans:=fnAns dec49 alt49
theorem ha49:∀(x:A49) (h:Hp)(o:Out),(alt49 x h).out=some o→∃r,(rt49 x.a0 x.a1 x.a2).val=some r∧o=.ret (en49 r) h:=by
  intro x h o e
  unfold alt49 at e
  simp only [AT.out]at e
  obtain ⟨g,e⟩:=cond_some e
  unfold F49_ok at g
  obtain ⟨r,hF⟩:=Option.isSome_iff_exists.1 g
  have hv:F49 x.a0 x.a1 x.a2=(rt49 x.a0 x.a1 x.a2).val:=by delta F49;exact rfl
  refine ⟨r,hv.symm.trans hF,?_⟩
  simp only [Option.some.injEq]at e
  rw [← e]
  have k0:F49_0 x.a0 x.a1 x.a2=r.r0:=by
    show (match F49 x.a0 x.a1 x.a2 with | some r=>r.r0 | none=>false)=r.r0
    rw [hF]
  rw [k0]<;>rfl
theorem hd49:∀(t:Task) (x:A49)(h:Hp),dec49 t=some (x,h)→t=.call 49 ⟨[(.agg ⟨[(.int .i64 x.a0),(.int .i64 x.a1)]⟩),(.int .i64 x.a2)]⟩ h:=by
  intro t x h e
  unfold dec49 at e
  split at e
  case h_2=>cases e
  split at e
  case h_2=>cases e
  rename_i hg
  simp only [Option.some.injEq,Prod.mk.injEq]at e
  obtain ⟨rfl,rfl⟩:=e
  rw [Nat.eq_of_beq_eq_true hg]
theorem known49:Known Try.prog p49:=by
  exact Known.fn noNG mixed known42 (n:=60) (zs:=[0]) 49 (fun x:A49=>[(.agg ⟨[(.int .i64 x.a0),(.int .i64 x.a1)]⟩),(.int .i64 x.a2)]) (fun x=>rt49 x.a0 x.a1 x.a2) en49 (fun x=>T49  x.a0 x.a1 x.a2) (fun x=>rfl) dec49 alt49 hd49 ha49
structure R50 where
  (r0:Bool)
structure A50 where
  (a0:Int)
def rt50 (a0:Int):RT R50 :=
  .br (F42_ok a0 (0:Int) (100000:Int)) (.leaf ⟨(F42_0 a0 (0:Int) (100000:Int))⟩) (.no)
def en50 (r:R50):Value:=(.bool r.r0)
theorem T50  (a0:Int):evC Try.prog (Ans.c p42) 60 (.call 50 ⟨[(.int .i64 a0)]⟩ ⟨[],0,[]⟩) (frzK [0])=(rt50 a0).out (fun r=>.ret (en50 r) ⟨[],0,[]⟩):=by kernel_rfl
def F50 (a0:Int):Option R50:=(rt50 a0).val
section
variable (a0:Int)
def F50_ok:Bool:=(F50 a0).isSome
def F50_0:Bool:=match F50 a0 with | some r=>r.r0 | none=>false
end
def dec50:Task→Option (A50×Hp)
  | .call g ⟨[(.int .i64 a0)]⟩ h=>(match Nat.beq g 50 with | true=>some (⟨a0⟩,h) | false=>none)
  | _=>none
def alt50 (x:A50)(h:Hp):AT:=.br (F50_ok x.a0) (.leaf (.ret (.bool (F50_0 x.a0)) h)) .no
def p50:Ans:=fnAns dec50 alt50
theorem ha50:∀(x:A50) (h:Hp)(o:Out),(alt50 x h).out=some o→∃r,(rt50 x.a0).val=some r∧o=.ret (en50 r) h:=by
  intro x h o e
  unfold alt50 at e
  simp only [AT.out]at e
  obtain ⟨g,e⟩:=cond_some e
  unfold F50_ok at g
  obtain ⟨r,hF⟩:=Option.isSome_iff_exists.1 g
  have hv:F50 x.a0=(rt50 x.a0).val:=by delta F50;exact rfl
  refine ⟨r,hv.symm.trans hF,?_⟩
  simp only [Option.some.injEq]at e
  rw [← e]
  have k0:F50_0 x.a0=r.r0:=by
    show (match F50 x.a0 with | some r=>r.r0 | none=>false)=r.r0
    rw [hF]
  rw [k0]<;>rfl
theorem hd50:∀(t:Task) (x:A50)(h:Hp),dec50 t=some (x,h)→t=.call 50 ⟨[(.int .i64 x.a0)]⟩ h:=by
  intro t x h e
  unfold dec50 at e
  split at e
  case h_2=>cases e
  split at e
  case h_2=>cases e
  rename_i hg
  simp only [Option.some.injEq,Prod.mk.injEq]at e
  obtain ⟨rfl,rfl⟩:=e
  rw [Nat.eq_of_beq_eq_true hg]
theorem known50:Known Try.prog p50:=by
  exact Known.fn noNG mixed known42 (n:=60) (zs:=[0]) 50 (fun x:A50=>[(.int .i64 x.a0)]) (fun x=>rt50 x.a0) en50 (fun x=>T50  x.a0) (fun x=>rfl) dec50 alt50 hd50 ha50
structure R51 where
  (r0 r1:Int)
structure A51 where
  (a0 a1:Int)
  (a2 a3:Int)
def rt51 (a0 a1:Int)(a2 a3:Int):RT R51 :=
  .leaf ⟨(IntKind.wrap .i64 (a0+a2)),(IntKind.wrap .i64 (a1+a3))⟩
def en51 (r:R51):Value:=(.agg ⟨[(.int .i64 r.r0),(.int .i64 r.r1)]⟩)
theorem T51  (a0 a1:Int) (a2 a3:Int):evC Try.prog (Ans.c (fun _=>none:Ans)) 60 (.call 51 ⟨[(.agg ⟨[(.int .i64 a0),(.int .i64 a1)]⟩),(.agg ⟨[(.int .i64 a2),(.int .i64 a3)]⟩)]⟩ ⟨[],0,[]⟩) (frzK [0])=(rt51 a0 a1 a2 a3).out (fun r=>.ret (en51 r) ⟨[],0,[]⟩):=by kernel_rfl
def F51 (a0 a1:Int)(a2 a3:Int):Option R51:=(rt51 a0 a1 a2 a3).val
section
variable (a0 a1:Int) (a2 a3:Int)
def F51_ok:Bool:=(F51 a0 a1 a2 a3).isSome
def F51_0:Int:=match F51 a0 a1 a2 a3 with | some r=>r.r0 | none=>0
def F51_1:Int:=match F51 a0 a1 a2 a3 with | some r=>r.r1 | none=>0
end
def dec51:Task→Option (A51×Hp)
  | .call g ⟨[(.agg ⟨[(.int .i64 a0),(.int .i64 a1)]⟩),(.agg ⟨[(.int .i64 a2),(.int .i64 a3)]⟩)]⟩ h=>(match Nat.beq g 51 with | true=>some (⟨a0,a1,a2,a3⟩,h) | false=>none)
  | _=>none
def alt51 (x:A51)(h:Hp):AT:=.br (F51_ok x.a0 x.a1 x.a2 x.a3) (.leaf (.ret (.agg ⟨[(.int .i64 (F51_0 x.a0 x.a1 x.a2 x.a3)),(.int .i64 (F51_1 x.a0 x.a1 x.a2 x.a3))]⟩) h)) .no
def p51:Ans:=fnAns dec51 alt51
theorem ha51:∀(x:A51) (h:Hp)(o:Out),(alt51 x h).out=some o→∃r,(rt51 x.a0 x.a1 x.a2 x.a3).val=some r∧o=.ret (en51 r) h:=by
  intro x h o e
  unfold alt51 at e
  simp only [AT.out]at e
  obtain ⟨g,e⟩:=cond_some e
  unfold F51_ok at g
  obtain ⟨r,hF⟩:=Option.isSome_iff_exists.1 g
  have hv:F51 x.a0 x.a1 x.a2 x.a3=(rt51 x.a0 x.a1 x.a2 x.a3).val:=by delta F51;exact rfl
  refine ⟨r,hv.symm.trans hF,?_⟩
  simp only [Option.some.injEq]at e
  rw [← e]
  have k0:F51_0 x.a0 x.a1 x.a2 x.a3=r.r0:=by
    show (match F51 x.a0 x.a1 x.a2 x.a3 with | some r=>r.r0 | none=>0)=r.r0
    rw [hF]
  have k1:F51_1 x.a0 x.a1 x.a2 x.a3=r.r1:=by
    show (match F51 x.a0 x.a1 x.a2 x.a3 with | some r=>r.r1 | none=>0)=r.r1
    rw [hF]
  rw [k0,k1]<;>rfl
theorem hd51:∀(t:Task) (x:A51)(h:Hp),dec51 t=some (x,h)→t=.call 51 ⟨[(.agg ⟨[(.int .i64 x.a0),(.int .i64 x.a1)]⟩),(.agg ⟨[(.int .i64 x.a2),(.int .i64 x.a3)]⟩)]⟩ h:=by
  intro t x h e
  unfold dec51 at e
  split at e
  case h_2=>cases e
  split at e
  case h_2=>cases e
  rename_i hg
  simp only [Option.some.injEq,Prod.mk.injEq]at e
  obtain ⟨rfl,rfl⟩:=e
  rw [Nat.eq_of_beq_eq_true hg]
theorem known51:Known Try.prog p51:=by
  exact Known.fn noNG mixed (Known.nothing Try.prog) (n:=60) (zs:=[0]) 51 (fun x:A51=>[(.agg ⟨[(.int .i64 x.a0),(.int .i64 x.a1)]⟩),(.agg ⟨[(.int .i64 x.a2),(.int .i64 x.a3)]⟩)]) (fun x=>rt51 x.a0 x.a1 x.a2 x.a3) en51 (fun x=>T51  x.a0 x.a1 x.a2 x.a3) (fun x=>rfl) dec51 alt51 hd51 ha51
structure R53 where
  (r0:Int)
structure A53 where
  (a0 a1:Int)
def rt53 (a0 a1:Int):RT R53 :=
  .br (not (decide (a1=(0:Int)))) (.br (decide (a0<(IntKind.wrap .i64 ((IntKind.wrap .i64 (Int.tdiv a0 a1))*a1)))) (.leaf ⟨(IntKind.wrap .i64 ((IntKind.wrap .i64 (Int.tdiv a0 a1))-(1:Int)))⟩) (.leaf ⟨(IntKind.wrap .i64 (Int.tdiv a0 a1))⟩)) (.no)
def en53 (r:R53):Value:=(.int .i64 r.r0)
theorem T53  (a0 a1:Int):evC Try.prog (Ans.c (fun _=>none:Ans)) 60 (.call 53 ⟨[(.int .i64 a0),(.int .i64 a1)]⟩ ⟨[],0,[]⟩) (frzK [0])=(rt53 a0 a1).out (fun r=>.ret (en53 r) ⟨[],0,[]⟩):=by kernel_rfl
def F53 (a0 a1:Int):Option R53:=(rt53 a0 a1).val
section
variable (a0 a1:Int)
def F53_ok:Bool:=(F53 a0 a1).isSome
def F53_0:Int:=match F53 a0 a1 with | some r=>r.r0 | none=>0
end
def dec53:Task→Option (A53×Hp)
  | .call g ⟨[(.int .i64 a0),(.int .i64 a1)]⟩ h=>(match Nat.beq g 53 with | true=>some (⟨a0,a1⟩,h) | false=>none)
  | _=>none
def alt53 (x:A53)(h:Hp):AT:=.br (F53_ok x.a0 x.a1) (.leaf (.ret (.int .i64 (F53_0 x.a0 x.a1)) h)) .no
def p53:Ans:=fnAns dec53 alt53
theorem ha53:∀(x:A53) (h:Hp)(o:Out),(alt53 x h).out=some o→∃r,(rt53 x.a0 x.a1).val=some r∧o=.ret (en53 r) h:=by
  intro x h o e
  unfold alt53 at e
  simp only [AT.out]at e
  obtain ⟨g,e⟩:=cond_some e
  unfold F53_ok at g
  obtain ⟨r,hF⟩:=Option.isSome_iff_exists.1 g
  have hv:F53 x.a0 x.a1=(rt53 x.a0 x.a1).val:=by delta F53;exact rfl
  refine ⟨r,hv.symm.trans hF,?_⟩
  simp only [Option.some.injEq]at e
  rw [← e]
  have k0:F53_0 x.a0 x.a1=r.r0:=by
    show (match F53 x.a0 x.a1 with | some r=>r.r0 | none=>0)=r.r0
    rw [hF]
  rw [k0]<;>rfl
theorem hd53:∀(t:Task) (x:A53)(h:Hp),dec53 t=some (x,h)→t=.call 53 ⟨[(.int .i64 x.a0),(.int .i64 x.a1)]⟩ h:=by
  intro t x h e
  unfold dec53 at e
  split at e
  case h_2=>cases e
  split at e
  case h_2=>cases e
  rename_i hg
  simp only [Option.some.injEq,Prod.mk.injEq]at e
  obtain ⟨rfl,rfl⟩:=e
  rw [Nat.eq_of_beq_eq_true hg]
theorem known53:Known Try.prog p53:=by
  exact Known.fn noNG mixed (Known.nothing Try.prog) (n:=60) (zs:=[0]) 53 (fun x:A53=>[(.int .i64 x.a0),(.int .i64 x.a1)]) (fun x=>rt53 x.a0 x.a1) en53 (fun x=>T53  x.a0 x.a1) (fun x=>rfl) dec53 alt53 hd53 ha53
structure R52 where
  (r0 r1:Int)
structure A52 where
  (a0 a1:Int)
  (a2 a3:Int)
def rt52 (a0 a1:Int)(a2 a3:Int):RT R52 :=
  .br (F53_ok a0 a2) (.br (F53_ok a0 a3) (.br (decide (a0=a0)) (.br (decide (a0=a0)) (.br (decide (a3=a3)) (.br (decide (a3=a3)) (.br (F53_ok (IntKind.wrap .i64 ((0:Int)-a1)) a2) (.br (F53_ok (IntKind.wrap .i64 ((0:Int)-a1)) a3) (.br (decide (a1=a1)) (.br (decide (a1=a1)) (.br (decide (a3=a3)) (.br (decide (a3=a3)) (.leaf ⟨(min (F53_0 a0 a2) (F53_0 a0 a3)),(max (IntKind.wrap .i64 ((0:Int)-(F53_0 (IntKind.wrap .i64 ((0:Int)-a1)) a2))) (IntKind.wrap .i64 ((0:Int)-(F53_0 (IntKind.wrap .i64 ((0:Int)-a1)) a3))))⟩) (.no)) (.no)) (.no)) (.no)) (.no)) (.no)) (.no)) (.no)) (.no)) (.no)) (.no)) (.no)
def en52 (r:R52):Value:=(.agg ⟨[(.int .i64 r.r0),(.int .i64 r.r1)]⟩)
theorem T52  (a0 a1:Int) (a2 a3:Int):evC Try.prog (Ans.c p53) 60 (.call 52 ⟨[(.agg ⟨[(.int .i64 a0),(.int .i64 a1)]⟩),(.agg ⟨[(.int .i64 a2),(.int .i64 a3)]⟩)]⟩ ⟨[],0,[]⟩) (frzK [0])=(rt52 a0 a1 a2 a3).out (fun r=>.ret (en52 r) ⟨[],0,[]⟩):=by kernel_rfl
def F52 (a0 a1:Int)(a2 a3:Int):Option R52:=(rt52 a0 a1 a2 a3).val
section
variable (a0 a1:Int) (a2 a3:Int)
def F52_ok:Bool:=(F52 a0 a1 a2 a3).isSome
def F52_0:Int:=match F52 a0 a1 a2 a3 with | some r=>r.r0 | none=>0
def F52_1:Int:=match F52 a0 a1 a2 a3 with | some r=>r.r1 | none=>0
end
def dec52:Task→Option (A52×Hp)
  | .call g ⟨[(.agg ⟨[(.int .i64 a0),(.int .i64 a1)]⟩),(.agg ⟨[(.int .i64 a2),(.int .i64 a3)]⟩)]⟩ h=>(match Nat.beq g 52 with | true=>some (⟨a0,a1,a2,a3⟩,h) | false=>none)
  | _=>none
def alt52 (x:A52)(h:Hp):AT:=.br (F52_ok x.a0 x.a1 x.a2 x.a3) (.leaf (.ret (.agg ⟨[(.int .i64 (F52_0 x.a0 x.a1 x.a2 x.a3)),(.int .i64 (F52_1 x.a0 x.a1 x.a2 x.a3))]⟩) h)) .no
def p52:Ans:=fnAns dec52 alt52
theorem ha52:∀(x:A52) (h:Hp)(o:Out),(alt52 x h).out=some o→∃r,(rt52 x.a0 x.a1 x.a2 x.a3).val=some r∧o=.ret (en52 r) h:=by
  intro x h o e
  unfold alt52 at e
  simp only [AT.out]at e
  obtain ⟨g,e⟩:=cond_some e
  unfold F52_ok at g
  obtain ⟨r,hF⟩:=Option.isSome_iff_exists.1 g
  have hv:F52 x.a0 x.a1 x.a2 x.a3=(rt52 x.a0 x.a1 x.a2 x.a3).val:=by delta F52;exact rfl
  refine ⟨r,hv.symm.trans hF,?_⟩
  simp only [Option.some.injEq]at e
  rw [← e]
  have k0:F52_0 x.a0 x.a1 x.a2 x.a3=r.r0:=by
    show (match F52 x.a0 x.a1 x.a2 x.a3 with | some r=>r.r0 | none=>0)=r.r0
    rw [hF]
  have k1:F52_1 x.a0 x.a1 x.a2 x.a3=r.r1:=by
    show (match F52 x.a0 x.a1 x.a2 x.a3 with | some r=>r.r1 | none=>0)=r.r1
    rw [hF]
  rw [k0,k1]<;>rfl
theorem hd52:∀(t:Task) (x:A52)(h:Hp),dec52 t=some (x,h)→t=.call 52 ⟨[(.agg ⟨[(.int .i64 x.a0),(.int .i64 x.a1)]⟩),(.agg ⟨[(.int .i64 x.a2),(.int .i64 x.a3)]⟩)]⟩ h:=by
  intro t x h e
  unfold dec52 at e
  split at e
  case h_2=>cases e
  split at e
  case h_2=>cases e
  rename_i hg
  simp only [Option.some.injEq,Prod.mk.injEq]at e
  obtain ⟨rfl,rfl⟩:=e
  rw [Nat.eq_of_beq_eq_true hg]
theorem known52:Known Try.prog p52:=by
  exact Known.fn noNG mixed known53 (n:=60) (zs:=[0]) 52 (fun x:A52=>[(.agg ⟨[(.int .i64 x.a0),(.int .i64 x.a1)]⟩),(.agg ⟨[(.int .i64 x.a2),(.int .i64 x.a3)]⟩)]) (fun x=>rt52 x.a0 x.a1 x.a2 x.a3) en52 (fun x=>T52  x.a0 x.a1 x.a2 x.a3) (fun x=>rfl) dec52 alt52 hd52 ha52
end
end Go.Proofs.Ytoghoeebiddblaa
