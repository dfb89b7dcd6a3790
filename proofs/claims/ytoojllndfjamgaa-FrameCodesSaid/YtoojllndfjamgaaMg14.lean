/- FrameCodes proved: Commute and Encode of frame return what the document says, for any format, number, and lists. Conditions: none. -/
import Derived.Test.YtoojllndfjamgaaMg7
import Derived.Test.YtoojllndfjamgaaMg13
import Derived.Test.YtoojllndfjamgaaMg12
import Derived.Test.YtoojllndfjamgaaMg10
set_option linter.unusedVariables false
set_option linter.unusedSimpArgs false
namespace Go.Proofs.Ytoojllndfjamgaa
open Go.Gi Go.RowKit Go.Proofs.Ytoojllndfjamgaa.Old
noncomputable section
set_option maxRecDepth 100000
set_option maxHeartbeats 4000000
structure X64_0 where
  v0:Array Value
  v1:Nat
  v2:Nat
  v3:Array Value
  v4:Nat
  v5:Nat
  v6:Int
inductive D64_0 where
  | k0 (d0:Bool)
  | k1
def Lp64_0:LoopOf X64_0 D64_0 where
  c:=(theLoop Try.prog 64 0)
  N:=26
  M:=0
  S:=[0,1,5]
  sl:=fun x=>[(lstV x.v0 x.v1 x.v2 1),(lstV x.v3 x.v4 x.v5 1),(.int .i64 x.v6)]
  hp:=fun x=>[]
  ex:=fun d=>match d with | .k0 ..=>.ret | .k1 ..=>.exit 0
  pick:=fun e=>match e with | .ret=>[4] | .exit 0=>[] | _=>[]
  dv:=fun d=>match d with | .k0 d0=>[(.bool d0)] | .k1 =>[]
  dh:=fun d=>match d with | .k0 d0=>[] | .k1 =>[]
theorem ok64_0:Lp64_0.Ok:=⟨fun x=>rfl,fun x=>rfl,fun x=>rfl,fun x=>rfl,fun d=>by cases d<;>rfl,fun d=>by cases d<;>rfl,fun d=>by cases d<;>rfl,fun d=>by cases d<;>(intro h;cases h),fun d=>by cases d<;>rfl,fun d=>by cases d<;>rfl⟩
def rd64_0 (x:X64_0):RT (Sum X64_0 D64_0):=match x with
  | ⟨v0,v1,v2,v3,v4,v5,v6⟩ =>
     .br (decide (v6<(Int.ofNat v2))) (.br (and (decide ((0:Int)≤v6)) (decide (v6<(Int.ofNat v2)))) (.br (isInt .i64 v0 (v1+((Int.toNat v6)*1))) (.br (and (decide ((0:Int)≤v6)) (decide (v6<(Int.ofNat v5)))) (.br (isInt .i64 v3 (v4+((Int.toNat v6)*1))) (.br (not (decide ((getInt v0 (v1+((Int.toNat v6)*1)))=(getInt v3 (v4+((Int.toNat v6)*1)))))) (.leaf (.inr (.k0 (false)))) (.leaf (.inl ⟨v0,v1,v2,v3,v4,v5,(IntKind.wrap .i64 (v6+(1:Int)))⟩))) (.no)) (.no)) (.no)) (.no)) (.leaf (.inr (.k1)))
theorem T64_0  (y:List Value) (v0:Array Value) (v1:Nat) (v2:Nat) (v3:Array Value) (v4:Nat) (v5:Nat) (v6:Int):evC Try.prog (Ans.c (fun _=>none:Ans)) 60 (.code none (theLoop Try.prog 64 0) ⟨sets (junkF 26 y) [(0,(lstV v0 v1 v2 1)),(1,(lstV v3 v4 v5 1)),(5,(.int .i64 v6))],[],⟨[],0,[]⟩⟩) (sumK 0 26 Lp64_0.pk)=(rd64_0 ⟨v0,v1,v2,v3,v4,v5,v6⟩).out Lp64_0.enc:=by kernel_rfl
def L64_0 (x:X64_0):Option D64_0:=loopR rd64_0 x
section
variable (x:X64_0)
def L64_0_k0:Bool:=match L64_0 x with | some (.k0 ..)=>true | _=>false
def Qz0:Bool:=match L64_0 x with | some (.k0 d)=>d | _=>false
def L64_0_k1:Bool:=match L64_0 x with | some (.k1 ..)=>true | _=>false
end
def dec64_0:Task→Option (Code×X64_0)
  | .code none (.loop code) ⟨t,[],⟨[],0,[]⟩⟩ =>
    (match Nat.beq (firstReg code) 4,lenIs t 26,lget t 0,lget t 1,lget t 5 with
    | true,true,(.func (.via 0 ⟨[]⟩ 0 true) v0 ⟨[.slice (some ⟨0,v1,none⟩) v2 1]⟩),(.func (.via 0 ⟨[]⟩ 0 true) v3 ⟨[.slice (some ⟨0,v4,none⟩) v5 1]⟩),(.int .i64 v6)=>some (code,⟨v0,v1,v2,v3,v4,v5,v6⟩)
    | _,_,_,_,_=>none)
  | _=>none
def alt64_0 (x:X64_0)(j:List Value):AT:=.br (L64_0_k0 x) (loopEnd 26 (.ret) [(4,(.bool (Qz0 x)))] ⟨[],0,[]⟩ j) (.br (L64_0_k1 x) (loopEnd 26 (.exit 0) [] ⟨[],0,[]⟩ j) (.no))
def la64_0 (J:Task→List Value):Ans:=loopAns Lp64_0.c dec64_0 alt64_0 J
theorem ha64_0:∀(x:X64_0) (j:List Value)(o:Out),(alt64_0 x j).out=some o→∃d,loopR rd64_0 x=some d∧o=Lp64_0.tail d j:=by
  intro x j o h
  unfold alt64_0 at h
  cases hL:L64_0 x with
  | none=>simp [L64_0_k0,Qz0,L64_0_k1,hL,AT.out]at h
  | some d =>
    refine ⟨d,hL,?_⟩
    cases d<;>(simp only [L64_0_k0,Qz0,L64_0_k1,hL,AT.out,loopEnd,cond_true,cond_false,Option.some.injEq]at h;rw [← h];rfl)
theorem hd64_0:∀(t:Task) (c:Code)(x:X64_0),dec64_0 t=some (c,x)→c=Lp64_0.c→∃T,t=.code none (.loop Lp64_0.c) ⟨T,[],⟨Lp64_0.hp x,0,[]⟩⟩∧T.length=Lp64_0.N∧∀kv∈Lp64_0.S.zip (Lp64_0.sl x),lget T kv.1=kv.2:=by
  intro t c x h hc
  unfold dec64_0 at h
  split at h
  case h_2=>cases h
  split at h
  case h_2=>cases h
  simp only [Option.some.injEq,Prod.mk.injEq]at h
  obtain ⟨rfl,rfl⟩:=h
  subst hc
  refine ⟨_,rfl,lenIs_eq _ _ (by assumption),?_⟩
  intro kv hk
  simp only [Lp64_0,List.zip_cons_cons,List.zip_nil_right,List.mem_cons,List.not_mem_nil,or_false]at hk
  rcases hk with rfl | rfl | rfl<;>assumption
theorem kl64_0:∃J,Known Try.prog (la64_0 J):=by
  exact LoopOf.known noNG mixed ok64_0 (by decide) (by decide) (Known.nothing Try.prog) (n:=60) (rd:=rd64_0) (fun x j=>T64_0  j x.v0 x.v1 x.v2 x.v3 x.v4 x.v5 x.v6) dec64_0 alt64_0 hd64_0 ha64_0
structure R64 where
  r0:Bool
structure A64 where
  a0:Array Value
  a1:Nat
  a2:Nat
  a3:Array Value
  a4:Nat
  a5:Nat
def rt64 (a0:Array Value)(a1:Nat)(a2:Nat)(a3:Array Value)(a4:Nat)(a5:Nat):RT R64 :=
  .br (not (decide ((Int.ofNat a2)=(Int.ofNat a5)))) (.leaf ⟨false⟩)
  (.sw (eqCode (Lp64_0.c) (Lp64_0.c)) true (by simp only [eqCode_self,arrEq_self]) (.br (L64_0_k0 (X64_0.mk a0 a1 a2 a3 a4 a5 (0:Int))) (.leaf ⟨(Qz0 (X64_0.mk a0 a1 a2 a3 a4 a5 (0:Int)))⟩) (.br (L64_0_k1 (X64_0.mk a0 a1 a2 a3 a4 a5 (0:Int))) (.leaf ⟨true⟩) (.no))) (.no))
def en64 (r:R64):Value:=(.bool r.r0)
theorem T64 (J0:Task→List Value)(a0:Array Value)(a1:Nat)(a2:Nat)(a3:Array Value)(a4:Nat)(a5:Nat):evC Try.prog (Ans.c (la64_0 J0)) 60 (.call 64 ⟨[(lstV a0 a1 a2 1),(lstV a3 a4 a5 1)]⟩ ⟨[],0,[]⟩) (frzK [0])=(rt64 a0 a1 a2 a3 a4 a5).out (fun r=>.ret (en64 r) ⟨[],0,[]⟩):=by kernel_rfl
def F64 (a0:Array Value)(a1:Nat)(a2:Nat)(a3:Array Value)(a4:Nat)(a5:Nat):Option R64:=(rt64 a0 a1 a2 a3 a4 a5).val
section
variable (a0:Array Value) (a1:Nat) (a2:Nat) (a3:Array Value) (a4:Nat) (a5:Nat)
def F64_ok:Bool:=(F64 a0 a1 a2 a3 a4 a5).isSome
def F64_0:Bool:=match F64 a0 a1 a2 a3 a4 a5 with | some r=>r.r0 | none=>false
end
def dec64:Task→Option (A64×Hp)
  | .call g ⟨[(.func (.via 0 ⟨[]⟩ 0 true) a0 ⟨[.slice (some ⟨0,a1,none⟩) a2 1]⟩),(.func (.via 0 ⟨[]⟩ 0 true) a3 ⟨[.slice (some ⟨0,a4,none⟩) a5 1]⟩)]⟩ h=>(match Nat.beq g 64 with | true=>some (⟨a0,a1,a2,a3,a4,a5⟩,h) | false=>none)
  | _=>none
def alt64 (x:A64)(h:Hp):AT:=.br (F64_ok x.a0 x.a1 x.a2 x.a3 x.a4 x.a5) (.leaf (.ret (.bool (F64_0 x.a0 x.a1 x.a2 x.a3 x.a4 x.a5)) h)) .no
def p64:Ans:=fnAns dec64 alt64
theorem ha64:∀(x:A64) (h:Hp)(o:Out),(alt64 x h).out=some o→∃r,(rt64 x.a0 x.a1 x.a2 x.a3 x.a4 x.a5).val=some r∧o=.ret (en64 r) h:=by
  intro x h o e
  unfold alt64 at e
  simp only [AT.out]at e
  obtain ⟨g,e⟩:=cond_some e
  unfold F64_ok at g
  obtain ⟨r,hF⟩:=Option.isSome_iff_exists.1 g
  have hv:F64 x.a0 x.a1 x.a2 x.a3 x.a4 x.a5=(rt64 x.a0 x.a1 x.a2 x.a3 x.a4 x.a5).val:=by delta F64;exact rfl
  refine ⟨r,hv.symm.trans hF,?_⟩
  simp only [Option.some.injEq]at e
  rw [← e]
  have k0:F64_0 x.a0 x.a1 x.a2 x.a3 x.a4 x.a5=r.r0:=by
    show (match F64 x.a0 x.a1 x.a2 x.a3 x.a4 x.a5 with | some r=>r.r0 | none=>false)=r.r0
    rw [hF]
  rw [k0]<;>rfl
theorem hd64:∀(t:Task) (x:A64)(h:Hp),dec64 t=some (x,h)→t=.call 64 ⟨[(lstV x.a0 x.a1 x.a2 1),(lstV x.a3 x.a4 x.a5 1)]⟩ h:=by
  intro t x h e
  unfold dec64 at e
  split at e
  case h_2=>cases e
  split at e
  case h_2=>cases e
  rename_i hg
  simp only [Option.some.injEq,Prod.mk.injEq]at e
  obtain ⟨rfl,rfl⟩:=e
  rw [Nat.eq_of_beq_eq_true hg]
theorem known64:Known Try.prog p64:=by
  obtain ⟨J0,hJ0⟩:=kl64_0
  exact Known.fn noNG mixed hJ0 (n:=60) (zs:=[0]) 64 (fun x:A64=>[(lstV x.a0 x.a1 x.a2 1),(lstV x.a3 x.a4 x.a5 1)]) (fun x=>rt64 x.a0 x.a1 x.a2 x.a3 x.a4 x.a5) en64 (fun x=>T64 J0 x.a0 x.a1 x.a2 x.a3 x.a4 x.a5) (fun x=>rfl) dec64 alt64 hd64 ha64
structure R24 where
  r0:Bool
structure A24 where
  a0:Array Value
  a1:Nat
  a2:Nat
  a3:Array Value
  a4:Nat
  a5:Nat
def rt24 (a0:Array Value)(a1:Nat)(a2:Nat)(a3:Array Value)(a4:Nat)(a5:Nat):RT R24 :=
  .br (F64_ok (a0) a1 a2 (a3) a4 a5) (.leaf ⟨(F64_0 (a0) a1 a2 (a3) a4 a5)⟩) (.no)
def en24 (r:R24):Value:=(.bool r.r0)
theorem T24  (a0:Array Value) (a1:Nat) (a2:Nat) (a3:Array Value) (a4:Nat) (a5:Nat):evC Try.prog (Ans.c p64) 60 (.call 24 ⟨[(lstV a0 a1 a2 1),(lstV a3 a4 a5 1)]⟩ ⟨[],0,[]⟩) (frzK [0])=(rt24 a0 a1 a2 a3 a4 a5).out (fun r=>.ret (en24 r) ⟨[],0,[]⟩):=by kernel_rfl
def F24 (a0:Array Value)(a1:Nat)(a2:Nat)(a3:Array Value)(a4:Nat)(a5:Nat):Option R24:=(rt24 a0 a1 a2 a3 a4 a5).val
section
variable (a0:Array Value) (a1:Nat) (a2:Nat) (a3:Array Value) (a4:Nat) (a5:Nat)
def F24_ok:Bool:=(F24 a0 a1 a2 a3 a4 a5).isSome
def F24_0:Bool:=match F24 a0 a1 a2 a3 a4 a5 with | some r=>r.r0 | none=>false
end
def dec24:Task→Option (A24×Hp)
  | .call g ⟨[(.func (.via 0 ⟨[]⟩ 0 true) a0 ⟨[.slice (some ⟨0,a1,none⟩) a2 1]⟩),(.func (.via 0 ⟨[]⟩ 0 true) a3 ⟨[.slice (some ⟨0,a4,none⟩) a5 1]⟩)]⟩ h=>(match Nat.beq g 24 with | true=>some (⟨a0,a1,a2,a3,a4,a5⟩,h) | false=>none)
  | _=>none
def alt24 (x:A24)(h:Hp):AT:=.br (F24_ok x.a0 x.a1 x.a2 x.a3 x.a4 x.a5) (.leaf (.ret (.bool (F24_0 x.a0 x.a1 x.a2 x.a3 x.a4 x.a5)) h)) .no
def p24:Ans:=fnAns dec24 alt24
theorem ha24:∀(x:A24) (h:Hp)(o:Out),(alt24 x h).out=some o→∃r,(rt24 x.a0 x.a1 x.a2 x.a3 x.a4 x.a5).val=some r∧o=.ret (en24 r) h:=by
  intro x h o e
  unfold alt24 at e
  simp only [AT.out]at e
  obtain ⟨g,e⟩:=cond_some e
  unfold F24_ok at g
  obtain ⟨r,hF⟩:=Option.isSome_iff_exists.1 g
  have hv:F24 x.a0 x.a1 x.a2 x.a3 x.a4 x.a5=(rt24 x.a0 x.a1 x.a2 x.a3 x.a4 x.a5).val:=by delta F24;exact rfl
  refine ⟨r,hv.symm.trans hF,?_⟩
  simp only [Option.some.injEq]at e
  rw [← e]
  have k0:F24_0 x.a0 x.a1 x.a2 x.a3 x.a4 x.a5=r.r0:=by
    show (match F24 x.a0 x.a1 x.a2 x.a3 x.a4 x.a5 with | some r=>r.r0 | none=>false)=r.r0
    rw [hF]
  rw [k0]<;>rfl
theorem hd24:∀(t:Task) (x:A24)(h:Hp),dec24 t=some (x,h)→t=.call 24 ⟨[(lstV x.a0 x.a1 x.a2 1),(lstV x.a3 x.a4 x.a5 1)]⟩ h:=by
  intro t x h e
  unfold dec24 at e
  split at e
  case h_2=>cases e
  split at e
  case h_2=>cases e
  rename_i hg
  simp only [Option.some.injEq,Prod.mk.injEq]at e
  obtain ⟨rfl,rfl⟩:=e
  rw [Nat.eq_of_beq_eq_true hg]
theorem known24:Known Try.prog p24:=by
  exact Known.fn noNG mixed known64 (n:=60) (zs:=[0]) 24 (fun x:A24=>[(lstV x.a0 x.a1 x.a2 1),(lstV x.a3 x.a4 x.a5 1)]) (fun x=>rt24 x.a0 x.a1 x.a2 x.a3 x.a4 x.a5) en24 (fun x=>T24  x.a0 x.a1 x.a2 x.a3 x.a4 x.a5) (fun x=>rfl) dec24 alt24 hd24 ha24
structure R5 where
  r0:Bool
structure A5 where
  a0:ByteArray
  a1:Int
  a2:Int
  a3:Array Value
  a4:Nat
  a5:Nat
  a6:Int
  a7:Array Value
  a8:Nat
  a9:Nat
def rt5 (a0:ByteArray)(a1:Int)(a2:Int)(a3:Array Value)(a4:Nat)(a5:Nat)(a6:Int)(a7:Array Value)(a8:Nat)(a9:Nat):RT R5 :=
  .br (F22_ok a0 a1 a2 (a3) a4 a5 a6 (a7) a8 a9) (.br (F23_ok a0 a1 a2 (a3) a4 a5 a6 (a7) a8 a9) (.br (F24_ok (F22_0 a0 a1 a2 (a3) a4 a5 a6 (a7) a8 a9) (F22_1 a0 a1 a2 (a3) a4 a5 a6 (a7) a8 a9) (F22_2 a0 a1 a2 (a3) a4 a5 a6 (a7) a8 a9) (F23_0 a0 a1 a2 (a3) a4 a5 a6 (a7) a8 a9) (F23_1 a0 a1 a2 (a3) a4 a5 a6 (a7) a8 a9) (F23_2 a0 a1 a2 (a3) a4 a5 a6 (a7) a8 a9)) (.br (not (F24_0 (F22_0 a0 a1 a2 (a3) a4 a5 a6 (a7) a8 a9) (F22_1 a0 a1 a2 (a3) a4 a5 a6 (a7) a8 a9) (F22_2 a0 a1 a2 (a3) a4 a5 a6 (a7) a8 a9) (F23_0 a0 a1 a2 (a3) a4 a5 a6 (a7) a8 a9) (F23_1 a0 a1 a2 (a3) a4 a5 a6 (a7) a8 a9) (F23_2 a0 a1 a2 (a3) a4 a5 a6 (a7) a8 a9))) (.leaf ⟨false⟩) (.br (not (decide ((F22_3 a0 a1 a2 (a3) a4 a5 a6 (a7) a8 a9)=(F23_3 a0 a1 a2 (a3) a4 a5 a6 (a7) a8 a9)))) (.leaf ⟨false⟩) (.br (F25_ok a0 a1 a2 (a3) a4 a5 a6 (a7) a8 a9) (.br (F26_ok a0 a1 a2 (a3) a4 a5 a6 (a7) a8 a9)
 (.br (allU8 (F25_0 a0 a1 a2 (a3) a4 a5 a6 (a7) a8 a9) (F25_1 a0 a1 a2 (a3) a4 a5 a6 (a7) a8 a9) (F25_2 a0 a1 a2 (a3) a4 a5 a6 (a7) a8 a9)) (.br (allU8 (F26_0 a0 a1 a2 (a3) a4 a5 a6 (a7) a8 a9) (F26_1 a0 a1 a2 (a3) a4 a5 a6 (a7) a8 a9) (F26_2 a0 a1 a2 (a3) a4 a5 a6 (a7) a8 a9)) (.br (strEq (bytesOf (F25_0 a0 a1 a2 (a3) a4 a5 a6 (a7) a8 a9) (F25_1 a0 a1 a2 (a3) a4 a5 a6 (a7) a8 a9) (F25_2 a0 a1 a2 (a3) a4 a5 a6 (a7) a8 a9)) (bytesOf (F26_0 a0 a1 a2 (a3) a4 a5 a6 (a7) a8 a9) (F26_1 a0 a1 a2 (a3) a4 a5 a6 (a7) a8 a9) (F26_2 a0 a1 a2 (a3) a4 a5 a6 (a7) a8 a9))) (.br (decide ((F25_3 a0 a1 a2 (a3) a4 a5 a6 (a7) a8 a9)=(F26_3 a0 a1 a2 (a3) a4 a5 a6 (a7) a8 a9))) (.leaf ⟨true⟩) (.leaf ⟨false⟩)) (.leaf ⟨false⟩)) (.no)) (.no)) (.no)) (.no)))) (.no)) (.no)) (.no)
def en5 (r:R5):Value:=(.bool r.r0)
theorem T5  (a0:ByteArray) (a1:Int) (a2:Int) (a3:Array Value) (a4:Nat) (a5:Nat) (a6:Int) (a7:Array Value) (a8:Nat) (a9:Nat):evC Try.prog (Ans.c (p19.or (p22.or (p23.or (p24.or (p25.or p26)))))) 60 (.call 5 ⟨[(.agg ⟨[(.string a0),(.int .i64 a1),(.int .i64 a2),(lstV a3 a4 a5 4)]⟩),(.int .i64 a6),(lstV a7 a8 a9 1)]⟩ ⟨[],0,[]⟩) (frzK [0])=(rt5 a0 a1 a2 a3 a4 a5 a6 a7 a8 a9).out (fun r=>.ret (en5 r) ⟨[],0,[]⟩):=by kernel_rfl
def F5 (a0:ByteArray)(a1:Int)(a2:Int)(a3:Array Value)(a4:Nat)(a5:Nat)(a6:Int)(a7:Array Value)(a8:Nat)(a9:Nat):Option R5:=(rt5 a0 a1 a2 a3 a4 a5 a6 a7 a8 a9).val
section
variable (a0:ByteArray) (a1:Int) (a2:Int) (a3:Array Value) (a4:Nat) (a5:Nat) (a6:Int) (a7:Array Value) (a8:Nat) (a9:Nat)
def F5_ok:Bool:=(F5 a0 a1 a2 a3 a4 a5 a6 a7 a8 a9).isSome
def F5_0:Bool:=match F5 a0 a1 a2 a3 a4 a5 a6 a7 a8 a9 with | some r=>r.r0 | none=>false
end
def dec5:Task→Option (A5×Hp)
  | .call g ⟨[(.agg ⟨[(.string a0),(.int .i64 a1),(.int .i64 a2),(.func (.via 0 ⟨[]⟩ 0 true) a3 ⟨[.slice (some ⟨0,a4,none⟩) a5 4]⟩)]⟩),(.int .i64 a6),(.func (.via 0 ⟨[]⟩ 0 true) a7 ⟨[.slice (some ⟨0,a8,none⟩) a9 1]⟩)]⟩ h=>(match Nat.beq g 5 with | true=>some (⟨a0,a1,a2,a3,a4,a5,a6,a7,a8,a9⟩,h) | false=>none)
  | _=>none
def alt5 (x:A5)(h:Hp):AT:=.br (F5_ok x.a0 x.a1 x.a2 x.a3 x.a4 x.a5 x.a6 x.a7 x.a8 x.a9) (.leaf (.ret (.bool (F5_0 x.a0 x.a1 x.a2 x.a3 x.a4 x.a5 x.a6 x.a7 x.a8 x.a9)) h)) .no
def p5:Ans:=fnAns dec5 alt5
theorem ha5:∀(x:A5) (h:Hp)(o:Out),(alt5 x h).out=some o→∃r,(rt5 x.a0 x.a1 x.a2 x.a3 x.a4 x.a5 x.a6 x.a7 x.a8 x.a9).val=some r∧o=.ret (en5 r) h:=by
  intro x h o e
  unfold alt5 at e
  simp only [AT.out]at e
  obtain ⟨g,e⟩:=cond_some e
  unfold F5_ok at g
  obtain ⟨r,hF⟩:=Option.isSome_iff_exists.1 g
  have hv:F5 x.a0 x.a1 x.a2 x.a3 x.a4 x.a5 x.a6 x.a7 x.a8 x.a9=(rt5 x.a0 x.a1 x.a2 x.a3 x.a4 x.a5 x.a6 x.a7 x.a8 x.a9).val:=by delta F5;exact rfl
  refine ⟨r,hv.symm.trans hF,?_⟩
  simp only [Option.some.injEq]at e
  rw [← e]
  have k0:F5_0 x.a0 x.a1 x.a2 x.a3 x.a4 x.a5 x.a6 x.a7 x.a8 x.a9=r.r0:=by
    show (match F5 x.a0 x.a1 x.a2 x.a3 x.a4 x.a5 x.a6 x.a7 x.a8 x.a9 with | some r=>r.r0 | none=>false)=r.r0
    rw [hF]
  rw [k0]<;>rfl
theorem hd5:∀(t:Task) (x:A5)(h:Hp),dec5 t=some (x,h)→t=.call 5 ⟨[(.agg ⟨[(.string x.a0),(.int .i64 x.a1),(.int .i64 x.a2),(lstV x.a3 x.a4 x.a5 4)]⟩),(.int .i64 x.a6),(lstV x.a7 x.a8 x.a9 1)]⟩ h:=by
  intro t x h e
  unfold dec5 at e
  split at e
  case h_2=>cases e
  split at e
  case h_2=>cases e
  rename_i hg
  simp only [Option.some.injEq,Prod.mk.injEq]at e
  obtain ⟨rfl,rfl⟩:=e
  rw [Nat.eq_of_beq_eq_true hg]
theorem known5:Known Try.prog p5:=by
  exact Known.fn noNG mixed (Known.or known19 (Known.or known22 (Known.or known23 (Known.or known24 (Known.or known25 known26))))) (n:=60) (zs:=[0]) 5 (fun x:A5=>[(.agg ⟨[(.string x.a0),(.int .i64 x.a1),(.int .i64 x.a2),(lstV x.a3 x.a4 x.a5 4)]⟩),(.int .i64 x.a6),(lstV x.a7 x.a8 x.a9 1)]) (fun x=>rt5 x.a0 x.a1 x.a2 x.a3 x.a4 x.a5 x.a6 x.a7 x.a8 x.a9) en5 (fun x=>T5  x.a0 x.a1 x.a2 x.a3 x.a4 x.a5 x.a6 x.a7 x.a8 x.a9) (fun x=>rfl) dec5 alt5 hd5 ha5
end
end Go.Proofs.Ytoojllndfjamgaa
namespace Go.Proofs.Ytoojllndfjamgaa
open Go.ChangeShapes Go.WideShapes Go.ChangeAt Go.RowKit Go.Gi
def True5:Prop:=∀(s:ByteArray) (ws:Int)(dp:Int)(cc:Array Value)(nc:Nat)(num:Int)(cv:Array Value)(nv:Nat),s.size≤maxLen→(Lit.int .i64 ws).wf=true→(Lit.int .i64 dp).wf=true→GL C4 4 cc nc→(Lit.int .i64 num).wf=true→GL I1 1 cv nv→(rt5 s ws dp cc 0 nc num cv 0 nv).val=some ⟨true⟩
theorem law5 (hm:True5) {s:ByteArray}{ws:Int}{dp:Int}{cc:Array Value}{nc:Nat}{num:Int}{cv:Array Value}{nv:Nat}(hy0:s.size≤maxLen) (hy1:(Lit.int .i64 ws).wf=true) (hy2:(Lit.int .i64 dp).wf=true) (hy3:GL C4 4 cc nc) (hy4:(Lit.int .i64 num).wf=true) (hy5:GL I1 1 cv nv) :
    Fact Try.prog (.call 5 ⟨[(.agg ⟨[.string s,.int .i64 ws,.int .i64 dp,lstV cc 0 nc 4]⟩),(.int .i64 num),(lstV cv 0 nv 1)]⟩ ⟨[],0,[]⟩) (.ret (.bool true) ⟨[],0,[]⟩):=by
  have hv:=hm s ws dp cc nc num cv nv hy0 hy1 hy2 hy3 hy4 hy5
  refine known5 _ (alt5 ⟨s,ws,dp,cc,0,nc,num,cv,0,nv⟩ ⟨[],0,[]⟩) _ rfl ?_
  have e1:F5 s ws dp cc 0 nc num cv 0 nv=some ⟨true⟩:=hv
  have k0:F5_ok s ws dp cc 0 nc num cv 0 nv=true:=by unfold F5_ok;rw [e1];rfl
  have k1:F5_0 s ws dp cc 0 nc num cv 0 nv=true:=by
    show (match F5 s ws dp cc 0 nc num cv 0 nv with | some r=>r.r0 | none=>false)=true
    rw [e1]
  simp only [alt5,k0,k1,AT.out,cond_true]
set_option maxRecDepth 100000 in
theorem lifted5 (hm:True5)(os:Os)(started:os.Started)(H:Type)(enc:TypeId×Value→H) :
    ReturnsInHanded {} Try.checked os 5 .any (Rows.frameCodesSpec.pre6 enc Try.prog Try.f5 Rows.frameCodesRow.domain false) (Rows.frameCodesSpec.post enc Try.prog Try.f5 false true false false):=by
  refine returnsInHanded_of_change (C:=Try.checked) own started (by kernel_rfl) Try.func5
    (ChangeSpec.witness6 (enc:=enc) (C:=Try.checked) false ⟨#[],#[.agg #[.string .empty,.int .i64 0,.int .i64 0,.slice none 0 0],.int .i64 0,.slice none 0 0],[]⟩ 20 (by kernel_rfl) (by kernel_rfl) (by kernel_rfl) (by kernel_rfl)) ?_
  intro W base args ds gs before hval0 hW hcnd _
  have hval:∀(j:Nat) t v,Try.f5.params[j]?=some t→args[j]?=some v→Value.okWide Try.prog W .any base t v:=hval0
  have hW':=hW
  obtain ⟨p,q,hA0,hV,rfl,hfz,hnd⟩:=hW
  have hA:DataW.TrodAll enc Try.prog W 0 (fun _=>true) true Try.f5.params.toList args.toList ds p:=hA0
  rw [Try.params5]at hA hval
  obtain ⟨v0,vs0,d0,ds0,p0,q0,hargs,rfl,rfl,h0,r0⟩:=trodAll_cons hA
  obtain ⟨v1,vs1,d1,ds1,p1,q1,rfl,rfl,rfl,h1,r1⟩:=trodAll_cons r0
  obtain ⟨v2,vs2,d2,ds2,p2,q2,rfl,rfl,rfl,h2,r2⟩:=trodAll_cons r1
  obtain ⟨rfl,rfl,rfl⟩:=trodAll_nil r2
  obtain rfl:args=#[v0,v1,v2]:=by cases args;simp_all
  obtain ⟨rfl,rfl⟩:=trodVars_none hV
  have k0:=h0
  have k1:=h1
  have k2:=h2
  have lt0:∀x∈p0,x.block<W.heap.size:=by obtain ⟨m,hm⟩:=k0;exact DataW.trod_lt m _ _ _ hm
  have lt1:∀x∈p1,x.block<W.heap.size:=by obtain ⟨m,hm⟩:=k1;exact DataW.trod_lt m _ _ _ hm
  have lt2:∀x∈p2,x.block<W.heap.size:=by obtain ⟨m,hm⟩:=k2;exact DataW.trod_lt m _ _ _ hm
  obtain ⟨s,ws,dp,cc,nc,u0,hy0,hy1,hy2,hy3⟩:=fmtArg (hval 0 24 v0 rfl rfl) h0
  obtain ⟨num,rfl,rfl,rfl,hy4⟩:=open_int Try.underlying3 (hval 1 3 v1 rfl rfl) h1
  have u1:VR (zAll W) (.int .i64 num) (.int .i64 num):=.int _ _
  obtain ⟨cv,nv,u2,hy5⟩:=intsArg (hval 2 39 v2 rfl rfl) h2
  clear hA0 hval0
  refine (calls_frozen (law5 hm (s:=s) (ws:=ws) (dp:=dp) (cc:=cc) (nc:=nc) (num:=num) (cv:=cv) (nv:=nv) hy0 hy1 hy2 hy3 hy4 hy5) rfl ((((VRs.nil _).push u0).push u1).push u2)).mono fun e W' ⟨he,bel⟩=>?_
  subst he
  exact ⟨_,rfl,_,_,_,[],_,[],hW',trodAll_mk1 (shut_bool Try.underlying4 _),(trodAll_cons_mk (Below.trod laidOut (by kernel_rfl) (of_decide_eq_true (by kernel_rfl)) k0 bel lt0) (trodAll_cons_mk (Below.trod laidOut (by kernel_rfl) (of_decide_eq_true (by kernel_rfl)) k1 bel lt1) (trodAll_cons_mk (Below.trod laidOut (by kernel_rfl) (of_decide_eq_true (by kernel_rfl)) k2 bel lt2) trodAll_mk0))),rfl,bel.frame _,fun h=>by cases h⟩
theorem over5 (hm:True5):Rows.frameCodesRow.holds Try.pinned (OpenSpec.ofChange Rows.frameCodesSpec) :=
  OpenClaim.holds_of_wide 5 Try.f5 rfl rfl rfl rfl rfl rfl rfl ⟨rfl,rfl,rfl,rfl,rfl⟩ rfl rfl rfl rfl rfl (by kernel_rfl) Try.func5 (by kernel_rfl)
    (of_decide_eq_true (by kernel_rfl)) (by unfold Func.isWrapper;first | (rw [if_pos (by decide +kernel)];kernel_rfl) | (rw [if_neg (by decide +kernel)];exact ⟨rfl,rfl⟩))
    (fun os started H enc _=>lifted5 hm os started H enc)
theorem said5 (hm:True5):Rows.FrameCodesSaid:=over5 hm
end Go.Proofs.Ytoojllndfjamgaa
namespace Go.Proofs.Ytoojllndfjamgaa
open Go.Gi Go.RowKit
noncomputable section
set_option maxRecDepth 100000
set_option maxHeartbeats 2000000
theorem F24_self {l:List Int}(hl:l.length≤1000000):F24_ok (intA .i64 l) 0 l.length (intA .i64 l) 0 l.length=true∧F24_0 (intA .i64 l) 0 l.length (intA .i64 l) 0 l.length=true:=by
  have z1:¬(l.length:Int)<(l.length:Int):=by omega
  have lp:L64_0 (X64_0.mk (intA .i64 l) 0 l.length (intA .i64 l) 0 l.length 0)=some .k1 :=
    loop_iter (σ:=Unit) (rd:=rd64_0) (S:=fun k _=>X64_0.mk (intA .i64 l) 0 l.length (intA .i64 l) 0 l.length (k:Int)) (f:=fun _ u=>u) (n:=l.length) (fin:=fun _=>.k1) (I:=fun _=>True) (fun _ _ _ _=>trivial)
      (fun k _ hk _=>by
        have hki:(k:Int)<(l.length:Int):=by omega
        have h0:(0:Int)≤(k:Int):=by omega
        have h3:IntKind.wrap .i64 ((k:Int)+1)=((k+1:Nat):Int):=by rw [wrap64_id (by omega) (by omega)];omega
        have hi:isInt .i64 (intA .i64 l) (0+k)=true:=by rw [Nat.zero_add];exact intA_is hk
        simp only [rd64_0,RT.val,hki,h0,h3,hi,Int.toNat_natCast,Int.ofNat_eq_natCast,Nat.mul_one,decide_true,Bool.not_true,Bool.and_self,cond_true,cond_false])
      (fun _ _=>by simp only [rd64_0,RT.val,z1,Int.ofNat_eq_natCast,decide_false,cond_false]) l.length 0 () (by omega) trivial
  have q:F64 (intA .i64 l) 0 l.length (intA .i64 l) 0 l.length=some ⟨true⟩:=by
    unfold F64 rt64
    simp only [RT.val,L64_0_k0,L64_0_k1,lp,decide_true,Bool.not_true,cond_true,cond_false]
  have o:F64_ok (intA .i64 l) 0 l.length (intA .i64 l) 0 l.length=true:=by simp only [F64_ok,q];rfl
  have v:F64_0 (intA .i64 l) 0 l.length (intA .i64 l) 0 l.length=true:=by simp only [F64_0,q]
  have q2:F24 (intA .i64 l) 0 l.length (intA .i64 l) 0 l.length=some ⟨true⟩:=by
    unfold F24 rt24
    simp only [RT.val,o,v,cond_true]
  exact ⟨by simp only [F24_ok,q2];rfl,by simp only [F24_0,q2]⟩
theorem true5:True5:=by
  intro s ws dp cc nc num cv nv _ _ _ gc _ gv
  have p:=F22_eq (s:=s) (ws:=ws) (dp:=dp) (num:=num) gc gv
  have q:=F23_eq (s:=s) (ws:=ws) (dp:=dp) (num:=num) gc gv
  have u:=F25_eq (s:=s) (ws:=ws) (dp:=dp) (num:=num) gc gv
  have v:=F26_eq (s:=s) (ws:=ws) (dp:=dp) (num:=num) gc gv
  have o1:F22_ok s ws dp cc 0 nc num cv 0 nv=true:=by simp only [F22_ok,p];rfl
  have o2:F23_ok s ws dp cc 0 nc num cv 0 nv=true:=by simp only [F23_ok,q];rfl
  have o3:F25_ok s ws dp cc 0 nc num cv 0 nv=true:=by simp only [F25_ok,u];rfl
  have o4:F26_ok s ws dp cc 0 nc num cv 0 nv=true:=by simp only [F26_ok,v];rfl
  have hc:∃l:List Int,l.length≤1000000∧(cmR (ckF s ws dp cc nc).2.2 num cc cv nc nv ws).1=intA .i64 l∧(cmR (ckF s ws dp cc nc).2.2 num cc cv nc nv ws).2.1=l.length:=by
    unfold cmR
    by_cases hz:erF (ckF s ws dp cc nc).2.2 num cv nv (nc:Int)=0
    · rw [if_pos hz]
      have f:=fmt_of (er_zero hz).1
      have:=f.w2
      exact ⟨_,by rw [cmA_len];omega,rfl,cmA_len.symm⟩
    · rw [if_neg hz]
      exact ⟨[],by simp,rfl,rfl⟩
  obtain ⟨l,hl,c1,c2⟩:=hc
  have he:∃m:List Int,(enR (ckF s ws dp cc nc).2.2 num s cv nv ws).1=intA .u8 m∧(enR (ckF s ws dp cc nc).2.2 num s cv nv ws).2.1=m.length:=by
    unfold enR
    by_cases hz:erF (ckF s ws dp cc nc).2.2 num cv nv ws=0
    · rw [if_pos hz];exact ⟨_,rfl,rfl⟩
    · rw [if_neg hz];exact ⟨[],rfl,rfl⟩
  obtain ⟨m,d1,d2⟩:=he
  obtain ⟨g1,g2⟩:=F24_self hl
  have h8:=intA_u8 (l:=m) rfl
  unfold rt5
  simp only [RT.val,o1,o2,o3,o4,F22_0,F22_1,F22_2,F22_3,F23_0,F23_1,F23_2,F23_3,F25_0,F25_1,F25_2,F25_3,F26_0,F26_1,F26_2,F26_3,p,q,u,v,c1,c2,d1,d2,g1,g2,h8,strEq_self,decide_true,Bool.not_true,cond_true,cond_false]
theorem frameCodesProved:Rows.FrameCodesSaid:=said5 true5
end
end Go.Proofs.Ytoojllndfjamgaa
