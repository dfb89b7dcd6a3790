/- RecoverLands proved: CheckChute and Land return what the document says, for any impact, parachute and bands. Conditions: none. -/
import Derived.Test.YtoghoeebiddblaaMg10
import Derived.Test.YtoghoeebiddblaaMg7
import Derived.Test.YtoghoeebiddblaaMg8
import Derived.Test.YtoghoeebiddblaaMg9
set_option linter.unusedVariables false
set_option linter.unusedSimpArgs false
namespace Go.Proofs.Ytoghoeebiddblaa
open Go.Gi Go.RowKit
noncomputable section
set_option maxRecDepth 100000
set_option maxHeartbeats 4000000
def KKnown374:CF:=⟨40,[vI 500,vI 0,vI 999],vT⟩
theorem kKnown374:KKnown374.Ok Try.prog:=CF.of2 noNG mixed (l:=[]) .nil 3000 (by kernel_rfl)
def KKnown375:CF:=⟨40,[vI 1500,vI 0,vI 999],vF⟩
theorem kKnown375:KKnown375.Ok Try.prog:=CF.of2 noNG mixed (l:=[]) .nil 3000 (by kernel_rfl)
def KKnown376:CF:=⟨40,[vI 500,vI 1000,vI 1999],vF⟩
theorem kKnown376:KKnown376.Ok Try.prog:=CF.of2 noNG mixed (l:=[]) .nil 3000 (by kernel_rfl)
def KKnown377:CF:=⟨40,[vI 500,vI 2000,vI 2999],vF⟩
theorem kKnown377:KKnown377.Ok Try.prog:=CF.of2 noNG mixed (l:=[]) .nil 3000 (by kernel_rfl)
def KKnown378:CF:=⟨24,[.agg wKnown1,.agg ⟨[vI 500,vI 1500]⟩],.tuple ⟨[vI 0,vI 4]⟩⟩
theorem kKnown378:KKnown378.Ok Try.prog:=CF.of2 noNG mixed (l:=[KKnown376,KKnown377,KKnown178,KKnown374,KKnown375]) (.cons kKnown376 (.cons kKnown377 (.cons kKnown178 (.cons kKnown374 (.cons kKnown375 .nil))))) 3000 (by kernel_rfl)
def KKnown379:CF:=⟨38,[vI 3066666,vI 4601000],.agg ⟨[vI 3066666,vI 4601000]⟩⟩
theorem kKnown379:KKnown379.Ok Try.prog:=CF.of2 noNG mixed (l:=[]) .nil 3000 (by kernel_rfl)
def KKnown380:CF:=⟨38,[vJ 819999,vI 801000],.agg ⟨[vJ 819999,vI 801000]⟩⟩
theorem kKnown380:KKnown380.Ok Try.prog:=CF.of2 noNG mixed (l:=[]) .nil 3000 (by kernel_rfl)
def KKnown381:CF:=⟨23,[vI 3066666,vI 4601000,vJ 819999,vI 801000],.agg ⟨[vI 3066666,vI 4601000,vJ 819999,vI 801000]⟩⟩
theorem kKnown381:KKnown381.Ok Try.prog:=CF.of2 noNG mixed (l:=[KKnown379,KKnown380]) (.cons kKnown379 (.cons kKnown380 .nil)) 3000 (by kernel_rfl)
def KKnown382:CF:=⟨38,[vI 5500,vI 6510],.agg ⟨[vI 5500,vI 6510]⟩⟩
theorem kKnown382:KKnown382.Ok Try.prog:=CF.of2 noNG mixed (l:=[]) .nil 3000 (by kernel_rfl)
def KKnown383:CF:=⟨29,[.agg ⟨[lstV wKnown7 0 5 3,lstV ⟨[vI 4,vI 1]⟩ 0 1 2]⟩,.agg ⟨[lstV wKnown7 0 5 3,lstV ⟨[vI 4,vI 1]⟩ 0 1 2]⟩],vT⟩
theorem kKnown383:KKnown383.Ok Try.prog:=CF.of2 noNG mixed (l:=[]) .nil 3000 (by kernel_rfl)
def KKnown384:CF:=⟨17,[],vT⟩
theorem kKnown384:KKnown384.Ok Try.prog:=CF.of2 noNG mixed (l:=[KKnown9,KKnown210,KKnown371,KKnown373,KKnown313,KKnown378,KKnown315,KKnown316,KKnown381,KKnown382,KKnown383]) (.cons kKnown9 (.cons kKnown210 (.cons kKnown371 (.cons kKnown373 (.cons kKnown313 (.cons kKnown378 (.cons kKnown315 (.cons kKnown316 (.cons kKnown381 (.cons kKnown382 (.cons kKnown383 .nil))))))))))) 3000 (by kernel_rfl)
end
end Go.Proofs.Ytoghoeebiddblaa
namespace Go.Proofs.Ytoghoeebiddblaa
open Go.Gi Go.RowKit
noncomputable section
structure R17 where
  (r0:Bool)
structure A17 where
def rt17:RT R17:=.leaf ⟨true⟩
def F17:Option R17:=rt17.val
def F17_ok:Bool:=F17.isSome
def F17_0:Bool:=match F17 with | some r=>r.r0 | none=>false
def dec17:Task→Option (A17×Hp)
  | .call g ⟨[]⟩ h=>(match Nat.beq g 17 with | true=>some (⟨⟩,h) | false=>none)
  | _=>none
def alt17 (_x:A17)(h:Hp):AT:=.br F17_ok (.leaf (.ret (.bool F17_0) h)) .no
def p17:Ans:=fnAns dec17 alt17
theorem hd17:∀(t:Task) (x:A17)(h:Hp),dec17 t=some (x,h)→t=.call 17 ⟨[]⟩ h:=by
  intro t x h e
  unfold dec17 at e
  split at e
  case h_2=>cases e
  split at e
  case h_2=>cases e
  rename_i hg
  simp only [Option.some.injEq,Prod.mk.injEq]at e
  obtain ⟨_,rfl⟩:=e
  rw [Nat.eq_of_beq_eq_true hg]
theorem known17:Known Try.prog p17:=by
  intro t x o h ho
  unfold p17 fnAns at h
  split at h
  · rename_i x' hp hd
    simp only [Option.some.injEq]at h
    subst h
    obtain rfl:=hd17 _ _ _ hd
    have h2:(alt17 x' hp).out=some (.ret (.bool true) hp):=rfl
    rw [h2]at ho
    cases ho
    exact kKnown384 hp
  · cases h
end
end Go.Proofs.Ytoghoeebiddblaa
namespace Go.Proofs.Ytoghoeebiddblaa
open Go.Gi Go.RowKit Go.Proofs.Ytoghoeebiddblaa.Old
noncomputable section
set_option maxRecDepth 100000
set_option maxHeartbeats 4000000
structure R3 where
  (r0:Bool)
structure A3 where
  (a0 a1:Int)
  (a2 a3:Int)
  (a4 a5:Int)
  (a6 a7:Int)
  (a8 a9:Int)
  (a10:Array Value)
  (a11 a12:Nat)
def rt3 (a0 a1:Int)(a2 a3:Int)(a4 a5:Int)(a6 a7:Int)(a8 a9:Int)(a10:Array Value)(a11 a12:Nat):RT R3 :=
  .br (F13_ok a7 a8 a9) (.br (F14_ok a7 a8 a9) (.br (decide (a7=a7)) (.br (decide (a8=a8)) (.br (decide (a9=a9)) (.br (decide (a7=a7)) (.br (decide (a8=a8)) (.br (decide (a9=a9)) (.br (not (decide ((F13_0 a7 a8 a9)=(F14_0 a7 a8 a9)))) (.leaf ⟨false⟩) (.br (F15_ok a0 a1 a2 a3 a4 a5 a6 a7 a8 a9 a10 a11 a12) (.br (F16_ok a0 a1 a2 a3 a4 a5 a6 a7 a8 a9 a10 a11 a12)
 (.br (and (decide ((F15_0 a0 a1 a2 a3 a4 a5 a6 a7 a8 a9 a10 a11 a12)=(F16_0 a0 a1 a2 a3 a4 a5 a6 a7 a8 a9 a10 a11 a12))) (and (and (and (decide ((F15_1 a0 a1 a2 a3 a4 a5 a6 a7 a8 a9 a10 a11 a12)=(F16_1 a0 a1 a2 a3 a4 a5 a6 a7 a8 a9 a10 a11 a12))) (and (decide ((F15_2 a0 a1 a2 a3 a4 a5 a6 a7 a8 a9 a10 a11 a12)=(F16_2 a0 a1 a2 a3 a4 a5 a6 a7 a8 a9 a10 a11 a12))) true)) (and (and (decide ((F15_3 a0 a1 a2 a3 a4 a5 a6 a7 a8 a9 a10 a11 a12)=(F16_3 a0 a1 a2 a3 a4 a5 a6 a7 a8 a9 a10 a11 a12))) (and (decide ((F15_4 a0 a1 a2 a3 a4 a5 a6 a7 a8 a9 a10 a11 a12)=(F16_4 a0 a1 a2 a3 a4 a5 a6 a7 a8 a9 a10 a11 a12))) true)) true)) (and (and (decide ((F15_5 a0 a1 a2 a3 a4 a5 a6 a7 a8 a9 a10 a11 a12)=(F16_5 a0 a1 a2 a3 a4 a5 a6 a7 a8 a9 a10 a11 a12))) (and (decide ((F15_6 a0 a1 a2 a3 a4 a5 a6 a7 a8 a9 a10 a11 a12)=(F16_6 a0 a1 a2 a3 a4 a5 a6 a7 a8 a9 a10 a11 a12))) true)) true)))
 (.br (decide ((F15_7 a0 a1 a2 a3 a4 a5 a6 a7 a8 a9 a10 a11 a12)=(F16_7 a0 a1 a2 a3 a4 a5 a6 a7 a8 a9 a10 a11 a12))) (.leaf ⟨true⟩) (.leaf ⟨false⟩)) (.leaf ⟨false⟩)) (.no)) (.no))) (.no)) (.no)) (.no)) (.no)) (.no)) (.no)) (.no)) (.no)
def en3 (r:R3):Value:=(.bool r.r0)
theorem T3  (a0 a1:Int) (a2 a3:Int) (a4 a5:Int) (a6 a7:Int) (a8 a9:Int) (a10:Array Value) (a11 a12:Nat):evC Try.prog (Ans.c (p13.or (p14.or (p15.or (p16.or p17))))) 60 (.call 3 ⟨[(.agg ⟨[(.int .i64 a0),(.int .i64 a1),(.int .i64 a2),(.int .i64 a3),(.int .i64 a4),(.int .i64 a5),(.int .i64 a6),(.int .i64 a7),(.int .i64 a8),(.int .i64 a9)]⟩),(lstV a10 a11 a12 6)]⟩ ⟨[],0,[]⟩) (frzK [0])=(rt3 a0 a1 a2 a3 a4 a5 a6 a7 a8 a9 a10 a11 a12).out (fun r=>.ret (en3 r) ⟨[],0,[]⟩):=by kernel_rfl
def F3 (a0 a1:Int)(a2 a3:Int)(a4 a5:Int)(a6 a7:Int)(a8 a9:Int)(a10:Array Value)(a11 a12:Nat):Option R3:=(rt3 a0 a1 a2 a3 a4 a5 a6 a7 a8 a9 a10 a11 a12).val
section
variable (a0 a1:Int) (a2 a3:Int) (a4 a5:Int) (a6 a7:Int) (a8 a9:Int) (a10:Array Value) (a11 a12:Nat)
def F3_ok:Bool:=(F3 a0 a1 a2 a3 a4 a5 a6 a7 a8 a9 a10 a11 a12).isSome
def F3_0:Bool:=match F3 a0 a1 a2 a3 a4 a5 a6 a7 a8 a9 a10 a11 a12 with | some r=>r.r0 | none=>false
end
def dec3:Task→Option (A3×Hp)
  | .call g ⟨[(.agg ⟨[(.int .i64 a0),(.int .i64 a1),(.int .i64 a2),(.int .i64 a3),(.int .i64 a4),(.int .i64 a5),(.int .i64 a6),(.int .i64 a7),(.int .i64 a8),(.int .i64 a9)]⟩),(.func (.via 0 ⟨[]⟩ 0 true) a10 ⟨[.slice (some ⟨0,a11,none⟩) a12 6]⟩)]⟩ h=>(match Nat.beq g 3 with | true=>some (⟨a0,a1,a2,a3,a4,a5,a6,a7,a8,a9,a10,a11,a12⟩,h) | false=>none)
  | _=>none
def alt3 (x:A3)(h:Hp):AT:=.br (F3_ok x.a0 x.a1 x.a2 x.a3 x.a4 x.a5 x.a6 x.a7 x.a8 x.a9 x.a10 x.a11 x.a12) (.leaf (.ret (.bool (F3_0 x.a0 x.a1 x.a2 x.a3 x.a4 x.a5 x.a6 x.a7 x.a8 x.a9 x.a10 x.a11 x.a12)) h)) .no
def p3:Ans:=fnAns dec3 alt3
theorem ha3:∀(x:A3) (h:Hp)(o:Out),(alt3 x h).out=some o→∃r,(rt3 x.a0 x.a1 x.a2 x.a3 x.a4 x.a5 x.a6 x.a7 x.a8 x.a9 x.a10 x.a11 x.a12).val=some r∧o=.ret (en3 r) h:=by
  intro x h o e
  unfold alt3 at e
  simp only [AT.out]at e
  obtain ⟨g,e⟩:=cond_some e
  unfold F3_ok at g
  obtain ⟨r,hF⟩:=Option.isSome_iff_exists.1 g
  have hv:F3 x.a0 x.a1 x.a2 x.a3 x.a4 x.a5 x.a6 x.a7 x.a8 x.a9 x.a10 x.a11 x.a12=(rt3 x.a0 x.a1 x.a2 x.a3 x.a4 x.a5 x.a6 x.a7 x.a8 x.a9 x.a10 x.a11 x.a12).val:=by delta F3;exact rfl
  refine ⟨r,hv.symm.trans hF,?_⟩
  simp only [Option.some.injEq]at e
  rw [← e]
  have k0:F3_0 x.a0 x.a1 x.a2 x.a3 x.a4 x.a5 x.a6 x.a7 x.a8 x.a9 x.a10 x.a11 x.a12=r.r0:=by
    show (match F3 x.a0 x.a1 x.a2 x.a3 x.a4 x.a5 x.a6 x.a7 x.a8 x.a9 x.a10 x.a11 x.a12 with | some r=>r.r0 | none=>false)=r.r0
    rw [hF]
  rw [k0]<;>rfl
theorem hd3:∀(t:Task) (x:A3)(h:Hp),dec3 t=some (x,h)→t=.call 3 ⟨[(.agg ⟨[(.int .i64 x.a0),(.int .i64 x.a1),(.int .i64 x.a2),(.int .i64 x.a3),(.int .i64 x.a4),(.int .i64 x.a5),(.int .i64 x.a6),(.int .i64 x.a7),(.int .i64 x.a8),(.int .i64 x.a9)]⟩),(lstV x.a10 x.a11 x.a12 6)]⟩ h:=by
  intro t x h e
  unfold dec3 at e
  split at e
  case h_2=>cases e
  split at e
  case h_2=>cases e
  rename_i hg
  simp only [Option.some.injEq,Prod.mk.injEq]at e
  obtain ⟨rfl,rfl⟩:=e
  rw [Nat.eq_of_beq_eq_true hg]
theorem known3:Known Try.prog p3:=by
  exact Known.fn noNG mixed (Known.or known13 (Known.or known14 (Known.or known15 (Known.or known16 known17)))) (n:=60) (zs:=[0]) 3 (fun x:A3=>[(.agg ⟨[(.int .i64 x.a0),(.int .i64 x.a1),(.int .i64 x.a2),(.int .i64 x.a3),(.int .i64 x.a4),(.int .i64 x.a5),(.int .i64 x.a6),(.int .i64 x.a7),(.int .i64 x.a8),(.int .i64 x.a9)]⟩),(lstV x.a10 x.a11 x.a12 6)]) (fun x=>rt3 x.a0 x.a1 x.a2 x.a3 x.a4 x.a5 x.a6 x.a7 x.a8 x.a9 x.a10 x.a11 x.a12) en3 (fun x=>T3  x.a0 x.a1 x.a2 x.a3 x.a4 x.a5 x.a6 x.a7 x.a8 x.a9 x.a10 x.a11 x.a12) (fun x=>rfl) dec3 alt3 hd3 ha3
end
end Go.Proofs.Ytoghoeebiddblaa
namespace Go.Proofs.Ytoghoeebiddblaa
open Go.ChangeShapes Go.WideShapes Go.ChangeAt Go.RowKit Go.Gi
def True3:Prop:=∀(pc:Int) (xl:Int)(xh:Int)(yl:Int)(yh:Int)(al:Int)(ah:Int)(hg:Int)(fl:Int)(fh:Int)(bc:Array Value)(bn:Nat),(Lit.int .i64 pc).wf=true→GL I6 6 bc bn→(rt3 pc xl xh yl yh al ah hg fl fh bc 0 bn).val=some ⟨true⟩
theorem law3 (hm:True3) {pc:Int}{xl:Int}{xh:Int}{yl:Int}{yh:Int}{al:Int}{ah:Int}{hg:Int}{fl:Int}{fh:Int}{bc:Array Value}{bn:Nat}(hy0:(Lit.int .i64 pc).wf=true) (hy1:GL I6 6 bc bn) :
    Fact Try.prog (.call 3 ⟨[(.agg ⟨[.int .i64 pc,.int .i64 xl,.int .i64 xh,.int .i64 yl,.int .i64 yh,.int .i64 al,.int .i64 ah,.int .i64 hg,.int .i64 fl,.int .i64 fh]⟩),(lstV bc 0 bn 6)]⟩ ⟨[],0,[]⟩) (.ret (.bool true) ⟨[],0,[]⟩):=by
  have hv:=hm pc xl xh yl yh al ah hg fl fh bc bn hy0 hy1
  refine known3 _ (alt3 ⟨pc,xl,xh,yl,yh,al,ah,hg,fl,fh,bc,0,bn⟩ ⟨[],0,[]⟩) _ rfl ?_
  have e1:F3 pc xl xh yl yh al ah hg fl fh bc 0 bn=some ⟨true⟩:=hv
  have k0:F3_ok pc xl xh yl yh al ah hg fl fh bc 0 bn=true:=by unfold F3_ok;rw [e1];rfl
  have k1:F3_0 pc xl xh yl yh al ah hg fl fh bc 0 bn=true:=by
    show (match F3 pc xl xh yl yh al ah hg fl fh bc 0 bn with | some r=>r.r0 | none=>false)=true
    rw [e1]
  simp only [alt3,k0,k1,AT.out,cond_true]
set_option maxRecDepth 100000 in
theorem lifted3 (hm:True3)(os:Os)(started:os.Started)(H:Type)(enc:TypeId×Value→H) :
    ReturnsInHanded {} Try.checked os 3 .any (Rows.recoverLandsSpec.pre6 enc Try.prog Try.f3 Rows.recoverLandsRow.domain false) (Rows.recoverLandsSpec.post enc Try.prog Try.f3 false true false false):=by
  refine returnsInHanded_of_change (C:=Try.checked) own started (by kernel_rfl) Try.func3
    (ChangeSpec.witness6 (enc:=enc) (C:=Try.checked) false ⟨#[],#[.agg #[.int .i64 0,.int .i64 0,.int .i64 0,.int .i64 0,.int .i64 0,.int .i64 0,.int .i64 0,.int .i64 0,.int .i64 0,.int .i64 0],.slice none 0 0],[]⟩ 20 (by kernel_rfl) (by kernel_rfl) (by kernel_rfl) (by kernel_rfl)) ?_
  intro W base args ds gs before hval0 hW hcnd _
  have hval:∀(j:Nat) t v,Try.f3.params[j]?=some t→args[j]?=some v→Value.okWide Try.prog W .any base t v:=hval0
  have hW':=hW
  obtain ⟨p,q,hA0,hV,rfl,hfz,hnd⟩:=hW
  have hA:DataW.TrodAll enc Try.prog W 0 (fun _=>true) true Try.f3.params.toList args.toList ds p:=hA0
  rw [Try.params3]at hA hval
  obtain ⟨v0,vs0,d0,ds0,p0,q0,hargs,rfl,rfl,h0,r0⟩:=trodAll_cons hA
  obtain ⟨v1,vs1,d1,ds1,p1,q1,rfl,rfl,rfl,h1,r1⟩:=trodAll_cons r0
  obtain ⟨rfl,rfl,rfl⟩:=trodAll_nil r1
  obtain rfl:args=#[v0,v1]:=by cases args;simp_all
  obtain ⟨rfl,rfl⟩:=trodVars_none hV
  have k0:=h0
  have k1:=h1
  have lt0:∀x∈p0,x.block<W.heap.size:=by obtain ⟨m,hm⟩:=k0;exact DataW.trod_lt m _ _ _ hm
  have lt1:∀x∈p1,x.block<W.heap.size:=by obtain ⟨m,hm⟩:=k1;exact DataW.trod_lt m _ _ _ hm
  obtain ⟨pc,xl,xh,yl,yh,al,ah,hg,fl,fh,u0,hy0⟩:=fallArg (hval 0 31 v0 rfl rfl) h0
  obtain ⟨bc,bn,u1,hy1⟩:=bandsArg (hval 1 32 v1 rfl rfl) h1
  clear hA0 hval0
  refine (calls_frozen (law3 hm (pc:=pc) (xl:=xl) (xh:=xh) (yl:=yl) (yh:=yh) (al:=al) (ah:=ah) (hg:=hg) (fl:=fl) (fh:=fh) (bc:=bc) (bn:=bn) hy0 hy1) rfl (((VRs.nil _).push u0).push u1)).mono fun e W' ⟨he,bel⟩=>?_
  subst he
  exact ⟨_,rfl,_,_,_,[],_,[],hW',trodAll_mk1 (shut_bool Try.underlying4 _),(trodAll_cons_mk (Below.trod laidOut (by kernel_rfl) (of_decide_eq_true (by kernel_rfl)) k0 bel lt0) (trodAll_cons_mk (Below.trod laidOut (by kernel_rfl) (of_decide_eq_true (by kernel_rfl)) k1 bel lt1) trodAll_mk0)),rfl,bel.frame _,fun h=>by cases h⟩
theorem over3 (hm:True3):Rows.recoverLandsRow.holds Try.pinned (OpenSpec.ofChange Rows.recoverLandsSpec) :=
  OpenClaim.holds_of_wide 3 Try.f3 rfl rfl rfl rfl rfl rfl rfl ⟨rfl,rfl,rfl,rfl,rfl⟩ rfl rfl rfl rfl rfl (by kernel_rfl) Try.func3 (by kernel_rfl)
    (of_decide_eq_true (by kernel_rfl)) (by unfold Func.isWrapper;first | (rw [if_pos (by decide +kernel)];kernel_rfl) | (rw [if_neg (by decide +kernel)];exact ⟨rfl,rfl⟩))
    (fun os started H enc _=>lifted3 hm os started H enc)
theorem said3 (hm:True3):Rows.RecoverLandsSaid:=over3 hm
end Go.Proofs.Ytoghoeebiddblaa
namespace Go.Proofs.Ytoghoeebiddblaa
open Go.Gi Go.RowKit
noncomputable section
set_option maxRecDepth 100000
set_option maxHeartbeats 1000000
theorem mul_bd {x d A D:Int}(h1:-A≤x) (h2:x≤A) (h3:0≤d) (h4:d≤D):-(A*D)≤x*d∧x*d≤A*D:=by
  have hA:0≤A:=by omega
  have a1:x*d≤A*d:=Int.mul_le_mul_of_nonneg_right h2 h3
  have a2:A*d≤A*D:=Int.mul_le_mul_of_nonneg_left h4 hA
  have a3:-A*d≤x*d:=Int.mul_le_mul_of_nonneg_right h1 h3
  rw [Int.neg_mul]at a3
  omega
def qd (a b:Int):Int:=if Int.tmod a b<0 then IntKind.wrap .i64 (IntKind.wrap .i64 (Int.tdiv a b)-1) else IntKind.wrap .i64 (Int.tdiv a b)
def ru (a b:Int):Int:=IntKind.wrap .i64 (0-qd (IntKind.wrap .i64 (0-a)) b)
theorem tmod_lo {a b:Int}(hb:0<b):-b<Int.tmod a b:=by
  by_cases h:0≤a
  · have:=Int.tmod_nonneg b h;omega
  · have h1:Int.tmod (-a) b<b:=Int.tmod_lt_of_pos _ hb
    rw [Int.neg_tmod]at h1
    omega
theorem tdiv_bd {a b:Int}(hb:0<b) (h1:-1000000000000000000≤a) (h2:a≤1000000000000000000):-1000000000000000000≤Int.tdiv a b∧Int.tdiv a b≤1000000000000000000:=by
  have e:=Int.tmod_add_mul_tdiv a b
  have m1:=tmod_lo (a:=a) hb
  have m2:=Int.tmod_lt_of_pos a hb
  by_cases h:0≤a
  · have g0:=Int.tdiv_nonneg h (Int.le_of_lt hb)
    have g1:1*Int.tdiv a b≤b*Int.tdiv a b:=Int.mul_le_mul_of_nonneg_right (by omega) g0
    have g2:=Int.tmod_nonneg b h
    omega
  · have g0:=Int.tdiv_nonneg (a:=-a) (b:=b) (by omega) (Int.le_of_lt hb)
    rw [Int.neg_tdiv]at g0
    have g1:1*(-(Int.tdiv a b))≤b*(-(Int.tdiv a b)):=Int.mul_le_mul_of_nonneg_right (by omega) g0
    simp only [Int.mul_neg,Int.one_mul]at g1
    have g2:=Int.tmod_nonneg (a:=-a) b (by omega)
    rw [Int.neg_tmod]at g2
    omega
theorem qd_bd {a b:Int}(hb:1≤b) (h1:-1000000000000000000≤a) (h2:a≤1000000000000000000):b*qd a b≤a∧a<b*qd a b+b∧-1000000000000000001≤qd a b∧qd a b≤1000000000000000000:=by
  have e:=Int.tmod_add_mul_tdiv a b
  have m1:=tmod_lo (a:=a) (b:=b) (by omega)
  have m2:=Int.tmod_lt_of_pos a (b:=b) (by omega)
  obtain ⟨k1,k2⟩:=tdiv_bd (a:=a) (b:=b) (by omega) h1 h2
  unfold qd
  rw [wrap64_id (x:=Int.tdiv a b) (by omega) (by omega)]
  split
  · rw [wrap64_id (by omega) (by omega),Int.mul_sub,Int.mul_one]
    omega
  · omega
theorem ru_bd {a b:Int}(hb:1≤b) (h1:-1000000000000000000≤a) (h2:a≤1000000000000000000):a≤b*ru a b∧b*ru a b<a+b∧-1000000000000000000≤ru a b∧ru a b≤1000000000000000001:=by
  unfold ru
  rw [wrap64_id (x:=0-a) (by omega) (by omega)]
  obtain ⟨k1,k2,k3,k4⟩:=qd_bd (a:=0-a) hb (by omega) (by omega)
  rw [wrap64_id (by omega) (by omega),Int.mul_sub,Int.mul_zero]
  omega
theorem F77_of (a b:Int)(h:b≠0):F77_ok a b=true∧F77_0 a b=qd a b:=by
  have q:F77 a b=some ⟨qd a b⟩:=by
    unfold F77 rt77 qd
    by_cases h2:Int.tmod a b<0
    · rw [if_pos h2];simp only [RT.val,h,h2,decide_true,decide_false,Bool.not_false,cond_true]
    · rw [if_neg h2];simp only [RT.val,h,h2,decide_false,Bool.not_false,cond_true,cond_false]
  exact ⟨by simp only [F77_ok,q];rfl,by simp only [F77_0,q]⟩
theorem F78_of (a b:Int)(h:b≠0):F78_ok a b=true∧F78_0 a b=ru a b:=by
  have q:F78 a b=some ⟨ru a b⟩:=by
    unfold F78 rt78 ru
    simp only [RT.val,(F77_of _ _ h).1,(F77_of _ _ h).2,cond_true]
  exact ⟨by simp only [F78_ok,q];rfl,by simp only [F78_0,q]⟩
theorem F47_of (a b c d:Int)(hc:c≠0)(hd:d≠0):F47_ok a b c d=true∧F47_0 a b c d=min (qd a c) (qd a d)∧F47_1 a b c d=max (ru b c) (ru b d):=by
  have q:F47 a b c d=some ⟨min (qd a c) (qd a d),max (ru b c) (ru b d)⟩:=by
    unfold F47 rt47
    simp only [RT.val,(F77_of _ _ hc).1,(F77_of _ _ hc).2,(F77_of _ _ hd).1,(F77_of _ _ hd).2,(F78_of _ _ hc).1,(F78_of _ _ hc).2,(F78_of _ _ hd).1,(F78_of _ _ hd).2,decide_true,cond_true]
  exact ⟨by simp only [F47_ok,q];rfl,by simp only [F47_0,q],by simp only [F47_1,q]⟩
theorem F46_of (a b c d:Int):F46_0 a b c d=IntKind.wrap .i64 (a+c)∧F46_1 a b c d=IntKind.wrap .i64 (b+d):=⟨rfl,rfl⟩
theorem F76_of (a b n:Int):F76_0 a b n=IntKind.wrap .i64 (a*n)∧F76_1 a b n=IntKind.wrap .i64 (b*n):=⟨rfl,rfl⟩
def chB (hg fl fh:Int):Bool:=inB hg 1 100000000&&lsB fl fh 1 10000
theorem F13_of (a b c:Int):F13_ok a b c=true∧F13_0 a b c=if chB a b c=true then 0 else 7:=by
  have q:F13 a b c=some ⟨if chB a b c=true then 0 else 7⟩:=by
    unfold F13 rt13 chB
    simp only [RT.val,(F40_of _ _ _).1,(F40_of _ _ _).2,(F41_of _ _ _ _).1,(F41_of _ _ _ _).2,cond_true]
    cases inB a 1 100000000<;>cases lsB b c 1 10000<;>rfl
  exact ⟨by simp only [F13_ok,q];rfl,by simp only [F13_0,q]⟩
def imB (xl xh yl yh al ah:Int):Bool:=lsB xl xh (-2000000000) 2000000000&&(lsB yl yh (-2000000000) 2000000000&&lsB al ah 0 100000)
theorem F44_of (pc xl xh yl yh al ah:Int):F44_ok pc xl xh yl yh al ah=true∧F44_0 pc xl xh yl yh al ah=imB xl xh yl yh al ah:=by
  have q:F44 pc xl xh yl yh al ah=some ⟨imB xl xh yl yh al ah⟩:=by
    unfold F44 rt44 imB
    simp only [RT.val,(F41_of _ _ _ _).1,(F41_of _ _ _ _).2,cond_true]
    cases lsB xl xh (-2000000000) 2000000000<;>cases lsB yl yh (-2000000000) 2000000000<;>rfl
  exact ⟨by simp only [F44_ok,q];rfl,by simp only [F44_0,q]⟩
theorem fst1_none {E:Nat→Int}:∀{m k:Nat},fst1 E m k=none→∀j,k≤j→j<k+m→E j=0
  | 0,k,h,j,h1,h2=>by omega
  | m+1,k,h,j,h1,h2=>by
    unfold fst1 at h
    by_cases he:E k=0
    · rw [if_pos he]at h
      rcases Nat.eq_or_lt_of_le h1 with rfl | h3
      · exact he
      · exact fst1_none h j h3 (by omega)
    · rw [if_neg he]at h;cases h
section
variable {c:Array Value}{n:Nat}
theorem bn_of (h:(bnF c n).2=0):1≤n∧n≤20∧∀k,k<n→bdE c k=0:=by
  unfold bnF at h
  by_cases h1:n<1
  · rw [if_pos h1]at h;cases h
  rw [if_neg h1]at h
  by_cases h2:20<n
  · rw [if_pos h2]at h;cases h
  rw [if_neg h2]at h
  refine ⟨by omega,by omega,?_⟩
  cases hf:fst1 (bdE c) n 0 with
  | some ir =>
    obtain ⟨i,r⟩:=ir
    rw [hf]at h
    exact absurd h (fst1_ne hf)
  | none=>exact fun k hk=>fst1_none hf k (by omega) (by omega)
theorem bd_of {f t xl xh yl yh p:Int}(h:bd f t xl xh yl yh p=0):f=p∧f<t∧t≤100000000∧spW xl xh=true∧spW yl yh=true:=by
  unfold bd at h
  by_cases h1:f=p
  · rw [if_pos h1]at h
    by_cases h2:t≤f
    · rw [if_pos h2]at h;cases h
    rw [if_neg h2]at h
    by_cases h3:100000000<t
    · rw [if_pos h3]at h;cases h
    rw [if_neg h3]at h
    by_cases h4:spW xl xh=true
    · rw [if_pos h4]at h
      by_cases h5:spW yl yh=true
      · exact ⟨h1,by omega,by omega,h4,h5⟩
      · rw [if_neg h5]at h;cases h
    · rw [if_neg h4]at h;cases h
  · rw [if_neg h1]at h;cases h
theorem sp_of {a b:Int}(h:spW a b=true):a≤b∧-20000≤a∧a≤20000∧-20000≤b∧b≤20000:=by
  simp only [spW,inB,Bool.and_eq_true,decide_eq_true_eq]at h
  omega
theorem prv_of (h:∀k,k<n→bdE c k=0):∀k,k≤n→0≤prv c k∧prv c k≤100000000
  | 0,_=>by show (0:Int)≤0∧(0:Int)≤100000000;omega
  | k+1,hk=>by
    obtain ⟨e1,e2,e3,_,_⟩:=bd_of (h k (by omega))
    have:=prv_of h k (by omega)
    show 0≤getInt c (k*6+1)∧getInt c (k*6+1)≤100000000
    omega
structure Row (c:Array Value) (k:Nat):Prop where
  f0:0≤getInt c (k*6)
  ft:getInt c (k*6)<getInt c (k*6+1)
  th:getInt c (k*6+1)≤100000000
  x:spW (getInt c (k*6+2)) (getInt c (k*6+3))=true
  y:spW (getInt c (k*6+4)) (getInt c (k*6+5))=true
theorem row_of (h:∀k,k<n→bdE c k=0) {k:Nat}(hk:k<n):Row c k:=by
  obtain ⟨e1,e2,e3,e4,e5⟩:=bd_of (h k hk)
  have:=prv_of h k (by omega)
  exact ⟨by omega,e2,e3,e4,e5⟩
def dd (c:Array Value)(h:Int)(k:Nat):Int:=max (min (getInt c (k*6+1)) h-getInt c (k*6)) 0
def sm (c:Array Value)(h:Int)(j:Nat):Nat→Int
  | 0=>0
  | k+1=>sm c h j k+getInt c (k*6+j)*dd c h k
theorem dd_bd {h:Int}(hh:1≤h∧h≤100000000) {k:Nat}(r:Row c k):0≤dd c h k∧dd c h k≤100000000∧IntKind.wrap .i64 (min (getInt c (k*6+1)) h-getInt c (k*6))=min (getInt c (k*6+1)) h-getInt c (k*6):=by
  obtain ⟨f0,ft,th,_,_⟩:=r
  unfold dd
  refine ⟨by omega,by omega,wrap64_id (by omega) (by omega)⟩
theorem tm_bd {h:Int}(hh:1≤h∧h≤100000000) {k j:Nat}(r:Row c k) (hj:j=2∨j=3∨j=4∨j=5):-2000000000000≤getInt c (k*6+j)*dd c h k∧getInt c (k*6+j)*dd c h k≤2000000000000:=by
  have hx:=sp_of r.x
  have hy:=sp_of r.y
  obtain ⟨d0,d1,_⟩:=dd_bd hh r
  have hb:-20000≤getInt c (k*6+j)∧getInt c (k*6+j)≤20000:=by rcases hj with rfl | rfl | rfl | rfl<;>omega
  have:=mul_bd (A:=20000) (D:=100000000) hb.1 hb.2 d0 d1
  omega
theorem sm_bd {h:Int}(hh:1≤h∧h≤100000000) {j:Nat}(hj:j=2∨j=3∨j=4∨j=5):∀k,k≤n→n≤20→(∀k,k<n→Row c k)→-(2000000000000*(k:Int))≤sm c h j k∧sm c h j k≤2000000000000*(k:Int)
  | 0,_,_,_=>by unfold sm;omega
  | k+1,hk,hn,r=>by
    have:=sm_bd hh hj k (by omega) hn r
    have:=tm_bd hh (r k (by omega)) hj
    unfold sm
    omega
theorem loop_cnt {X D:Type}{rd:X→RT (Sum X D)}{S:Nat→X}{n:Nat}{fin:D}(hs:∀k,k<n→(rd (S k)).val=some (.inl (S (k+1)))) (hf:(rd (S n)).val=some (.inr fin)) :
    ∀m k,k+m=n→loopR rd (S k)=some fin
  | 0,k,e=>by
    obtain rfl:k=n:=by omega
    exact loopR_done hf
  | m+1,k,e=>(loopR_next (hs k (by omega))).trans (loop_cnt hs hf m (k+1) (by omega))
theorem step45 (g:GL I6 6 c n) {h:Int}(hh:1≤h∧h≤100000000) (hn:n≤20) (r:∀k,k<n→Row c k) (k:Nat) (hk:k<n) :
    (rd45_0 ⟨h,c,0,n,(n:Int),(k:Int),sm c h 2 k,sm c h 3 k,sm c h 4 k,sm c h 5 k⟩).val=some (.inl ⟨h,c,0,n,(n:Int),((k+1:Nat):Int),sm c h 2 (k+1),sm c h 3 (k+1),sm c h 4 (k+1),sm c h 5 (k+1)⟩):=by
  have hki:(k:Int)<(n:Int):=by omega
  have h0:(0:Int)≤(k:Int):=by omega
  have h3:IntKind.wrap .i64 ((k:Int)+1)=((k+1:Nat):Int):=by rw [wrap64_id (by omega) (by omega)];omega
  have hr:rdOk c I6 (0+k*6)=true:=g.good.2 k hk
  unfold I6 at hr
  obtain ⟨d0,d1,w⟩:=dd_bd hh (r k hk)
  have one:∀j,(j=2∨j=3∨j=4∨j=5)→IntKind.wrap .i64 (sm c h j k+IntKind.wrap .i64 (getInt c (k*6+j)*dd c h k))=sm c h j (k+1):=by
    intro j hj
    have a:=sm_bd hh hj k (by omega) hn r
    have b:=tm_bd hh (r k hk) hj
    show _=sm c h j k+getInt c (k*6+j)*dd c h k
    rw [wrap64_id (x:=getInt c (k*6+j)*dd c h k) (by omega) (by omega),wrap64_id (by omega) (by omega)]
  have e2:=one 2 (by omega)
  have e3:=one 3 (by omega)
  have e4:=one 4 (by omega)
  have e5:=one 5 (by omega)
  unfold dd at e2 e3 e4 e5
  simp only [rd45_0,RT.val,hki,h0,h3,hr,(F46_of _ _ _ _).1,(F46_of _ _ _ _).2,(F76_of _ _ _).1,(F76_of _ _ _).2,Int.toNat_natCast,Int.ofNat_eq_natCast,decide_true,Bool.and_self,cond_true]
  simp only [Nat.zero_add,Nat.add_assoc,Nat.reduceAdd,w,e2,e3,e4,e5]
theorem F45_of (g:GL I6 6 c n) {h:Int}(hh:1≤h∧h≤100000000) (hn:n≤20) (r:∀k,k<n→Row c k) :
    F45_ok c 0 n h=true∧F45_0 c 0 n h=sm c h 2 n∧F45_1 c 0 n h=sm c h 3 n∧F45_2 c 0 n h=sm c h 4 n∧F45_3 c 0 n h=sm c h 5 n:=by
  have z1:¬(n:Int)<(n:Int):=by omega
  have l:L45_0 (X45_0.mk h c 0 n (n:Int) 0 0 0 0 0)=some (.k0 (sm c h 2 n) (sm c h 3 n) (sm c h 4 n) (sm c h 5 n)) :=
    loop_cnt (rd:=rd45_0) (S:=fun k=>X45_0.mk h c 0 n (n:Int) (k:Int) (sm c h 2 k) (sm c h 3 k) (sm c h 4 k) (sm c h 5 k)) (n:=n) (fin:=.k0 (sm c h 2 n) (sm c h 3 n) (sm c h 4 n) (sm c h 5 n))
      (fun k hk=>step45 g hh hn r k hk) (by simp only [rd45_0,RT.val,z1,decide_false,cond_false]) n 0 (by omega)
  have q:F45 c 0 n h=some ⟨sm c h 2 n,sm c h 3 n,sm c h 4 n,sm c h 5 n⟩:=by
    unfold F45 rt45
    simp only [RT.val,Int.ofNat_eq_natCast,eqCode_self,L45_0_k0,Qc0,Qc1,Qc2,Qc3,l,decide_true,cond_true]
  exact ⟨by simp only [F45_ok,q];rfl,by simp only [F45_0,q],by simp only [F45_1,q],by simp only [F45_2,q],by simp only [F45_3,q]⟩
end
def lo2 (a b c:Int):Int:=min (qd a b) (qd a c)
def hi2 (a b c:Int):Int:=max (ru a b) (ru a c)
theorem qd_in {a b M:Int}(hb:1≤b) (h1:-M≤a) (h2:a≤M) (hM:M≤1000000000000000000):b*qd a b≤a∧-M≤qd a b∧qd a b≤M:=by
  obtain ⟨k1,k2,_,_⟩:=qd_bd (a:=a) hb (by omega) (by omega)
  refine ⟨k1,?_⟩
  by_cases h:0≤qd a b
  · have:1*qd a b≤b*qd a b:=Int.mul_le_mul_of_nonneg_right hb h
    omega
  · have:1*(-(qd a b)-1)≤b*(-(qd a b)-1):=Int.mul_le_mul_of_nonneg_right hb (by omega)
    rw [Int.mul_sub b,Int.mul_neg,Int.mul_one]at this
    omega
def ldE (xl xh yl yh al ah hg fl fh:Int)(c:Array Value)(n:Nat):Int :=
  if chB hg fl fh=true then (if (bnF c n).2=0 then (if imB xl xh yl yh al ah=true then (if getInt c ((n-1)*6+1)<hg then 4 else 0) else 7) else (bnF c n).2) else 7
structure Ld (xl xh yl yh al ah hg fl fh:Int) (c:Array Value) (n:Nat):Prop where
  n1:1≤n
  n20:n≤20
  row:∀k,k<n→Row c k
  hh:1≤hg∧hg≤100000000
  f1:1≤fl
  f2:fl≤fh
  f3:fh≤10000
  x:xl≤xh∧-2000000000≤xl∧xh≤2000000000
  y:yl≤yh∧-2000000000≤yl∧yh≤2000000000
  t:al≤ah∧0≤al∧ah≤100000
theorem ls_of {a b lo hi:Int}(h:lsB a b lo hi=true):a≤b∧lo≤a∧b≤hi:=by
  simpa only [lsB,Bool.and_eq_true,decide_eq_true_eq] using h
theorem ch_of {hg fl fh:Int}(h:chB hg fl fh=true):(1≤hg∧hg≤100000000)∧1≤fl∧fl≤fh∧fh≤10000:=by
  simp only [chB,inB,lsB,Bool.and_eq_true,decide_eq_true_eq]at h
  omega
theorem ld_of {xl xh yl yh al ah hg fl fh:Int}{c:Array Value}{n:Nat}(h:ldE xl xh yl yh al ah hg fl fh c n=0):Ld xl xh yl yh al ah hg fl fh c n:=by
  unfold ldE at h
  by_cases h1:chB hg fl fh=true
  · rw [if_pos h1]at h
    by_cases h2:(bnF c n).2=0
    · rw [if_pos h2]at h
      by_cases h3:imB xl xh yl yh al ah=true
      · obtain ⟨n1,n2,z⟩:=bn_of h2
        obtain ⟨hh,f1,f2,f3⟩:=ch_of h1
        simp only [imB,Bool.and_eq_true]at h3
        exact ⟨n1,n2,fun k hk=>row_of z hk,hh,f1,f2,f3,ls_of h3.1,ls_of h3.2.1,ls_of h3.2.2⟩
      · rw [if_neg h3]at h;cases h
    · rw [if_neg h2]at h;exact absurd h h2
  · rw [if_neg h1]at h;cases h
theorem F43_of {c:Array Value}{n:Nat}(g:GL I6 6 c n):F43_ok c 0 n=true∧F43_0 c 0 n=(bnF c n).1∧F43_1 c 0 n=(bnF c n).2:=by
  have q:=F43_eq g
  exact ⟨by simp only [F43_ok,q];rfl,by simp only [F43_0,q],by simp only [F43_1,q]⟩
theorem F48_of {c:Array Value}{n:Nat}(g:GL I6 6 c n):F48_ok c 0 n=true∧F48_0 c 0 n=(bnF c n).1∧F48_1 c 0 n=(bnF c n).2:=by
  have q:=F48_eq g
  exact ⟨by simp only [F48_ok,q];rfl,by simp only [F48_0,q],by simp only [F48_1,q]⟩
def wr (a:Int):Int:=IntKind.wrap .i64 a
theorem F15_eq {pc xl xh yl yh al ah hg fl fh:Int}{c:Array Value}{n:Nat}(g:GL I6 6 c n):F15 pc xl xh yl yh al ah hg fl fh c 0 n =
    some (if ldE xl xh yl yh al ah hg fl fh c n=0 then
      ⟨pc,wr (xl+lo2 (sm c hg 2 n) fl fh),wr (xh+hi2 (sm c hg 3 n) fl fh),wr (yl+lo2 (sm c hg 4 n) fl fh),wr (yh+hi2 (sm c hg 5 n) fl fh),wr (al+lo2 hg fl fh),wr (ah+hi2 hg fl fh),0⟩
      else ⟨0,0,0,0,0,0,0,ldE xl xh yl yh al ah hg fl fh c n⟩):=by
  by_cases h0:ldE xl xh yl yh al ah hg fl fh c n=0
  · rw [if_pos h0]
    obtain ⟨n1,n20,row,hh,f1,f2,f3,x,y,t⟩:=ld_of h0
    obtain ⟨s0,s1,s2,s3,s4⟩:=F45_of g hh n20 row
    have b1:chB hg fl fh=true:=by
      unfold ldE at h0;by_cases h:chB hg fl fh=true
      · exact h
      · rw [if_neg h]at h0;cases h0
    unfold ldE at h0
    rw [if_pos b1]at h0
    have b2:(bnF c n).2=0:=by
      by_cases h:(bnF c n).2=0
      · exact h
      · rw [if_neg h]at h0;exact absurd h0 h
    rw [if_pos b2]at h0
    have b3:imB xl xh yl yh al ah=true:=by
      by_cases h:imB xl xh yl yh al ah=true
      · exact h
      · rw [if_neg h]at h0;cases h0
    rw [if_pos b3]at h0
    have b4:¬getInt c ((n-1)*6+1)<hg:=by
      intro h;rw [if_pos h]at h0;cases h0
    have hl:fl≠0:=by omega
    have hh2:fh≠0:=by omega
    have w:IntKind.wrap .i64 ((n:Int)-1)=((n-1:Nat):Int):=by rw [wrap64_id (by omega) (by omega)];omega
    have w1:(0:Int)≤((n-1:Nat):Int):=by omega
    have w2:((n-1:Nat):Int)<(n:Int):=by omega
    obtain ⟨_,i1,_,_⟩:=rows6 g (show n-1<n by omega)
    unfold F15 rt15
    simp only [RT.val,(F13_of _ _ _).1,(F13_of _ _ _).2,b1,if_true,(F43_of g).1,(F43_of g).2.2,b2,(F44_of _ _ _ _ _ _ _).1,(F44_of _ _ _ _ _ _ _).2,b3,Int.ofNat_eq_natCast,w,w1,w2,Int.toNat_natCast,Nat.zero_add,i1,b4,
      s0,s1,s2,s3,s4,(F47_of _ _ _ _ hl hh2).1,(F47_of _ _ _ _ hl hh2).2.1,(F47_of _ _ _ _ hl hh2).2.2,(F46_of _ _ _ _).1,(F46_of _ _ _ _).2,decide_true,decide_false,Bool.and_self,Bool.not_true,cond_true,cond_false]
    rfl
  · rw [if_neg h0]
    unfold ldE at h0 ⊢
    unfold F15 rt15
    by_cases b1:chB hg fl fh=true
    · rw [if_pos b1]at h0 ⊢
      by_cases b2:(bnF c n).2=0
      · rw [if_pos b2]at h0 ⊢
        by_cases b3:imB xl xh yl yh al ah=true
        · rw [if_pos b3]at h0 ⊢
          have b4:getInt c ((n-1)*6+1)<hg:=by
            by_cases h:getInt c ((n-1)*6+1)<hg
            · exact h
            · rw [if_neg h]at h0;exact absurd rfl h0
          rw [if_pos b4]
          obtain ⟨n1,n20,_⟩:=bn_of b2
          have w:IntKind.wrap .i64 ((n:Int)-1)=((n-1:Nat):Int):=by rw [wrap64_id (by omega) (by omega)];omega
          have w1:(0:Int)≤((n-1:Nat):Int):=by omega
          have w2:((n-1:Nat):Int)<(n:Int):=by omega
          obtain ⟨_,i1,_,_⟩:=rows6 g (show n-1<n by omega)
          simp only [RT.val,(F13_of _ _ _).1,(F13_of _ _ _).2,b1,if_true,(F43_of g).1,(F43_of g).2.2,b2,(F44_of _ _ _ _ _ _ _).1,(F44_of _ _ _ _ _ _ _).2,b3,Int.ofNat_eq_natCast,w,w1,w2,Int.toNat_natCast,Nat.zero_add,i1,b4,
            decide_true,Bool.and_self,Bool.not_true,cond_true,cond_false]
        · have b3':imB xl xh yl yh al ah=false:=by simpa using b3
          rw [if_neg b3]
          simp only [RT.val,(F13_of _ _ _).1,(F13_of _ _ _).2,b1,if_true,(F43_of g).1,(F43_of g).2.2,b2,(F44_of _ _ _ _ _ _ _).1,(F44_of _ _ _ _ _ _ _).2,b3',decide_true,Bool.not_true,Bool.not_false,cond_true,cond_false]
      · rw [if_neg b2]
        simp only [RT.val,(F13_of _ _ _).1,(F13_of _ _ _).2,b1,if_true,(F43_of g).1,(F43_of g).2.2,b2,decide_true,decide_false,Bool.not_true,Bool.not_false,cond_true,cond_false]
    · rw [if_neg b1]
      have b1':chB hg fl fh=false:=by simpa using b1
      simp only [RT.val,(F13_of _ _ _).1,(F13_of _ _ _).2,b1',Bool.false_eq_true,if_false,cond_true]
      rfl
end
end Go.Proofs.Ytoghoeebiddblaa
namespace Go.Proofs.Ytoghoeebiddblaa
open Go.Gi Go.RowKit
noncomputable section
set_option maxRecDepth 100000
set_option maxHeartbeats 4000000
theorem F14_of (a b c:Int):F14_ok a b c=true∧F14_0 a b c=if chB a b c=true then 0 else 7:=by
  have q:F14 a b c=some ⟨if chB a b c=true then 0 else 7⟩:=by
    unfold F14 rt14
    have e:chB a b c=(inB a 1 100000000&&(inB b 1 10000&&inB c b 10000)):=by
      unfold chB lsB inB
      rw [Bool.eq_iff_iff]
      simp only [Bool.and_eq_true,decide_eq_true_eq]
      omega
    rw [e]
    simp only [RT.val,(F42_of _ _ _).1,(F42_of _ _ _).2,cond_true]
    cases inB a 1 100000000<;>cases inB b 1 10000<;>cases inB c b 10000<;>rfl
  exact ⟨by simp only [F14_ok,q];rfl,by simp only [F14_0,q]⟩
theorem F49_of (a b:Int):F49_ok a b 2000000000=true∧F49_0 a b 2000000000=lsB a b (-2000000000) 2000000000:=by
  have q:F49 a b 2000000000=some ⟨lsB a b (-2000000000) 2000000000⟩:=by
    unfold F49 rt49
    rw [lsB_eq a b 2000000000]
    have w:IntKind.wrap .i64 ((0:Int)-2000000000)=-2000000000:=wrap64_id (by omega) (by omega)
    simp only [RT.val,(F42_of _ _ _).1,(F42_of _ _ _).2,w,cond_true]
    cases inB a (-2000000000) 2000000000<;>cases inB b (-2000000000) 2000000000<;>by_cases h:a≤b<;>simp [h]
  exact ⟨by simp only [F49_ok,q];rfl,by simp only [F49_0,q]⟩
theorem F50_of (a:Int):F50_ok a=true∧F50_0 a=tkB a:=by
  have q:F50 a=some ⟨tkB a⟩:=by
    unfold F50 rt50 tkB
    simp only [RT.val,(F42_of _ _ _).1,(F42_of _ _ _).2,cond_true]
  exact ⟨by simp only [F50_ok,q];rfl,by simp only [F50_0,q]⟩
theorem F53_of {a b:Int}(hb:1≤b) (h1:-1000000000000000000≤a) (h2:a≤1000000000000000000):F53_ok a b=true∧F53_0 a b=qd a b:=by
  have e:=Int.tmod_add_mul_tdiv a b
  have m1:=tmod_lo (a:=a) (b:=b) (by omega)
  have m2:=Int.tmod_lt_of_pos a (b:=b) (by omega)
  obtain ⟨k1,k2⟩:=tdiv_bd (a:=a) (b:=b) (by omega) h1 h2
  have q:F53 a b=some ⟨qd a b⟩:=by
    unfold F53 rt53 qd
    have hn:¬b=0:=by omega
    have w:IntKind.wrap .i64 (Int.tdiv a b)=Int.tdiv a b:=wrap64_id (by omega) (by omega)
    rw [w]
    simp only [RT.val,w,hn,decide_false,Bool.not_false,cond_true]
    by_cases hbig:b≤2000000000000000000
    · have w2:IntKind.wrap .i64 (Int.tdiv a b*b)=Int.tdiv a b*b:=by
        rw [Int.mul_comm]at e
        exact wrap64_id (by omega) (by omega)
      rw [Int.mul_comm]at e
      rw [w2]
      by_cases h:Int.tmod a b<0
      · have h':a<Int.tdiv a b*b:=by omega
        simp only [h,h',decide_true,cond_true,if_true]
      · have h':¬a<Int.tdiv a b*b:=by omega
        simp only [h,h',decide_false,cond_false,if_false]
    · have z:Int.tdiv a b=0:=by
        by_cases hz:0≤a
        · exact Int.tdiv_eq_zero_of_lt hz (by omega)
        · have:=Int.tdiv_eq_zero_of_lt (a:=-a) (b:=b) (by omega) (by omega)
          rw [Int.neg_tdiv]at this
          omega
      rw [z,Int.mul_zero]at e
      rw [z,Int.zero_mul]
      have w3:IntKind.wrap .i64 (0:Int)=0:=wrap64_id (by omega) (by omega)
      rw [w3]
      by_cases h:Int.tmod a b<0
      · have h':a<0:=by omega
        simp only [h,h',decide_true,cond_true,if_true]
      · have h':¬a<0:=by omega
        simp only [h,h',decide_false,cond_false,if_false]
  exact ⟨by simp only [F53_ok,q];rfl,by simp only [F53_0,q]⟩
theorem F52_of {a b c d:Int}(hc:1≤c) (hd:1≤d) (a1:-1000000000000000000≤a) (a2:a≤1000000000000000000) (b1:-1000000000000000000≤b) (b2:b≤1000000000000000000) :
    F52_ok a b c d=true∧F52_0 a b c d=lo2 a c d∧F52_1 a b c d=hi2 b c d:=by
  have w:IntKind.wrap .i64 (0-b)=0-b:=wrap64_id (by omega) (by omega)
  have q:F52 a b c d=some ⟨lo2 a c d,hi2 b c d⟩:=by
    unfold F52 rt52 lo2 hi2 ru
    simp only [RT.val,w,(F53_of hc a1 a2).1,(F53_of hc a1 a2).2,(F53_of hd a1 a2).1,(F53_of hd a1 a2).2,(F53_of hc (show -1000000000000000000≤0-b by omega) (by omega)).1,(F53_of hc (show -1000000000000000000≤0-b by omega) (by omega)).2,
      (F53_of hd (show -1000000000000000000≤0-b by omega) (by omega)).1,(F53_of hd (show -1000000000000000000≤0-b by omega) (by omega)).2,decide_true,cond_true]
  exact ⟨by simp only [F52_ok,q];rfl,by simp only [F52_0,q],by simp only [F52_1,q]⟩
theorem F51_of (a b c d:Int):F51_0 a b c d=IntKind.wrap .i64 (a+c)∧F51_1 a b c d=IntKind.wrap .i64 (b+d):=⟨rfl,rfl⟩
theorem lo_at {h fl fh:Int}(hh:1≤h∧h≤100000000) (f1:1≤fl) (f2:fl≤fh):lo2 h fl fh=IntKind.wrap .i64 (Int.tdiv h fh):=by
  have e:qd h fh=IntKind.wrap .i64 (Int.tdiv h fh):=by
    unfold qd
    rw [if_neg (by have:=Int.tmod_nonneg (a:=h) fh (by omega);omega)]
  obtain ⟨p1,p2,_,_⟩:=qd_bd (a:=h) f1 (by omega) (by omega)
  obtain ⟨q1,q2,_,_⟩:=qd_bd (a:=h) (b:=fh) (by omega) (by omega) (by omega)
  rw [← e]
  unfold lo2
  have:qd h fh≤qd h fl:=by
    apply Decidable.byContradiction
    intro hn
    have n0:0≤qd h fl:=by
      apply Decidable.byContradiction
      intro hz
      have:=Int.mul_le_mul_of_nonneg_left (show qd h fl≤-1 by omega) (show 0≤fl by omega)
      omega
    have s1:fl*(qd h fl+1)≤fl*qd h fh:=Int.mul_le_mul_of_nonneg_left (by omega) (by omega)
    have s2:fl*qd h fh≤fh*qd h fh:=Int.mul_le_mul_of_nonneg_right f2 (by omega)
    rw [Int.mul_add,Int.mul_one]at s1
    omega
  omega
theorem hi_at {h fl fh:Int}(hh:1≤h∧h≤100000000) (f1:1≤fl) (f2:fl≤fh):hi2 h fl fh=ru h fl:=by
  obtain ⟨p1,p2,_,_⟩:=ru_bd (a:=h) f1 (by omega) (by omega)
  obtain ⟨q1,q2,_,_⟩:=ru_bd (a:=h) (b:=fh) (by omega) (by omega) (by omega)
  unfold hi2
  have:ru h fh≤ru h fl:=by
    apply Decidable.byContradiction
    intro hn
    have n0:0≤ru h fl:=by
      apply Decidable.byContradiction
      intro hz
      have:=Int.mul_le_mul_of_nonneg_left (show ru h fl≤-1 by omega) (show 0≤fl by omega)
      omega
    have s1:fh*(ru h fl+1)≤fh*ru h fh:=Int.mul_le_mul_of_nonneg_left (by omega) (by omega)
    have s2:fl*ru h fl≤fh*ru h fl:=Int.mul_le_mul_of_nonneg_right f2 n0
    rw [Int.mul_add,Int.mul_one]at s1
    omega
  omega
section
variable {c:Array Value}{n:Nat}
theorem step16 (g:GL I6 6 c n) {h:Int}(hh:1≤h∧h≤100000000) (hn:n≤20) (r:∀k,k<n→Row c k)
    {a0 a1 a2 a3 a4 a5 a6 a8 a9 z0 z1 z2 z3 z4 z5 z6:Int} (k:Nat) (hk:k<n) :
    (rd16_0 ⟨c,0,n,(k:Int),a0,a1,a2,a3,a4,a5,a6,h,a8,a9,z0,z1,z2,z3,z4,z5,z6,sm c h 2 k,sm c h 3 k,sm c h 4 k,sm c h 5 k⟩).val =
    some (.inl ⟨c,0,n,((k+1:Nat):Int),a0,a1,a2,a3,a4,a5,a6,h,a8,a9,z0,z1,z2,z3,z4,z5,z6,sm c h 2 (k+1),sm c h 3 (k+1),sm c h 4 (k+1),sm c h 5 (k+1)⟩):=by
  have hki:(k:Int)<(n:Int):=by omega
  have h0:(0:Int)≤(k:Int):=by omega
  have h3:IntKind.wrap .i64 ((k:Int)+1)=((k+1:Nat):Int):=by rw [wrap64_id (by omega) (by omega)];omega
  obtain ⟨i0,i1,r2,r4⟩:=rows6 g hk
  have j2:isInt .i64 c (k*6+2)=true:=(rd_and r2).1
  have j3:isInt .i64 c (k*6+2+1)=true:=(rd_and (rd_and r2).2).1
  have j4:isInt .i64 c (k*6+4)=true:=(rd_and r4).1
  have j5:isInt .i64 c (k*6+4+1)=true:=(rd_and (rd_and r4).2).1
  obtain ⟨d0,d1,w⟩:=dd_bd hh (r k hk)
  have hd:max (0:Int) (min (getInt c (k*6+1)) h-getInt c (k*6))=dd c h k:=by unfold dd;omega
  have one:∀j,(j=2∨j=3∨j=4∨j=5)→IntKind.wrap .i64 (sm c h j k+IntKind.wrap .i64 (getInt c (k*6+j)*dd c h k))=sm c h j (k+1):=by
    intro j hj
    have a:=sm_bd hh hj k (by omega) hn r
    have b:=tm_bd hh (r k hk) hj
    show _=sm c h j k+getInt c (k*6+j)*dd c h k
    rw [wrap64_id (x:=getInt c (k*6+j)*dd c h k) (by omega) (by omega),wrap64_id (by omega) (by omega)]
  have e2:=one 2 (by omega)
  have e3:=one 3 (by omega)
  have e4:=one 4 (by omega)
  have e5:=one 5 (by omega)
  simp only [rd16_0,RT.val,hki,h0,h3,Nat.zero_add,Nat.add_zero,i0,i1,j2,j3,j4,j5,(F51_of _ _ _ _).1,(F51_of _ _ _ _).2,Int.toNat_natCast,Int.ofNat_eq_natCast,decide_true,Bool.and_self,cond_true]
  simp only [Nat.add_assoc,Nat.reduceAdd,w,hd,e2,e3,e4,e5]
theorem F16_eq {pc xl xh yl yh al ah hg fl fh:Int}(g:GL I6 6 c n):F16 pc xl xh yl yh al ah hg fl fh c 0 n =
    some (if ldE xl xh yl yh al ah hg fl fh c n=0 then
      ⟨pc,wr (xl+lo2 (sm c hg 2 n) fl fh),wr (xh+hi2 (sm c hg 3 n) fl fh),wr (yl+lo2 (sm c hg 4 n) fl fh),wr (yh+hi2 (sm c hg 5 n) fl fh),wr (al+lo2 hg fl fh),wr (ah+hi2 hg fl fh),0⟩
      else ⟨0,0,0,0,0,0,0,ldE xl xh yl yh al ah hg fl fh c n⟩):=by
  have e7:¬(7:Int)=0:=by omega
  have e4:¬(4:Int)=0:=by omega
  cases b1:chB hg fl fh with
  | false =>
    have hl:ldE xl xh yl yh al ah hg fl fh c n=7:=by unfold ldE;rw [b1];rfl
    rw [hl]
    unfold F16 rt16
    simp only [RT.val,(F14_of _ _ _).1,(F14_of _ _ _).2,b1,e7,Bool.false_eq_true,if_false,decide_false,decide_true,Bool.not_false,cond_true,cond_false]
  | true =>
  by_cases b2:(bnF c n).2=0
  case neg =>
    have hl:ldE xl xh yl yh al ah hg fl fh c n=(bnF c n).2:=by unfold ldE;rw [b1,if_pos rfl,if_neg b2]
    rw [hl]
    unfold F16 rt16
    simp only [RT.val,(F14_of _ _ _).1,(F14_of _ _ _).2,(F48_of g).1,(F48_of g).2.2,b1,b2,if_true,if_false,decide_false,decide_true,Bool.not_false,cond_true,cond_false]
  have tk:∀a,tkB a=true→0≤a∧a≤100000:=fun a h=>by
    simpa only [tkB,inB,Bool.and_eq_true,decide_eq_true_eq] using h
  have im:imB xl xh yl yh al ah=(lsB xl xh (-2000000000) 2000000000&&(lsB yl yh (-2000000000) 2000000000&&(tkB al&&(tkB ah&&!decide (ah<al))))):=by
    unfold imB
    congr 2
    unfold lsB tkB inB
    rw [Bool.eq_iff_iff]
    simp only [Bool.and_eq_true,decide_eq_true_eq,Bool.not_eq_true',decide_eq_false_iff_not]
    omega
  have hl:ldE xl xh yl yh al ah hg fl fh c n=if imB xl xh yl yh al ah=true then (if getInt c ((n-1)*6+1)<hg then 4 else 0) else 7:=by unfold ldE;rw [b1,if_pos rfl,if_pos b2]
  by_cases b3:imB xl xh yl yh al ah=true
  case neg =>
    rw [if_neg b3]at hl
    rw [hl]
    rw [im]at b3
    unfold F16 rt16
    simp only [RT.val,(F14_of _ _ _).1,(F14_of _ _ _).2,(F48_of g).1,(F48_of g).2.2,(F49_of _ _).1,(F49_of _ _).2,(F50_of _).1,(F50_of _).2,b1,b2,e7,if_true,if_false,decide_true,cond_true]
    cases a1:lsB xl xh (-2000000000) 2000000000 with
    | false=>rfl
    | true =>
    cases a2:lsB yl yh (-2000000000) 2000000000 with
    | false=>rfl
    | true =>
    cases a3:tkB al with
    | false=>rfl
    | true =>
    cases a4:tkB ah with
    | false=>rfl
    | true =>
    by_cases a5:ah<al
    · simp only [a5,decide_true,Bool.not_true,cond_true,cond_false]
    · rw [a1,a2,a3,a4]at b3
      exact absurd (by simp [a5]) b3
  rw [if_pos b3]at hl
  have b3':=b3
  rw [im]at b3'
  simp only [Bool.and_eq_true,Bool.not_eq_true',decide_eq_false_iff_not]at b3'
  obtain ⟨a1,a2,a3,a4,a5⟩:=b3'
  obtain ⟨n1,n20,z⟩:=bn_of b2
  have w:IntKind.wrap .i64 ((n:Int)-1)=((n-1:Nat):Int):=by rw [wrap64_id (by omega) (by omega)];omega
  have w1:(0:Int)≤((n-1:Nat):Int):=by omega
  have w2:((n-1:Nat):Int)<(n:Int):=by omega
  obtain ⟨_,i1,_,_⟩:=rows6 g (show n-1<n by omega)
  by_cases b4:getInt c ((n-1)*6+1)<hg
  case pos =>
    rw [if_pos b4]at hl
    rw [hl]
    unfold F16 rt16
    simp only [RT.val,(F14_of _ _ _).1,(F14_of _ _ _).2,(F48_of g).1,(F48_of g).2.2,(F49_of _ _).1,(F49_of _ _).2,(F50_of _).1,(F50_of _).2,b1,b2,a1,a2,a3,a4,a5,w,w1,w2,i1,b4,Int.ofNat_eq_natCast,Int.toNat_natCast,Nat.zero_add,e4,if_true,if_false,decide_true,decide_false,
      Bool.and_self,Bool.not_true,cond_true,cond_false]
  rw [if_neg b4]at hl
  obtain ⟨_,_,row,hh,f1,f2,f3,x,y,t⟩:=ld_of hl
  rw [hl,if_pos rfl]
  have z1:¬(n:Int)<(n:Int):=by omega
  have l:L16_0 (Y16_0 pc xl xh yl yh al ah hg fl fh c 0 n)=some (.k0 pc xl xh yl yh al ah hg fl fh 0 0 0 0 0 0 0 (sm c hg 2 n) (sm c hg 3 n) (sm c hg 4 n) (sm c hg 5 n)) :=
    loop_cnt (rd:=rd16_0) (S:=fun k=>X16_0.mk c 0 n (k:Int) pc xl xh yl yh al ah hg fl fh 0 0 0 0 0 0 0 (sm c hg 2 k) (sm c hg 3 k) (sm c hg 4 k) (sm c hg 5 k)) (n:=n)
      (fun k hk=>step16 g hh n20 row k hk) (by simp only [rd16_0,RT.val,Int.ofNat_eq_natCast,z1,decide_false,cond_false]) n 0 (by omega)
  have s2:=sm_bd hh (j:=2) (by omega) n (by omega) n20 row
  have s3:=sm_bd hh (j:=3) (by omega) n (by omega) n20 row
  have s4:=sm_bd hh (j:=4) (by omega) n (by omega) n20 row
  have s5:=sm_bd hh (j:=5) (by omega) n (by omega) n20 row
  have p1:=F52_of (a:=sm c hg 2 n) (b:=sm c hg 3 n) (c:=fl) (d:=fh) f1 (by omega) (by omega) (by omega) (by omega) (by omega)
  have p2:=F52_of (a:=sm c hg 4 n) (b:=sm c hg 5 n) (c:=fl) (d:=fh) f1 (by omega) (by omega) (by omega) (by omega) (by omega)
  have wh:IntKind.wrap .i64 (0-hg)=0-hg:=wrap64_id (by omega) (by omega)
  have p3:=F53_of (a:=0-hg) (b:=fl) f1 (by omega) (by omega)
  have nf:¬fh=0:=by omega
  have last:IntKind.wrap .i64 (ah-qd (0-hg) fl)=wr (ah+hi2 hg fl fh):=by
    rw [hi_at hh f1 f2]
    unfold ru wr
    rw [wh]
    obtain ⟨_,q2,q3⟩:=qd_in (a:=0-hg) (b:=fl) (M:=100000000) f1 (by omega) (by omega) (by omega)
    rw [wrap64_id (x:=0-qd (0-hg) fl) (by omega) (by omega)]
    congr 1
    omega
  have first:IntKind.wrap .i64 (al+IntKind.wrap .i64 (Int.tdiv hg fh))=wr (al+lo2 hg fl fh):=by
    rw [lo_at hh f1 f2];rfl
  unfold F16 rt16
  simp only [RT.val,(F14_of _ _ _).1,(F14_of _ _ _).2,(F48_of g).1,(F48_of g).2.2,(F49_of _ _).1,(F49_of _ _).2,(F50_of _).1,(F50_of _).2,b1,b2,a1,a2,a3,a4,a5,w,w1,w2,i1,b4,Int.ofNat_eq_natCast,Int.toNat_natCast,Nat.zero_add,if_true,if_false,decide_true,decide_false,
    Bool.and_self,Bool.not_true,Bool.not_false,eqCode_self,cond_true,cond_false,L16_0_k0,l]
  simp only [Qd0,Qd1,Qd2,Qd3,Qd4,Qd5,Qd6,Qd7,Qd8,Qd9,Qd17,Qd18,Qd19,Qd20,l,p1.1,p1.2.1,p1.2.2,p2.1,p2.2.1,p2.2.2,p3.1,p3.2,wh,nf,
    (F51_of _ _ _ _).1,(F51_of _ _ _ _).2,first,last,decide_true,decide_false,Bool.not_false,cond_true]
  rfl
end
end
end Go.Proofs.Ytoghoeebiddblaa
namespace Go.Proofs.Ytoghoeebiddblaa
open Go.Gi Go.RowKit
noncomputable section
set_option maxRecDepth 100000
theorem true3:True3:=by
  intro pc xl xh yl yh al ah hg fl fh bc bn _ gc
  have p:=F15_eq (pc:=pc) (xl:=xl) (xh:=xh) (yl:=yl) (yh:=yh) (al:=al) (ah:=ah) (hg:=hg) (fl:=fl) (fh:=fh) gc
  have q:=F16_eq (pc:=pc) (xl:=xl) (xh:=xh) (yl:=yl) (yh:=yh) (al:=al) (ah:=ah) (hg:=hg) (fl:=fl) (fh:=fh) gc
  unfold rt3
  by_cases h:ldE xl xh yl yh al ah hg fl fh bc bn=0
  · rw [if_pos h]at p q
    simp only [RT.val,(F13_of _ _ _).1,(F13_of _ _ _).2,(F14_of _ _ _).1,(F14_of _ _ _).2,F15_ok,F15_0,F15_1,F15_2,F15_3,F15_4,F15_5,F15_6,F15_7,F16_ok,F16_0,F16_1,F16_2,F16_3,F16_4,F16_5,F16_6,F16_7,p,q,Option.isSome_some,decide_true,Bool.not_true,Bool.and_self,cond_true,cond_false]
  · rw [if_neg h]at p q
    simp only [RT.val,(F13_of _ _ _).1,(F13_of _ _ _).2,(F14_of _ _ _).1,(F14_of _ _ _).2,F15_ok,F15_0,F15_1,F15_2,F15_3,F15_4,F15_5,F15_6,F15_7,F16_ok,F16_0,F16_1,F16_2,F16_3,F16_4,F16_5,F16_6,F16_7,p,q,Option.isSome_some,decide_true,Bool.not_true,Bool.and_self,cond_true,cond_false]
theorem recoverLandsProved:Rows.RecoverLandsSaid:=said3 true3
end
end Go.Proofs.Ytoghoeebiddblaa
