/- RecoverWider proved: if bands cover others, the parachute lands, by them, in an area, and in a span of ticks, that has those by the others, for any impact, parachute, bands and others. Conditions: none. -/
import Derived.Test.YtoghoeebiddblaaMg7
import Derived.Test.YtoghoeebiddblaaMg9
import Derived.Test.YtoghoeebiddblaaMg8
set_option linter.unusedVariables false
set_option linter.unusedSimpArgs false
namespace Go.Proofs.Ytoghoeebiddblaa
open Go.ChangeShapes Go.WideShapes Go.ChangeAt Go.RowKit Go.Gi
def True11:Prop:=∀(pc:Int) (xl:Int)(xh:Int)(yl:Int)(yh:Int)(al:Int)(ah:Int)(hg:Int)(fl:Int)(fh:Int)(bc:Array Value)(bn:Nat)(wc:Array Value)(wn:Nat),(Lit.int .i64 pc).wf=true→GL I6 6 bc bn→GL I6 6 wc wn→(rt11 pc xl xh yl yh al ah hg fl fh bc 0 bn wc 0 wn).val=some ⟨true⟩
theorem law11 (hm:True11) {pc:Int}{xl:Int}{xh:Int}{yl:Int}{yh:Int}{al:Int}{ah:Int}{hg:Int}{fl:Int}{fh:Int}{bc:Array Value}{bn:Nat}{wc:Array Value}{wn:Nat}(hy0:(Lit.int .i64 pc).wf=true) (hy1:GL I6 6 bc bn) (hy2:GL I6 6 wc wn) :
    Fact Try.prog (.call 11 ⟨[(.agg ⟨[.int .i64 pc,.int .i64 xl,.int .i64 xh,.int .i64 yl,.int .i64 yh,.int .i64 al,.int .i64 ah,.int .i64 hg,.int .i64 fl,.int .i64 fh]⟩),(lstV bc 0 bn 6),(lstV wc 0 wn 6)]⟩ ⟨[],0,[]⟩) (.ret (.bool true) ⟨[],0,[]⟩):=by
  have hv:=hm pc xl xh yl yh al ah hg fl fh bc bn wc wn hy0 hy1 hy2
  refine known11 _ (alt11 ⟨pc,xl,xh,yl,yh,al,ah,hg,fl,fh,bc,0,bn,wc,0,wn⟩ ⟨[],0,[]⟩) _ rfl ?_
  have e1:F11 pc xl xh yl yh al ah hg fl fh bc 0 bn wc 0 wn=some ⟨true⟩:=hv
  have k0:F11_ok pc xl xh yl yh al ah hg fl fh bc 0 bn wc 0 wn=true:=by unfold F11_ok;rw [e1];rfl
  have k1:F11_0 pc xl xh yl yh al ah hg fl fh bc 0 bn wc 0 wn=true:=by
    show (match F11 pc xl xh yl yh al ah hg fl fh bc 0 bn wc 0 wn with | some r=>r.r0 | none=>false)=true
    rw [e1]
  simp only [alt11,k0,k1,AT.out,cond_true]
set_option maxRecDepth 100000 in
theorem lifted11 (hm:True11)(os:Os)(started:os.Started)(H:Type)(enc:TypeId×Value→H) :
    ReturnsInHanded {} Try.checked os 11 .any (Rows.recoverWiderSpec.pre6 enc Try.prog Try.f11 Rows.recoverWiderRow.domain false) (Rows.recoverWiderSpec.post enc Try.prog Try.f11 false true false false):=by
  refine returnsInHanded_of_change (C:=Try.checked) own started (by kernel_rfl) Try.func11
    (ChangeSpec.witness6 (enc:=enc) (C:=Try.checked) false ⟨#[],#[.agg #[.int .i64 0,.int .i64 0,.int .i64 0,.int .i64 0,.int .i64 0,.int .i64 0,.int .i64 0,.int .i64 0,.int .i64 0,.int .i64 0],.slice none 0 0,.slice none 0 0],[]⟩ 20 (by kernel_rfl) (by kernel_rfl) (by kernel_rfl) (by kernel_rfl)) ?_
  intro W base args ds gs before hval0 hW hcnd _
  have hval:∀(j:Nat) t v,Try.f11.params[j]?=some t→args[j]?=some v→Value.okWide Try.prog W .any base t v:=hval0
  have hW':=hW
  obtain ⟨p,q,hA0,hV,rfl,hfz,hnd⟩:=hW
  have hA:DataW.TrodAll enc Try.prog W 0 (fun _=>true) true Try.f11.params.toList args.toList ds p:=hA0
  rw [Try.params11]at hA hval
  obtain ⟨v0,vs0,d0,ds0,p0,q0,hargs,rfl,rfl,h0,r0⟩:=trodAll_cons hA
  obtain ⟨v1,vs1,d1,ds1,p1,q1,rfl,rfl,rfl,h1,r1⟩:=trodAll_cons r0
  obtain ⟨v2,vs2,d2,ds2,p2,q2,rfl,rfl,rfl,h2,r2⟩:=trodAll_cons r1
  obtain ⟨rfl,rfl,rfl⟩:=trodAll_nil r2
  obtain rfl:args=#[v0,v1,v2]:=by cases args;simp_all
  obtain ⟨rfl,rfl⟩:=trodVars_none hV
  have k0:=h0
  have k1:=h1
  have k2:=h2
  have lt0:∀x∈p0,x.block<W.heap.size:=by obtain ⟨m,hm⟩:=k0;exact DataW.trod_lt m _ _ _ hm
  have lt1:∀x∈p1,x.block<W.heap.size:=by obtain ⟨m,hm⟩:=k1;exact DataW.trod_lt m _ _ _ hm
  have lt2:∀x∈p2,x.block<W.heap.size:=by obtain ⟨m,hm⟩:=k2;exact DataW.trod_lt m _ _ _ hm
  obtain ⟨pc,xl,xh,yl,yh,al,ah,hg,fl,fh,u0,hy0⟩:=fallArg (hval 0 31 v0 rfl rfl) h0
  obtain ⟨bc,bn,u1,hy1⟩:=bandsArg (hval 1 32 v1 rfl rfl) h1
  obtain ⟨wc,wn,u2,hy2⟩:=bandsArg (hval 2 32 v2 rfl rfl) h2
  clear hA0 hval0
  refine (calls_frozen (law11 hm (pc:=pc) (xl:=xl) (xh:=xh) (yl:=yl) (yh:=yh) (al:=al) (ah:=ah) (hg:=hg) (fl:=fl) (fh:=fh) (bc:=bc) (bn:=bn) (wc:=wc) (wn:=wn) hy0 hy1 hy2) rfl ((((VRs.nil _).push u0).push u1).push u2)).mono fun e W' ⟨he,bel⟩=>?_
  subst he
  exact ⟨_,rfl,_,_,_,[],_,[],hW',trodAll_mk1 (shut_bool Try.underlying4 _),(trodAll_cons_mk (Below.trod laidOut (by kernel_rfl) (of_decide_eq_true (by kernel_rfl)) k0 bel lt0) (trodAll_cons_mk (Below.trod laidOut (by kernel_rfl) (of_decide_eq_true (by kernel_rfl)) k1 bel lt1) (trodAll_cons_mk (Below.trod laidOut (by kernel_rfl) (of_decide_eq_true (by kernel_rfl)) k2 bel lt2) trodAll_mk0))),rfl,bel.frame _,fun h=>by cases h⟩
theorem over11 (hm:True11):Rows.recoverWiderRow.holds Try.pinned (OpenSpec.ofChange Rows.recoverWiderSpec) :=
  OpenClaim.holds_of_wide 11 Try.f11 rfl rfl rfl rfl rfl rfl rfl ⟨rfl,rfl,rfl,rfl,rfl⟩ rfl rfl rfl rfl rfl (by kernel_rfl) Try.func11 (by kernel_rfl)
    (of_decide_eq_true (by kernel_rfl)) (by unfold Func.isWrapper;first | (rw [if_pos (by decide +kernel)];kernel_rfl) | (rw [if_neg (by decide +kernel)];exact ⟨rfl,rfl⟩))
    (fun os started H enc _=>lifted11 hm os started H enc)
theorem said11 (hm:True11):Rows.RecoverWiderSaid:=over11 hm
end Go.Proofs.Ytoghoeebiddblaa
namespace Go.Proofs.Ytoghoeebiddblaa
open Go.Gi Go.RowKit
noncomputable section
set_option maxRecDepth 100000
set_option maxHeartbeats 1000000
theorem mul_bd {x d A D:Int}(h1:-A≤x) (h2:x≤A) (h3:0≤d) (h4:d≤D):-(A*D)≤x*d∧x*d≤A*D:=by
  have hA:0≤A:=by omega
  have a1:x*d≤A*d:=Int.mul_le_mul_of_nonneg_right h2 h3
  have a2:A*d≤A*D:=Int.mul_le_mul_of_nonneg_left h4 hA
  have a3:-A*d≤x*d:=Int.mul_le_mul_of_nonneg_right h1 h3
  rw [Int.neg_mul]at a3
  omega
def qd (a b:Int):Int:=if Int.tmod a b<0 then IntKind.wrap .i64 (IntKind.wrap .i64 (Int.tdiv a b)-1) else IntKind.wrap .i64 (Int.tdiv a b)
def ru (a b:Int):Int:=IntKind.wrap .i64 (0-qd (IntKind.wrap .i64 (0-a)) b)
theorem tmod_lo {a b:Int}(hb:0<b):-b<Int.tmod a b:=by
  by_cases h:0≤a
  · have:=Int.tmod_nonneg b h;omega
  · have h1:Int.tmod (-a) b<b:=Int.tmod_lt_of_pos _ hb
    rw [Int.neg_tmod]at h1
    omega
theorem tdiv_bd {a b:Int}(hb:0<b) (h1:-1000000000000000000≤a) (h2:a≤1000000000000000000):-1000000000000000000≤Int.tdiv a b∧Int.tdiv a b≤1000000000000000000:=by
  have e:=Int.tmod_add_mul_tdiv a b
  have m1:=tmod_lo (a:=a) hb
  have m2:=Int.tmod_lt_of_pos a hb
  by_cases h:0≤a
  · have g0:=Int.tdiv_nonneg h (Int.le_of_lt hb)
    have g1:1*Int.tdiv a b≤b*Int.tdiv a b:=Int.mul_le_mul_of_nonneg_right (by omega) g0
    have g2:=Int.tmod_nonneg b h
    omega
  · have g0:=Int.tdiv_nonneg (a:=-a) (b:=b) (by omega) (Int.le_of_lt hb)
    rw [Int.neg_tdiv]at g0
    have g1:1*(-(Int.tdiv a b))≤b*(-(Int.tdiv a b)):=Int.mul_le_mul_of_nonneg_right (by omega) g0
    simp only [Int.mul_neg,Int.one_mul]at g1
    have g2:=Int.tmod_nonneg (a:=-a) b (by omega)
    rw [Int.neg_tmod]at g2
    omega
theorem qd_bd {a b:Int}(hb:1≤b) (h1:-1000000000000000000≤a) (h2:a≤1000000000000000000):b*qd a b≤a∧a<b*qd a b+b∧-1000000000000000001≤qd a b∧qd a b≤1000000000000000000:=by
  have e:=Int.tmod_add_mul_tdiv a b
  have m1:=tmod_lo (a:=a) (b:=b) (by omega)
  have m2:=Int.tmod_lt_of_pos a (b:=b) (by omega)
  obtain ⟨k1,k2⟩:=tdiv_bd (a:=a) (b:=b) (by omega) h1 h2
  unfold qd
  rw [wrap64_id (x:=Int.tdiv a b) (by omega) (by omega)]
  split
  · rw [wrap64_id (by omega) (by omega),Int.mul_sub,Int.mul_one]
    omega
  · omega
theorem ru_bd {a b:Int}(hb:1≤b) (h1:-1000000000000000000≤a) (h2:a≤1000000000000000000):a≤b*ru a b∧b*ru a b<a+b∧-1000000000000000000≤ru a b∧ru a b≤1000000000000000001:=by
  unfold ru
  rw [wrap64_id (x:=0-a) (by omega) (by omega)]
  obtain ⟨k1,k2,k3,k4⟩:=qd_bd (a:=0-a) hb (by omega) (by omega)
  rw [wrap64_id (by omega) (by omega),Int.mul_sub,Int.mul_zero]
  omega
theorem F77_of (a b:Int)(h:b≠0):F77_ok a b=true∧F77_0 a b=qd a b:=by
  have q:F77 a b=some ⟨qd a b⟩:=by
    unfold F77 rt77 qd
    by_cases h2:Int.tmod a b<0
    · rw [if_pos h2];simp only [RT.val,h,h2,decide_true,decide_false,Bool.not_false,cond_true]
    · rw [if_neg h2];simp only [RT.val,h,h2,decide_false,Bool.not_false,cond_true,cond_false]
  exact ⟨by simp only [F77_ok,q];rfl,by simp only [F77_0,q]⟩
theorem F78_of (a b:Int)(h:b≠0):F78_ok a b=true∧F78_0 a b=ru a b:=by
  have q:F78 a b=some ⟨ru a b⟩:=by
    unfold F78 rt78 ru
    simp only [RT.val,(F77_of _ _ h).1,(F77_of _ _ h).2,cond_true]
  exact ⟨by simp only [F78_ok,q];rfl,by simp only [F78_0,q]⟩
theorem F47_of (a b c d:Int)(hc:c≠0)(hd:d≠0):F47_ok a b c d=true∧F47_0 a b c d=min (qd a c) (qd a d)∧F47_1 a b c d=max (ru b c) (ru b d):=by
  have q:F47 a b c d=some ⟨min (qd a c) (qd a d),max (ru b c) (ru b d)⟩:=by
    unfold F47 rt47
    simp only [RT.val,(F77_of _ _ hc).1,(F77_of _ _ hc).2,(F77_of _ _ hd).1,(F77_of _ _ hd).2,(F78_of _ _ hc).1,(F78_of _ _ hc).2,(F78_of _ _ hd).1,(F78_of _ _ hd).2,decide_true,cond_true]
  exact ⟨by simp only [F47_ok,q];rfl,by simp only [F47_0,q],by simp only [F47_1,q]⟩
theorem F46_of (a b c d:Int):F46_0 a b c d=IntKind.wrap .i64 (a+c)∧F46_1 a b c d=IntKind.wrap .i64 (b+d):=⟨rfl,rfl⟩
theorem F76_of (a b n:Int):F76_0 a b n=IntKind.wrap .i64 (a*n)∧F76_1 a b n=IntKind.wrap .i64 (b*n):=⟨rfl,rfl⟩
def chB (hg fl fh:Int):Bool:=inB hg 1 100000000&&lsB fl fh 1 10000
theorem F13_of (a b c:Int):F13_ok a b c=true∧F13_0 a b c=if chB a b c=true then 0 else 7:=by
  have q:F13 a b c=some ⟨if chB a b c=true then 0 else 7⟩:=by
    unfold F13 rt13 chB
    simp only [RT.val,(F40_of _ _ _).1,(F40_of _ _ _).2,(F41_of _ _ _ _).1,(F41_of _ _ _ _).2,cond_true]
    cases inB a 1 100000000<;>cases lsB b c 1 10000<;>rfl
  exact ⟨by simp only [F13_ok,q];rfl,by simp only [F13_0,q]⟩
def imB (xl xh yl yh al ah:Int):Bool:=lsB xl xh (-2000000000) 2000000000&&(lsB yl yh (-2000000000) 2000000000&&lsB al ah 0 100000)
theorem F44_of (pc xl xh yl yh al ah:Int):F44_ok pc xl xh yl yh al ah=true∧F44_0 pc xl xh yl yh al ah=imB xl xh yl yh al ah:=by
  have q:F44 pc xl xh yl yh al ah=some ⟨imB xl xh yl yh al ah⟩:=by
    unfold F44 rt44 imB
    simp only [RT.val,(F41_of _ _ _ _).1,(F41_of _ _ _ _).2,cond_true]
    cases lsB xl xh (-2000000000) 2000000000<;>cases lsB yl yh (-2000000000) 2000000000<;>rfl
  exact ⟨by simp only [F44_ok,q];rfl,by simp only [F44_0,q]⟩
theorem fst1_none {E:Nat→Int}:∀{m k:Nat},fst1 E m k=none→∀j,k≤j→j<k+m→E j=0
  | 0,k,h,j,h1,h2=>by omega
  | m+1,k,h,j,h1,h2=>by
    unfold fst1 at h
    by_cases he:E k=0
    · rw [if_pos he]at h
      rcases Nat.eq_or_lt_of_le h1 with rfl | h3
      · exact he
      · exact fst1_none h j h3 (by omega)
    · rw [if_neg he]at h;cases h
section
variable {c:Array Value}{n:Nat}
theorem bn_of (h:(bnF c n).2=0):1≤n∧n≤20∧∀k,k<n→bdE c k=0:=by
  unfold bnF at h
  by_cases h1:n<1
  · rw [if_pos h1]at h;cases h
  rw [if_neg h1]at h
  by_cases h2:20<n
  · rw [if_pos h2]at h;cases h
  rw [if_neg h2]at h
  refine ⟨by omega,by omega,?_⟩
  cases hf:fst1 (bdE c) n 0 with
  | some ir =>
    obtain ⟨i,r⟩:=ir
    rw [hf]at h
    exact absurd h (fst1_ne hf)
  | none=>exact fun k hk=>fst1_none hf k (by omega) (by omega)
theorem bd_of {f t xl xh yl yh p:Int}(h:bd f t xl xh yl yh p=0):f=p∧f<t∧t≤100000000∧spW xl xh=true∧spW yl yh=true:=by
  unfold bd at h
  by_cases h1:f=p
  · rw [if_pos h1]at h
    by_cases h2:t≤f
    · rw [if_pos h2]at h;cases h
    rw [if_neg h2]at h
    by_cases h3:100000000<t
    · rw [if_pos h3]at h;cases h
    rw [if_neg h3]at h
    by_cases h4:spW xl xh=true
    · rw [if_pos h4]at h
      by_cases h5:spW yl yh=true
      · exact ⟨h1,by omega,by omega,h4,h5⟩
      · rw [if_neg h5]at h;cases h
    · rw [if_neg h4]at h;cases h
  · rw [if_neg h1]at h;cases h
theorem sp_of {a b:Int}(h:spW a b=true):a≤b∧-20000≤a∧a≤20000∧-20000≤b∧b≤20000:=by
  simp only [spW,inB,Bool.and_eq_true,decide_eq_true_eq]at h
  omega
theorem prv_of (h:∀k,k<n→bdE c k=0):∀k,k≤n→0≤prv c k∧prv c k≤100000000
  | 0,_=>by show (0:Int)≤0∧(0:Int)≤100000000;omega
  | k+1,hk=>by
    obtain ⟨e1,e2,e3,_,_⟩:=bd_of (h k (by omega))
    have:=prv_of h k (by omega)
    show 0≤getInt c (k*6+1)∧getInt c (k*6+1)≤100000000
    omega
structure Row (c:Array Value) (k:Nat):Prop where
  f0:0≤getInt c (k*6)
  ft:getInt c (k*6)<getInt c (k*6+1)
  th:getInt c (k*6+1)≤100000000
  x:spW (getInt c (k*6+2)) (getInt c (k*6+3))=true
  y:spW (getInt c (k*6+4)) (getInt c (k*6+5))=true
theorem row_of (h:∀k,k<n→bdE c k=0) {k:Nat}(hk:k<n):Row c k:=by
  obtain ⟨e1,e2,e3,e4,e5⟩:=bd_of (h k hk)
  have:=prv_of h k (by omega)
  exact ⟨by omega,e2,e3,e4,e5⟩
def dd (c:Array Value)(h:Int)(k:Nat):Int:=max (min (getInt c (k*6+1)) h-getInt c (k*6)) 0
def sm (c:Array Value)(h:Int)(j:Nat):Nat→Int
  | 0=>0
  | k+1=>sm c h j k+getInt c (k*6+j)*dd c h k
theorem dd_bd {h:Int}(hh:1≤h∧h≤100000000) {k:Nat}(r:Row c k):0≤dd c h k∧dd c h k≤100000000∧IntKind.wrap .i64 (min (getInt c (k*6+1)) h-getInt c (k*6))=min (getInt c (k*6+1)) h-getInt c (k*6):=by
  obtain ⟨f0,ft,th,_,_⟩:=r
  unfold dd
  refine ⟨by omega,by omega,wrap64_id (by omega) (by omega)⟩
theorem tm_bd {h:Int}(hh:1≤h∧h≤100000000) {k j:Nat}(r:Row c k) (hj:j=2∨j=3∨j=4∨j=5):-2000000000000≤getInt c (k*6+j)*dd c h k∧getInt c (k*6+j)*dd c h k≤2000000000000:=by
  have hx:=sp_of r.x
  have hy:=sp_of r.y
  obtain ⟨d0,d1,_⟩:=dd_bd hh r
  have hb:-20000≤getInt c (k*6+j)∧getInt c (k*6+j)≤20000:=by rcases hj with rfl | rfl | rfl | rfl<;>omega
  have:=mul_bd (A:=20000) (D:=100000000) hb.1 hb.2 d0 d1
  omega
theorem sm_bd {h:Int}(hh:1≤h∧h≤100000000) {j:Nat}(hj:j=2∨j=3∨j=4∨j=5):∀k,k≤n→n≤20→(∀k,k<n→Row c k)→-(2000000000000*(k:Int))≤sm c h j k∧sm c h j k≤2000000000000*(k:Int)
  | 0,_,_,_=>by unfold sm;omega
  | k+1,hk,hn,r=>by
    have:=sm_bd hh hj k (by omega) hn r
    have:=tm_bd hh (r k (by omega)) hj
    unfold sm
    omega
theorem loop_cnt {X D:Type}{rd:X→RT (Sum X D)}{S:Nat→X}{n:Nat}{fin:D}(hs:∀k,k<n→(rd (S k)).val=some (.inl (S (k+1)))) (hf:(rd (S n)).val=some (.inr fin)) :
    ∀m k,k+m=n→loopR rd (S k)=some fin
  | 0,k,e=>by
    obtain rfl:k=n:=by omega
    exact loopR_done hf
  | m+1,k,e=>(loopR_next (hs k (by omega))).trans (loop_cnt hs hf m (k+1) (by omega))
theorem step45 (g:GL I6 6 c n) {h:Int}(hh:1≤h∧h≤100000000) (hn:n≤20) (r:∀k,k<n→Row c k) (k:Nat) (hk:k<n) :
    (rd45_0 ⟨h,c,0,n,(n:Int),(k:Int),sm c h 2 k,sm c h 3 k,sm c h 4 k,sm c h 5 k⟩).val=some (.inl ⟨h,c,0,n,(n:Int),((k+1:Nat):Int),sm c h 2 (k+1),sm c h 3 (k+1),sm c h 4 (k+1),sm c h 5 (k+1)⟩):=by
  have hki:(k:Int)<(n:Int):=by omega
  have h0:(0:Int)≤(k:Int):=by omega
  have h3:IntKind.wrap .i64 ((k:Int)+1)=((k+1:Nat):Int):=by rw [wrap64_id (by omega) (by omega)];omega
  have hr:rdOk c I6 (0+k*6)=true:=g.good.2 k hk
  unfold I6 at hr
  obtain ⟨d0,d1,w⟩:=dd_bd hh (r k hk)
  have one:∀j,(j=2∨j=3∨j=4∨j=5)→IntKind.wrap .i64 (sm c h j k+IntKind.wrap .i64 (getInt c (k*6+j)*dd c h k))=sm c h j (k+1):=by
    intro j hj
    have a:=sm_bd hh hj k (by omega) hn r
    have b:=tm_bd hh (r k hk) hj
    show _=sm c h j k+getInt c (k*6+j)*dd c h k
    rw [wrap64_id (x:=getInt c (k*6+j)*dd c h k) (by omega) (by omega),wrap64_id (by omega) (by omega)]
  have e2:=one 2 (by omega)
  have e3:=one 3 (by omega)
  have e4:=one 4 (by omega)
  have e5:=one 5 (by omega)
  unfold dd at e2 e3 e4 e5
  simp only [rd45_0,RT.val,hki,h0,h3,hr,(F46_of _ _ _ _).1,(F46_of _ _ _ _).2,(F76_of _ _ _).1,(F76_of _ _ _).2,Int.toNat_natCast,Int.ofNat_eq_natCast,decide_true,Bool.and_self,cond_true]
  simp only [Nat.zero_add,Nat.add_assoc,Nat.reduceAdd,w,e2,e3,e4,e5]
theorem F45_of (g:GL I6 6 c n) {h:Int}(hh:1≤h∧h≤100000000) (hn:n≤20) (r:∀k,k<n→Row c k) :
    F45_ok c 0 n h=true∧F45_0 c 0 n h=sm c h 2 n∧F45_1 c 0 n h=sm c h 3 n∧F45_2 c 0 n h=sm c h 4 n∧F45_3 c 0 n h=sm c h 5 n:=by
  have z1:¬(n:Int)<(n:Int):=by omega
  have l:L45_0 (X45_0.mk h c 0 n (n:Int) 0 0 0 0 0)=some (.k0 (sm c h 2 n) (sm c h 3 n) (sm c h 4 n) (sm c h 5 n)) :=
    loop_cnt (rd:=rd45_0) (S:=fun k=>X45_0.mk h c 0 n (n:Int) (k:Int) (sm c h 2 k) (sm c h 3 k) (sm c h 4 k) (sm c h 5 k)) (n:=n) (fin:=.k0 (sm c h 2 n) (sm c h 3 n) (sm c h 4 n) (sm c h 5 n))
      (fun k hk=>step45 g hh hn r k hk) (by simp only [rd45_0,RT.val,z1,decide_false,cond_false]) n 0 (by omega)
  have q:F45 c 0 n h=some ⟨sm c h 2 n,sm c h 3 n,sm c h 4 n,sm c h 5 n⟩:=by
    unfold F45 rt45
    simp only [RT.val,Int.ofNat_eq_natCast,eqCode_self,L45_0_k0,Qb0,Qb1,Qb2,Qb3,l,decide_true,cond_true]
  exact ⟨by simp only [F45_ok,q];rfl,by simp only [F45_0,q],by simp only [F45_1,q],by simp only [F45_2,q],by simp only [F45_3,q]⟩
end
def lo2 (a b c:Int):Int:=min (qd a b) (qd a c)
def hi2 (a b c:Int):Int:=max (ru a b) (ru a c)
theorem qd_in {a b M:Int}(hb:1≤b) (h1:-M≤a) (h2:a≤M) (hM:M≤1000000000000000000):b*qd a b≤a∧-M≤qd a b∧qd a b≤M:=by
  obtain ⟨k1,k2,_,_⟩:=qd_bd (a:=a) hb (by omega) (by omega)
  refine ⟨k1,?_⟩
  by_cases h:0≤qd a b
  · have:1*qd a b≤b*qd a b:=Int.mul_le_mul_of_nonneg_right hb h
    omega
  · have:1*(-(qd a b)-1)≤b*(-(qd a b)-1):=Int.mul_le_mul_of_nonneg_right hb (by omega)
    rw [Int.mul_sub b,Int.mul_neg,Int.mul_one]at this
    omega
theorem ru_in {a b M:Int}(hb:1≤b) (h1:-M≤a) (h2:a≤M) (hM:M≤1000000000000000000):a≤b*ru a b∧-M≤ru a b∧ru a b≤M:=by
  unfold ru
  rw [wrap64_id (x:=0-a) (by omega) (by omega)]
  obtain ⟨k1,k2,k3⟩:=qd_in (a:=0-a) (M:=M) hb (by omega) (by omega) hM
  rw [wrap64_id (by omega) (by omega),Int.mul_sub,Int.mul_zero]
  omega
theorem lin_lo {l A fl fh v:Int}(h1:fl*l≤A) (h2:fh*l≤A) (h3:fl≤v) (h4:v≤fh):l*v≤A:=by
  rw [Int.mul_comm]at h1 h2
  by_cases h:0≤l
  · have:l*v≤l*fh:=Int.mul_le_mul_of_nonneg_left h4 h
    omega
  · have:(-l)*fl≤(-l)*v:=Int.mul_le_mul_of_nonneg_left h3 (by omega)
    rw [Int.neg_mul,Int.neg_mul]at this
    omega
theorem lin_hi {u A fl fh v:Int}(h1:A≤fl*u) (h2:A≤fh*u) (h3:fl≤v) (h4:v≤fh):A≤u*v:=by
  have:=lin_lo (l:=-u) (A:=-A) (fl:=fl) (fh:=fh) (v:=v) (by rw [Int.mul_neg];omega) (by rw [Int.mul_neg];omega) h3 h4
  rw [Int.neg_mul]at this
  omega
theorem mono {a b v:Int}(h:a≤b) (hv:0≤v):a*v≤b*v:=Int.mul_le_mul_of_nonneg_right h hv
theorem lo_of {a fl fh v M:Int}(h1:1≤fl) (h3:fl≤v) (h4:v≤fh) (a1:-M≤a) (a2:a≤M) (hM:M≤1000000000000000000):lo2 a fl fh*v≤a∧-M≤lo2 a fl fh∧lo2 a fl fh≤M:=by
  obtain ⟨p1,p2,p3⟩:=qd_in (b:=fl) h1 a1 a2 hM
  obtain ⟨q1,q2,q3⟩:=qd_in (b:=fh) (by omega) a1 a2 hM
  unfold lo2
  refine ⟨?_,by omega,by omega⟩
  have x1:fl*min (qd a fl) (qd a fh)≤fl*qd a fl:=Int.mul_le_mul_of_nonneg_left (by omega) (by omega)
  have x2:fh*min (qd a fl) (qd a fh)≤fh*qd a fh:=Int.mul_le_mul_of_nonneg_left (by omega) (by omega)
  exact lin_lo (by omega) (by omega) h3 h4
theorem hi_of {a fl fh v M:Int}(h1:1≤fl) (h3:fl≤v) (h4:v≤fh) (a1:-M≤a) (a2:a≤M) (hM:M≤1000000000000000000):a≤hi2 a fl fh*v∧-M≤hi2 a fl fh∧hi2 a fl fh≤M:=by
  obtain ⟨p1,p2,p3⟩:=ru_in (b:=fl) h1 a1 a2 hM
  obtain ⟨q1,q2,q3⟩:=ru_in (b:=fh) (by omega) a1 a2 hM
  unfold hi2
  refine ⟨?_,by omega,by omega⟩
  have x1:fl*ru a fl≤fl*max (ru a fl) (ru a fh):=Int.mul_le_mul_of_nonneg_left (by omega) (by omega)
  have x2:fh*ru a fh≤fh*max (ru a fl) (ru a fh):=Int.mul_le_mul_of_nonneg_left (by omega) (by omega)
  exact lin_hi (by omega) (by omega) h3 h4
def ldE (xl xh yl yh al ah hg fl fh:Int)(c:Array Value)(n:Nat):Int :=
  if chB hg fl fh=true then (if (bnF c n).2=0 then (if imB xl xh yl yh al ah=true then (if getInt c ((n-1)*6+1)<hg then 4 else 0) else 7) else (bnF c n).2) else 7
structure Ld (xl xh yl yh al ah hg fl fh:Int) (c:Array Value) (n:Nat):Prop where
  n1:1≤n
  n20:n≤20
  row:∀k,k<n→Row c k
  hh:1≤hg∧hg≤100000000
  f1:1≤fl
  f2:fl≤fh
  f3:fh≤10000
  x:xl≤xh∧-2000000000≤xl∧xh≤2000000000
  y:yl≤yh∧-2000000000≤yl∧yh≤2000000000
  t:al≤ah∧0≤al∧ah≤100000
theorem ls_of {a b lo hi:Int}(h:lsB a b lo hi=true):a≤b∧lo≤a∧b≤hi:=by
  simpa only [lsB,Bool.and_eq_true,decide_eq_true_eq] using h
theorem ch_of {hg fl fh:Int}(h:chB hg fl fh=true):(1≤hg∧hg≤100000000)∧1≤fl∧fl≤fh∧fh≤10000:=by
  simp only [chB,inB,lsB,Bool.and_eq_true,decide_eq_true_eq]at h
  omega
theorem ld_of {xl xh yl yh al ah hg fl fh:Int}{c:Array Value}{n:Nat}(h:ldE xl xh yl yh al ah hg fl fh c n=0):Ld xl xh yl yh al ah hg fl fh c n:=by
  unfold ldE at h
  by_cases h1:chB hg fl fh=true
  · rw [if_pos h1]at h
    by_cases h2:(bnF c n).2=0
    · rw [if_pos h2]at h
      by_cases h3:imB xl xh yl yh al ah=true
      · obtain ⟨n1,n2,z⟩:=bn_of h2
        obtain ⟨hh,f1,f2,f3⟩:=ch_of h1
        simp only [imB,Bool.and_eq_true]at h3
        exact ⟨n1,n2,fun k hk=>row_of z hk,hh,f1,f2,f3,ls_of h3.1,ls_of h3.2.1,ls_of h3.2.2⟩
      · rw [if_neg h3]at h;cases h
    · rw [if_neg h2]at h;exact absurd h h2
  · rw [if_neg h1]at h;cases h
theorem F43_of {c:Array Value}{n:Nat}(g:GL I6 6 c n):F43_ok c 0 n=true∧F43_0 c 0 n=(bnF c n).1∧F43_1 c 0 n=(bnF c n).2:=by
  have q:=F43_eq g
  exact ⟨by simp only [F43_ok,q];rfl,by simp only [F43_0,q],by simp only [F43_1,q]⟩
def wr (a:Int):Int:=IntKind.wrap .i64 a
theorem F15_eq {pc xl xh yl yh al ah hg fl fh:Int}{c:Array Value}{n:Nat}(g:GL I6 6 c n):F15 pc xl xh yl yh al ah hg fl fh c 0 n =
    some (if ldE xl xh yl yh al ah hg fl fh c n=0 then
      ⟨pc,wr (xl+lo2 (sm c hg 2 n) fl fh),wr (xh+hi2 (sm c hg 3 n) fl fh),wr (yl+lo2 (sm c hg 4 n) fl fh),wr (yh+hi2 (sm c hg 5 n) fl fh),wr (al+lo2 hg fl fh),wr (ah+hi2 hg fl fh),0⟩
      else ⟨0,0,0,0,0,0,0,ldE xl xh yl yh al ah hg fl fh c n⟩):=by
  by_cases h0:ldE xl xh yl yh al ah hg fl fh c n=0
  · rw [if_pos h0]
    obtain ⟨n1,n20,row,hh,f1,f2,f3,x,y,t⟩:=ld_of h0
    obtain ⟨s0,s1,s2,s3,s4⟩:=F45_of g hh n20 row
    have b1:chB hg fl fh=true:=by
      unfold ldE at h0;by_cases h:chB hg fl fh=true
      · exact h
      · rw [if_neg h]at h0;cases h0
    unfold ldE at h0
    rw [if_pos b1]at h0
    have b2:(bnF c n).2=0:=by
      by_cases h:(bnF c n).2=0
      · exact h
      · rw [if_neg h]at h0;exact absurd h0 h
    rw [if_pos b2]at h0
    have b3:imB xl xh yl yh al ah=true:=by
      by_cases h:imB xl xh yl yh al ah=true
      · exact h
      · rw [if_neg h]at h0;cases h0
    rw [if_pos b3]at h0
    have b4:¬getInt c ((n-1)*6+1)<hg:=by
      intro h;rw [if_pos h]at h0;cases h0
    have hl:fl≠0:=by omega
    have hh2:fh≠0:=by omega
    have w:IntKind.wrap .i64 ((n:Int)-1)=((n-1:Nat):Int):=by rw [wrap64_id (by omega) (by omega)];omega
    have w1:(0:Int)≤((n-1:Nat):Int):=by omega
    have w2:((n-1:Nat):Int)<(n:Int):=by omega
    obtain ⟨_,i1,_,_⟩:=rows6 g (show n-1<n by omega)
    unfold F15 rt15
    simp only [RT.val,(F13_of _ _ _).1,(F13_of _ _ _).2,b1,if_true,(F43_of g).1,(F43_of g).2.2,b2,(F44_of _ _ _ _ _ _ _).1,(F44_of _ _ _ _ _ _ _).2,b3,Int.ofNat_eq_natCast,w,w1,w2,Int.toNat_natCast,Nat.zero_add,i1,b4,
      s0,s1,s2,s3,s4,(F47_of _ _ _ _ hl hh2).1,(F47_of _ _ _ _ hl hh2).2.1,(F47_of _ _ _ _ hl hh2).2.2,(F46_of _ _ _ _).1,(F46_of _ _ _ _).2,decide_true,decide_false,Bool.and_self,Bool.not_true,cond_true,cond_false]
    rfl
  · rw [if_neg h0]
    unfold ldE at h0 ⊢
    unfold F15 rt15
    by_cases b1:chB hg fl fh=true
    · rw [if_pos b1]at h0 ⊢
      by_cases b2:(bnF c n).2=0
      · rw [if_pos b2]at h0 ⊢
        by_cases b3:imB xl xh yl yh al ah=true
        · rw [if_pos b3]at h0 ⊢
          have b4:getInt c ((n-1)*6+1)<hg:=by
            by_cases h:getInt c ((n-1)*6+1)<hg
            · exact h
            · rw [if_neg h]at h0;exact absurd rfl h0
          rw [if_pos b4]
          obtain ⟨n1,n20,_⟩:=bn_of b2
          have w:IntKind.wrap .i64 ((n:Int)-1)=((n-1:Nat):Int):=by rw [wrap64_id (by omega) (by omega)];omega
          have w1:(0:Int)≤((n-1:Nat):Int):=by omega
          have w2:((n-1:Nat):Int)<(n:Int):=by omega
          obtain ⟨_,i1,_,_⟩:=rows6 g (show n-1<n by omega)
          simp only [RT.val,(F13_of _ _ _).1,(F13_of _ _ _).2,b1,if_true,(F43_of g).1,(F43_of g).2.2,b2,(F44_of _ _ _ _ _ _ _).1,(F44_of _ _ _ _ _ _ _).2,b3,Int.ofNat_eq_natCast,w,w1,w2,Int.toNat_natCast,Nat.zero_add,i1,b4,
            decide_true,Bool.and_self,Bool.not_true,cond_true,cond_false]
        · have b3':imB xl xh yl yh al ah=false:=by simpa using b3
          rw [if_neg b3]
          simp only [RT.val,(F13_of _ _ _).1,(F13_of _ _ _).2,b1,if_true,(F43_of g).1,(F43_of g).2.2,b2,(F44_of _ _ _ _ _ _ _).1,(F44_of _ _ _ _ _ _ _).2,b3',decide_true,Bool.not_true,Bool.not_false,cond_true,cond_false]
      · rw [if_neg b2]
        simp only [RT.val,(F13_of _ _ _).1,(F13_of _ _ _).2,b1,if_true,(F43_of g).1,(F43_of g).2.2,b2,decide_true,decide_false,Bool.not_true,Bool.not_false,cond_true,cond_false]
    · rw [if_neg b1]
      have b1':chB hg fl fh=false:=by simpa using b1
      simp only [RT.val,(F13_of _ _ _).1,(F13_of _ _ _).2,b1',Bool.false_eq_true,if_false,cond_true]
      rfl
def sg (f:Nat→Int):Nat→Int
  | 0=>0
  | k+1=>sg f k+f k
theorem sg_congr {f g:Nat→Int}:∀n,(∀i,i<n→f i=g i)→sg f n=sg g n
  | 0,_=>rfl
  | n+1,h=>by
    show sg f n+f n=sg g n+g n
    rw [sg_congr n fun i hi=>h i (by omega),h n (by omega)]
theorem sg_le {f g:Nat→Int}:∀n,(∀i,i<n→f i≤g i)→sg f n≤sg g n
  | 0,_=>Int.le_refl _
  | n+1,h=>Int.add_le_add (sg_le n fun i hi=>h i (by omega)) (h n (by omega))
theorem sg_mul (c:Int)(f:Nat→Int):∀n,c*sg f n=sg (fun i=>c*f i) n
  | 0=>Int.mul_zero _
  | n+1=>by
    show c*(sg f n+f n)=sg (fun i=>c*f i) n+c*f n
    rw [Int.mul_add,sg_mul c f n]
theorem sg_zero:∀n,sg (fun _=>0) n=0
  | 0=>rfl
  | n+1=>by
    show sg (fun _=>0) n+0=0
    rw [sg_zero n];rfl
theorem sg_add (f g:Nat→Int):∀n,sg (fun i=>f i+g i) n=sg f n+sg g n
  | 0=>rfl
  | n+1=>by
    show sg (fun i=>f i+g i) n+(f n+g n)=(sg f n+f n)+(sg g n+g n)
    rw [sg_add f g n];omega
theorem sg_swap (f:Nat→Nat→Int)(m:Nat):∀n,sg (fun i=>sg (fun j=>f i j) m) n=sg (fun j=>sg (fun i=>f i j) n) m
  | 0=>(sg_zero m).symm
  | n+1=>by
    show sg (fun i=>sg (fun j=>f i j) m) n+sg (fun j=>f n j) m=sg (fun j=>sg (fun i=>f i j) n+f n j) m
    rw [sg_swap f m n,sg_add]
theorem sm_eq (c:Array Value)(h:Int)(j:Nat):∀n,sm c h j n=sg (fun k=>getInt c (k*6+j)*dd c h k) n
  | 0=>rfl
  | n+1=>by
    show sm c h j n+_=sg (fun k=>getInt c (k*6+j)*dd c h k) n+_
    rw [sm_eq c h j n]
def ov (c:Array Value)(a b:Int)(j:Nat):Int:=max 0 (min (getInt c (j*6+1)) b-max (getInt c (j*6)) a)
theorem ov_sum {c:Array Value}{n:Nat}(z:∀k,k<n→bdE c k=0) {a b:Int}(ha:0≤a):∀k,k≤n→sg (ov c a b) k=max 0 (min (prv c k) b-a)
  | 0,_=>by
    show (0:Int)=max 0 (min 0 b-a)
    omega
  | k+1,hk=>by
    obtain ⟨e1,e2,_⟩:=bd_of (z k (by omega))
    have ih:=ov_sum z (b:=b) ha k (by omega)
    show sg (ov c a b) k+max 0 (min (getInt c (k*6+1)) b-max (getInt c (k*6)) a)=max 0 (min (getInt c (k*6+1)) b-a)
    rw [ih,← e1]
    omega
theorem dd_sum {A B:Array Value}{n m:Nat}(za:∀k,k<n→bdE A k=0) (zb:∀k,k<m→bdE B k=0) {h:Int}(hB:h≤prv B m) {i:Nat}(hi:i<n) :
    dd A h i=sg (ov B (getInt A (i*6)) (min (getInt A (i*6+1)) h)) m:=by
  have r:=row_of za hi
  rw [ov_sum zb r.f0 m (Nat.le_refl _)]
  unfold dd
  omega
def cvB (A B:Array Value)(i j:Nat):Prop:=getInt A (i*6)<getInt B (j*6+1)→getInt B (j*6)<getInt A (i*6+1) →
  getInt A (i*6+2)≤getInt B (j*6+2)∧getInt B (j*6+3)≤getInt A (i*6+3)∧getInt A (i*6+4)≤getInt B (j*6+4)∧getInt B (j*6+5)≤getInt A (i*6+5)
theorem sm_pair {A B:Array Value}{n m:Nat}(za:∀k,k<n→bdE A k=0) (zb:∀k,k<m→bdE B k=0) {h:Int}(hA:h≤prv A n) (hB:h≤prv B m) {p q:Nat} :
    sm A h p n=sg (fun i=>sg (fun j=>getInt A (i*6+p)*ov B (getInt A (i*6)) (min (getInt A (i*6+1)) h) j) m) n ∧
    sm B h q m=sg (fun i=>sg (fun j=>getInt B (j*6+q)*ov B (getInt A (i*6)) (min (getInt A (i*6+1)) h) j) m) n:=by
  constructor
  · rw [sm_eq]
    refine sg_congr n fun i hi=>?_
    rw [dd_sum za zb hB hi,sg_mul]
  · rw [sm_eq,sg_swap]
    refine sg_congr m fun j hj=>?_
    rw [dd_sum zb za hA hj,sg_mul]
    refine sg_congr n fun i hi=>?_
    congr 1
    unfold ov
    omega
theorem cov_lo {A B:Array Value}{n m:Nat}(za:∀k,k<n→bdE A k=0) (zb:∀k,k<m→bdE B k=0) {h:Int}(hA:h≤prv A n) (hB:h≤prv B m) (cv:∀i,i<n→∀j,j<m→cvB A B i j) {p:Nat}(hp:p=2∨p=4):sm A h p n≤sm B h p m:=by
  obtain ⟨e1,e2⟩:=sm_pair za zb hA hB (p:=p) (q:=p)
  rw [e1,e2]
  refine sg_le n fun i hi=>sg_le m fun j hj=>?_
  have hv:0≤ov B (getInt A (i*6)) (min (getInt A (i*6+1)) h) j:=by unfold ov;omega
  by_cases hz:ov B (getInt A (i*6)) (min (getInt A (i*6+1)) h) j=0
  · rw [hz,Int.mul_zero,Int.mul_zero];exact Int.le_refl _
  · refine mono ?_ hv
    have g:=cv i hi j hj
    unfold cvB at g
    unfold ov at hz
    obtain ⟨g1,g2,g3,g4⟩:=g (by omega) (by omega)
    rcases hp with rfl | rfl<;>assumption
theorem cov_hi {A B:Array Value}{n m:Nat}(za:∀k,k<n→bdE A k=0) (zb:∀k,k<m→bdE B k=0) {h:Int}(hA:h≤prv A n) (hB:h≤prv B m) (cv:∀i,i<n→∀j,j<m→cvB A B i j) {p:Nat}(hp:p=3∨p=5):sm B h p m≤sm A h p n:=by
  obtain ⟨e1,e2⟩:=sm_pair za zb hA hB (p:=p) (q:=p)
  rw [e1,e2]
  refine sg_le n fun i hi=>sg_le m fun j hj=>?_
  have hv:0≤ov B (getInt A (i*6)) (min (getInt A (i*6+1)) h) j:=by unfold ov;omega
  by_cases hz:ov B (getInt A (i*6)) (min (getInt A (i*6+1)) h) j=0
  · rw [hz,Int.mul_zero,Int.mul_zero];exact Int.le_refl _
  · refine mono ?_ hv
    have g:=cv i hi j hj
    unfold cvB at g
    unfold ov at hz
    obtain ⟨g1,g2,g3,g4⟩:=g (by omega) (by omega)
    rcases hp with rfl | rfl<;>assumption
theorem qd_max {q a v:Int}(hv:1≤v) (a1:-1000000000000000000≤a) (a2:a≤1000000000000000000) (h:q*v≤a):q≤qd a v:=by
  obtain ⟨k1,k2,_,_⟩:=qd_bd hv a1 a2
  apply Decidable.byContradiction
  intro hn
  have:=Int.mul_le_mul_of_nonneg_right (show qd a v+1≤q by omega) (show 0≤v by omega)
  rw [Int.add_mul,Int.one_mul,Int.mul_comm]at this
  omega
theorem ru_min {u a v:Int}(hv:1≤v) (a1:-1000000000000000000≤a) (a2:a≤1000000000000000000) (h:a≤u*v):ru a v≤u:=by
  obtain ⟨k1,k2,_,_⟩:=ru_bd hv a1 a2
  apply Decidable.byContradiction
  intro hn
  have:=Int.mul_le_mul_of_nonneg_right (show u+1≤ru a v by omega) (show 0≤v by omega)
  rw [Int.add_mul,Int.one_mul,Int.mul_comm (ru a v)]at this
  omega
theorem lo2_le {a a' fl fh gl gh M:Int}(h1:1≤gl) (h2:gl≤fl) (h3:fl≤fh) (h4:fh≤gh) (ha:a≤a') (a1:-M≤a) (a2:a'≤M) (hM:M≤1000000000000000000):lo2 a gl gh≤lo2 a' fl fh:=by
  obtain ⟨p,_,_⟩:=lo_of (a:=a) (fl:=gl) (fh:=gh) (v:=fl) (M:=M) h1 h2 (by omega) a1 (by omega) hM
  obtain ⟨q,_,_⟩:=lo_of (a:=a) (fl:=gl) (fh:=gh) (v:=fh) (M:=M) h1 (by omega) h4 a1 (by omega) hM
  have x:=qd_max (q:=lo2 a gl gh) (a:=a') (v:=fl) (by omega) (by omega) (by omega) (by omega)
  have y:=qd_max (q:=lo2 a gl gh) (a:=a') (v:=fh) (by omega) (by omega) (by omega) (by omega)
  show lo2 a gl gh≤min (qd a' fl) (qd a' fh)
  omega
theorem hi2_le {a a' fl fh gl gh M:Int}(h1:1≤gl) (h2:gl≤fl) (h3:fl≤fh) (h4:fh≤gh) (ha:a'≤a) (a1:-M≤a') (a2:a≤M) (hM:M≤1000000000000000000):hi2 a' fl fh≤hi2 a gl gh:=by
  obtain ⟨p,_,_⟩:=hi_of (a:=a) (fl:=gl) (fh:=gh) (v:=fl) (M:=M) h1 h2 (by omega) (by omega) a2 hM
  obtain ⟨q,_,_⟩:=hi_of (a:=a) (fl:=gl) (fh:=gh) (v:=fh) (M:=M) h1 (by omega) h4 (by omega) a2 hM
  have x:=ru_min (u:=hi2 a gl gh) (a:=a') (v:=fl) (by omega) (by omega) (by omega) (by omega)
  have y:=ru_min (u:=hi2 a gl gh) (a:=a') (v:=fh) (by omega) (by omega) (by omega) (by omega)
  show max (ru a' fl) (ru a' fh)≤hi2 a gl gh
  omega
section
variable {A B:Array Value}{n m:Nat}
def cvE (A:Array Value)(f t xl xh yl yh:Int)(i:Nat):Int :=
  if getInt A (i*6)<t∧f<getInt A (i*6+1)∧¬(getInt A (i*6+2)≤xl∧xh≤getInt A (i*6+3)∧getInt A (i*6+4)≤yl∧yh≤getInt A (i*6+5)) then 1 else 0
theorem step74 (g:GL I6 6 A n)(few:n≤1000) {f t xl xh yl yh:Int}(k:Nat) (hk:k<n):(rd74_0 ⟨A,0,n,(n:Int),(k:Int),f,t,xl,xh,yl,yh⟩).val =
    some (if cvE A f t xl xh yl yh k=0 then .inl ⟨A,0,n,(n:Int),((k+1:Nat):Int),f,t,xl,xh,yl,yh⟩ else .inr (.k0 false f t xl xh yl yh)):=by
  have hki:(k:Int)<(n:Int):=by omega
  have h0:(0:Int)≤(k:Int):=by omega
  have h3:IntKind.wrap .i64 ((k:Int)+1)=((k+1:Nat):Int):=by rw [wrap64_id (by omega) (by omega)];omega
  have hr:rdOk A I6 (0+k*6)=true:=g.good.2 k hk
  unfold I6 at hr
  unfold cvE
  simp only [rd74_0,RT.val,hki,h0,h3,hr,Int.toNat_natCast,Int.ofNat_eq_natCast,decide_true,Bool.and_self,cond_true]
  simp only [Nat.zero_add,Nat.add_assoc,Nat.reduceAdd]
  by_cases q1:getInt A (k*6)<t<;>by_cases q2:f<getInt A (k*6+1)<;>by_cases q3:getInt A (k*6+2)≤xl<;>by_cases q4:xh≤getInt A (k*6+3)<;>by_cases q5:getInt A (k*6+4)≤yl<;>by_cases q6:yh≤getInt A (k*6+5) <;>
    simp [q1,q2,q3,q4,q5,q6]
theorem F74_of (g:GL I6 6 A n)(few:n≤1000)(f t xl xh yl yh:Int):F74_ok A 0 n f t xl xh yl yh=true∧F74_0 A 0 n f t xl xh yl yh=(fst1 (cvE A f t xl xh yl yh) n 0).isNone:=by
  have z1:¬(n:Int)<(n:Int):=by omega
  have l:L74_0 (X74_0.mk A 0 n (n:Int) 0 f t xl xh yl yh)=some (match fst1 (cvE A f t xl xh yl yh) n 0 with | some (i,r)=>.k0 false f t xl xh yl yh | none=>.k1 f t xl xh yl yh) :=
    loop_fst (rd:=rd74_0) (S:=fun k=>X74_0.mk A 0 n (n:Int) (k:Int) f t xl xh yl yh) (E:=cvE A f t xl xh yl yh) (n:=n) (err:=fun i r=>.k0 false f t xl xh yl yh) (fin:=.k1 f t xl xh yl yh)
      (fun k hk=>step74 g few k hk) (by simp only [rd74_0,RT.val,z1,decide_false,cond_false]) n 0 (by omega)
  have q:F74 A 0 n f t xl xh yl yh=some ⟨(fst1 (cvE A f t xl xh yl yh) n 0).isNone⟩:=by
    unfold F74 rt74
    simp only [RT.val,Int.ofNat_eq_natCast,eqCode_self,cond_true]
    cases hf:fst1 (cvE A f t xl xh yl yh) n 0 with
    | some ir =>
      rw [hf]at l
      simp only [L74_0_k0,Qc0,l,Option.isNone_some,cond_true]
    | none =>
      rw [hf]at l
      simp only [L74_0_k0,L74_0_k1,l,Option.isNone_none,cond_true,cond_false]
  exact ⟨by simp only [F74_ok,q];rfl,by simp only [F74_0,q]⟩
def cwE (A:Array Value)(n:Nat)(B:Array Value)(j:Nat):Int :=
  if (fst1 (cvE A (getInt B (j*6)) (getInt B (j*6+1)) (getInt B (j*6+2)) (getInt B (j*6+3)) (getInt B (j*6+4)) (getInt B (j*6+5))) n 0).isNone=true then 0 else 1
theorem step37 (g:GL I6 6 A n)(few:n≤1000)(g2:GL I6 6 B m)(few2:m≤1000)(k:Nat)(hk:k<m):(rd37_0 ⟨A,0,n,B,0,m,(m:Int),(k:Int)⟩).val =
    some (if cwE A n B k=0 then .inl ⟨A,0,n,B,0,m,(m:Int),((k+1:Nat):Int)⟩ else .inr (.k0 false 0)):=by
  have hki:(k:Int)<(m:Int):=by omega
  have h0:(0:Int)≤(k:Int):=by omega
  have h3:IntKind.wrap .i64 ((k:Int)+1)=((k+1:Nat):Int):=by rw [wrap64_id (by omega) (by omega)];omega
  have hr:rdOk B I6 (0+k*6)=true:=g2.good.2 k hk
  unfold I6 at hr
  unfold cwE
  simp only [rd37_0,RT.val,hki,h0,h3,hr,(F74_of g few _ _ _ _ _ _).1,(F74_of g few _ _ _ _ _ _).2,Int.toNat_natCast,Int.ofNat_eq_natCast,decide_true,Bool.and_self,cond_true]
  simp only [Nat.zero_add,Nat.add_assoc,Nat.reduceAdd]
  cases (fst1 (cvE A (getInt B (k*6)) (getInt B (k*6+1)) (getInt B (k*6+2)) (getInt B (k*6+3)) (getInt B (k*6+4)) (getInt B (k*6+5))) n 0).isNone<;>rfl
theorem F37_of (g:GL I6 6 A n)(g2:GL I6 6 B m):F37_ok A 0 n B 0 m=true∧(F37_1 A 0 n B 0 m=0→F37_0 A 0 n B 0 m=true →
    (bnF A n).2=0∧(bnF B m).2=0∧prv B m≤prv A n∧∀i,i<n→∀j,j<m→cvB A B i j):=by
  by_cases h1:(bnF A n).2=0
  case neg =>
    have q:F37 A 0 n B 0 m=some ⟨false,(bnF A n).2⟩:=by
      unfold F37 rt37
      simp only [RT.val,(F43_of g).1,(F43_of g).2.2,h1,decide_false,Bool.not_false,cond_true]
    exact ⟨by simp only [F37_ok,q];rfl,fun h _=>absurd (by simpa only [F37_1,q] using h) h1⟩
  by_cases h2:(bnF B m).2=0
  case neg =>
    have q:F37 A 0 n B 0 m=some ⟨false,(bnF B m).2⟩:=by
      unfold F37 rt37
      simp only [RT.val,(F43_of g).1,(F43_of g).2.2,(F43_of g2).1,(F43_of g2).2.2,h1,h2,decide_true,decide_false,Bool.not_true,Bool.not_false,cond_true,cond_false]
    exact ⟨by simp only [F37_ok,q];rfl,fun h _=>absurd (by simpa only [F37_1,q] using h) h2⟩
  obtain ⟨n1,n20,za⟩:=bn_of h1
  obtain ⟨m1,m20,zb⟩:=bn_of h2
  have wa:IntKind.wrap .i64 ((n:Int)-1)=((n-1:Nat):Int):=by rw [wrap64_id (by omega) (by omega)];omega
  have wa1:(0:Int)≤((n-1:Nat):Int):=by omega
  have wa2:((n-1:Nat):Int)<(n:Int):=by omega
  have wb:IntKind.wrap .i64 ((m:Int)-1)=((m-1:Nat):Int):=by rw [wrap64_id (by omega) (by omega)];omega
  have wb1:(0:Int)≤((m-1:Nat):Int):=by omega
  have wb2:((m-1:Nat):Int)<(m:Int):=by omega
  obtain ⟨_,ia,_,_⟩:=rows6 g (show n-1<n by omega)
  obtain ⟨_,ib,_,_⟩:=rows6 g2 (show m-1<m by omega)
  have pa:prv A n=getInt A ((n-1)*6+1):=by
    obtain ⟨k,rfl⟩:∃k,n=k+1:=⟨n-1,by omega⟩
    rfl
  have pb:prv B m=getInt B ((m-1)*6+1):=by
    obtain ⟨k,rfl⟩:∃k,m=k+1:=⟨m-1,by omega⟩
    rfl
  by_cases h3:getInt A ((n-1)*6+1)<getInt B ((m-1)*6+1)
  · have q:F37 A 0 n B 0 m=some ⟨false,0⟩:=by
      unfold F37 rt37
      simp only [RT.val,(F43_of g).1,(F43_of g).2.2,(F43_of g2).1,(F43_of g2).2.2,h1,h2,wa,wa1,wa2,ia,wb,wb1,wb2,ib,h3,Int.ofNat_eq_natCast,Int.toNat_natCast,Nat.zero_add,decide_true,decide_false,Bool.and_self,Bool.not_true,cond_true,cond_false]
    exact ⟨by simp only [F37_ok,q];rfl,fun _ h=>absurd h (by simp only [F37_0,q];decide)⟩
  have z1:¬(m:Int)<(m:Int):=by omega
  have l:L37_0 (X37_0.mk A 0 n B 0 m (m:Int) 0)=some (match fst1 (cwE A n B) m 0 with | some (i,r)=>.k0 false 0 | none=>.k1) :=
    loop_fst (rd:=rd37_0) (S:=fun k=>X37_0.mk A 0 n B 0 m (m:Int) (k:Int)) (E:=cwE A n B) (n:=m) (err:=fun i r=>.k0 false 0) (fin:=.k1)
      (fun k hk=>step37 g (by omega) g2 (by omega) k hk) (by simp only [rd37_0,RT.val,z1,decide_false,cond_false]) m 0 (by omega)
  cases hf:fst1 (cwE A n B) m 0 with
  | some ir =>
    rw [hf]at l
    have q:F37 A 0 n B 0 m=some ⟨false,0⟩:=by
      unfold F37 rt37
      simp only [RT.val,(F43_of g).1,(F43_of g).2.2,(F43_of g2).1,(F43_of g2).2.2,h1,h2,wa,wa1,wa2,ia,wb,wb1,wb2,ib,h3,Int.ofNat_eq_natCast,Int.toNat_natCast,Nat.zero_add,L37_0_k0,Qe0,Qe1,l,eqCode_self,decide_true,decide_false,Bool.and_self,Bool.not_true,cond_true,cond_false]
    exact ⟨by simp only [F37_ok,q];rfl,fun _ h=>absurd h (by simp only [F37_0,q];decide)⟩
  | none =>
    rw [hf]at l
    have q:F37 A 0 n B 0 m=some ⟨true,0⟩:=by
      unfold F37 rt37
      simp only [RT.val,(F43_of g).1,(F43_of g).2.2,(F43_of g2).1,(F43_of g2).2.2,h1,h2,wa,wa1,wa2,ia,wb,wb1,wb2,ib,h3,Int.ofNat_eq_natCast,Int.toNat_natCast,Nat.zero_add,L37_0_k0,L37_0_k1,l,eqCode_self,decide_true,decide_false,Bool.and_self,Bool.not_true,cond_true,cond_false]
    refine ⟨by simp only [F37_ok,q];rfl,fun _ _=>⟨h1,h2,by omega,?_⟩⟩
    intro i hi j hj
    have e1:=fst1_none hf j (by omega) (by omega)
    have e2:(fst1 (cvE A (getInt B (j*6)) (getInt B (j*6+1)) (getInt B (j*6+2)) (getInt B (j*6+3)) (getInt B (j*6+4)) (getInt B (j*6+5))) n 0).isNone=true:=by
      apply Decidable.byContradiction
      intro hn
      unfold cwE at e1
      rw [if_neg hn]at e1
      cases e1
    have e3:=fst1_none (Option.isNone_iff_eq_none.1 e2) i (by omega) (by omega)
    intro c1 c2
    apply Decidable.byContradiction
    intro hn
    unfold cvE at e3
    rw [if_pos ⟨c1,c2,hn⟩]at e3
    cases e3
end
end
end Go.Proofs.Ytoghoeebiddblaa
namespace Go.Proofs.Ytoghoeebiddblaa
open Go.Gi Go.RowKit
noncomputable section
set_option maxRecDepth 100000
set_option maxHeartbeats 2000000
theorem wrM {a:Int}(h1:-9000000000000000000≤a) (h2:a≤9000000000000000000):wr a=a:=wrap64_id (by omega) (by omega)
theorem F39_of {a0 a1 a2 a3 a4 a5 a6 b0 b1 b2 b3 b4 b5 b6:Int}(h1:b1≤a1) (h2:a2≤b2) (h3:b3≤a3) (h4:a4≤b4) (h5:b5≤a5) (h6:a6≤b6) :
    F39_ok a0 a1 a2 a3 a4 a5 a6 b0 b1 b2 b3 b4 b5 b6=true∧F39_0 a0 a1 a2 a3 a4 a5 a6 b0 b1 b2 b3 b4 b5 b6=true:=by
  have q:F39 a0 a1 a2 a3 a4 a5 a6 b0 b1 b2 b3 b4 b5 b6=some ⟨true⟩:=by
    unfold F39 rt39
    simp only [RT.val,h1,h2,h3,h4,h5,h6,decide_true,cond_true]
  exact ⟨by simp only [F39_ok,q];rfl,by simp only [F39_0,q]⟩
theorem ld_parts {xl xh yl yh al ah hg fl fh:Int}{c:Array Value}{n:Nat}(h:ldE xl xh yl yh al ah hg fl fh c n=0):(bnF c n).2=0∧imB xl xh yl yh al ah=true∧hg≤getInt c ((n-1)*6+1):=by
  unfold ldE at h
  by_cases h1:chB hg fl fh=true
  · rw [if_pos h1]at h
    by_cases h2:(bnF c n).2=0
    · rw [if_pos h2]at h
      by_cases h3:imB xl xh yl yh al ah=true
      · rw [if_pos h3]at h
        by_cases h4:getInt c ((n-1)*6+1)<hg
        · rw [if_pos h4]at h;cases h
        · exact ⟨h2,h3,by omega⟩
      · rw [if_neg h3]at h;cases h
    · rw [if_neg h2]at h;exact absurd h h2
  · rw [if_neg h1]at h;cases h
theorem prv_last {c:Array Value}{n:Nat}(h:1≤n):prv c n=getInt c ((n-1)*6+1):=by
  obtain ⟨k,rfl⟩:∃k,n=k+1:=⟨n-1,by omega⟩
  rfl
theorem ld_mk {xl xh yl yh al ah hg fl fh:Int}{c:Array Value}{n:Nat}(h1:chB hg fl fh=true) (h2:(bnF c n).2=0) (h3:imB xl xh yl yh al ah=true) (h4:hg≤prv c n):ldE xl xh yl yh al ah hg fl fh c n=0:=by
  obtain ⟨n1,_,_⟩:=bn_of h2
  rw [prv_last n1]at h4
  unfold ldE
  rw [if_pos h1,if_pos h2,if_pos h3,if_neg (by omega)]
theorem true11:True11:=by
  intro pc xl xh yl yh al ah hg fl fh bc bn wc wn _ gc gw
  have q:=F15_eq (pc:=pc) (xl:=xl) (xh:=xh) (yl:=yl) (yh:=yh) (al:=al) (ah:=ah) (hg:=hg) (fl:=fl) (fh:=fh) gc
  obtain ⟨o1,cv⟩:=F37_of gw gc
  have okL:F15_ok pc xl xh yl yh al ah hg fl fh bc 0 bn=true:=by simp only [F15_ok,q];rfl
  by_cases e1:F37_1 wc 0 wn bc 0 bn=0
  case neg =>
    unfold rt11
    simp only [RT.val,o1,okL,e1,decide_false,Bool.not_false,cond_true]
  by_cases h0:ldE xl xh yl yh al ah hg fl fh bc bn=0
  case neg =>
    rw [if_neg h0]at q
    unfold rt11
    simp only [RT.val,o1,okL,e1,F15_7,q,h0,decide_true,decide_false,Bool.not_true,Bool.not_false,cond_true,cond_false]
  rw [if_pos h0]at q
  have e7:F15_7 pc xl xh yl yh al ah hg fl fh bc 0 bn=0:=by simp only [F15_7,q]
  cases e2:F37_0 wc 0 wn bc 0 bn with
  | false =>
    unfold rt11
    simp only [RT.val,o1,okL,e1,e7,e2,decide_true,Bool.not_true,Bool.not_false,cond_true,cond_false]
  | true =>
  obtain ⟨b1,b2,b3,b4⟩:=cv e1 e2
  obtain ⟨p2,p3,p4⟩:=ld_parts h0
  obtain ⟨n1,n20,row,hh,f1,f2,f3,x,y,t⟩:=ld_of h0
  obtain ⟨m1,m20,za⟩:=bn_of b1
  obtain ⟨_,_,zb⟩:=bn_of b2
  rw [← prv_last n1]at p4
  have c1:chB hg fl fh=true:=by
    simp only [chB,inB,lsB,Bool.and_eq_true,decide_eq_true_eq];omega
  have w8:IntKind.wrap .i64 (fl-3)=fl-3:=wrap64_id (by omega) (by omega)
  have w9:IntKind.wrap .i64 (fh+3)=fh+3:=wrap64_id (by omega) (by omega)
  obtain ⟨gl,hgl⟩:∃g,max (1:Int) (fl-3)=g:=⟨_,rfl⟩
  obtain ⟨gh,hgh⟩:∃g,min (10000:Int) (fh+3)=g:=⟨_,rfl⟩
  have c2:chB hg gl gh=true:=by
    simp only [chB,inB,lsB,Bool.and_eq_true,decide_eq_true_eq];omega
  have hw:=ld_mk (xl:=xl) (xh:=xh) (yl:=yl) (yh:=yh) (al:=al) (ah:=ah) c1 b1 p3 (by omega)
  have hv:=ld_mk (xl:=xl) (xh:=xh) (yl:=yl) (yh:=yh) (al:=al) (ah:=ah) c2 b1 p3 (by omega)
  have qw:=F15_eq (pc:=pc) (xl:=xl) (xh:=xh) (yl:=yl) (yh:=yh) (al:=al) (ah:=ah) (hg:=hg) (fl:=fl) (fh:=fh) gw
  have qv:=F15_eq (pc:=pc) (xl:=xl) (xh:=xh) (yl:=yl) (yh:=yh) (al:=al) (ah:=ah) (hg:=hg) (fl:=gl) (fh:=gh) gw
  rw [if_pos hw]at qw
  rw [if_pos hv]at qv
  have rw_:∀k,k<wn→Row wc k:=fun k hk=>row_of za hk
  have s2:=sm_bd hh (j:=2) (by omega) bn (by omega) n20 row
  have s3:=sm_bd hh (j:=3) (by omega) bn (by omega) n20 row
  have s4:=sm_bd hh (j:=4) (by omega) bn (by omega) n20 row
  have s5:=sm_bd hh (j:=5) (by omega) bn (by omega) n20 row
  have t2:=sm_bd hh (j:=2) (by omega) wn (by omega) m20 rw_
  have t3:=sm_bd hh (j:=3) (by omega) wn (by omega) m20 rw_
  have t4:=sm_bd hh (j:=4) (by omega) wn (by omega) m20 rw_
  have t5:=sm_bd hh (j:=5) (by omega) wn (by omega) m20 rw_
  have u2:=cov_lo za zb (h:=hg) (by omega) (by omega) b4 (p:=2) (by omega)
  have u3:=cov_hi za zb (h:=hg) (by omega) (by omega) b4 (p:=3) (by omega)
  have u4:=cov_lo za zb (h:=hg) (by omega) (by omega) b4 (p:=4) (by omega)
  have u5:=cov_hi za zb (h:=hg) (by omega) (by omega) b4 (p:=5) (by omega)
  have bnd:∀{a gl gh:Int},1≤gl→gl≤gh→-40000000000000≤a→a≤40000000000000→(-40000000000000≤lo2 a gl gh∧lo2 a gl gh≤40000000000000)∧(-40000000000000≤hi2 a gl gh∧hi2 a gl gh≤40000000000000):=by
    intro a gl gh g1 g2 a1 a2
    exact ⟨(lo_of (v:=gl) (M:=40000000000000) g1 (Int.le_refl _) g2 a1 a2 (by omega)).2,(hi_of (v:=gl) (M:=40000000000000) g1 (Int.le_refl _) g2 a1 a2 (by omega)).2⟩
  have wlo:∀{b a gl gh:Int},-2000000000≤b→b≤2000000000→1≤gl→gl≤gh→-40000000000000≤a→a≤40000000000000→wr (b+lo2 a gl gh)=b+lo2 a gl gh:=by
    intro b a gl gh k1 k2 g1 g2 a1 a2
    have:=(bnd g1 g2 a1 a2).1
    exact wrM (by omega) (by omega)
  have whi:∀{b a gl gh:Int},-2000000000≤b→b≤2000000000→1≤gl→gl≤gh→-40000000000000≤a→a≤40000000000000→wr (b+hi2 a gl gh)=b+hi2 a gl gh:=by
    intro b a gl gh k1 k2 g1 g2 a1 a2
    have:=(bnd g1 g2 a1 a2).2
    exact wrM (by omega) (by omega)
  have lo_:∀{b a a' k1 k2 l1 l2:Int},-2000000000≤b→b≤2000000000→1≤k1→k1≤l1→l1≤l2→l2≤k2→-40000000000000≤a→a≤40000000000000→-40000000000000≤a'→a'≤40000000000000→a≤a'→wr (b+lo2 a k1 k2)≤wr (b+lo2 a' l1 l2):=by
    intro b a a' k1 k2 l1 l2 z1 z2 z3 z4 z5 z6 z7 z8 z9 z10 z11
    rw [wlo z1 z2 z3 (by omega) z7 z8,wlo z1 z2 (by omega) z5 z9 z10]
    have:=lo2_le (M:=40000000000000) z3 z4 z5 z6 z11 z7 z10 (by omega)
    omega
  have hi_:∀{b a a' k1 k2 l1 l2:Int},-2000000000≤b→b≤2000000000→1≤k1→k1≤l1→l1≤l2→l2≤k2→-40000000000000≤a→a≤40000000000000→-40000000000000≤a'→a'≤40000000000000→a'≤a→wr (b+hi2 a' l1 l2)≤wr (b+hi2 a k1 k2):=by
    intro b a a' k1 k2 l1 l2 z1 z2 z3 z4 z5 z6 z7 z8 z9 z10 z11
    rw [whi z1 z2 z3 (by omega) z7 z8,whi z1 z2 (by omega) z5 z9 z10]
    have:=hi2_le (M:=40000000000000) z3 z4 z5 z6 z11 z9 z8 (by omega)
    omega
  have h1:=F39_of (a0:=pc) (b0:=pc) (lo_ (b:=xl) (k1:=fl) (k2:=fh) (l1:=fl) (l2:=fh) (by omega) (by omega) f1 (by omega) f2 (by omega) (by omega) (by omega) (by omega) (by omega) u2) (hi_ (b:=xh) (k1:=fl) (k2:=fh) (l1:=fl) (l2:=fh) (by omega) (by omega) f1 (by omega) f2 (by omega) (by omega) (by omega) (by omega) (by omega) u3)
    (lo_ (b:=yl) (k1:=fl) (k2:=fh) (l1:=fl) (l2:=fh) (by omega) (by omega) f1 (by omega) f2 (by omega) (by omega) (by omega) (by omega) (by omega) u4) (hi_ (b:=yh) (k1:=fl) (k2:=fh) (l1:=fl) (l2:=fh) (by omega) (by omega) f1 (by omega) f2 (by omega) (by omega) (by omega) (by omega) (by omega) u5)
    (Int.le_refl (wr (al+lo2 hg fl fh))) (Int.le_refl (wr (ah+hi2 hg fl fh)))
  have h2:=F39_of (a0:=pc) (b0:=pc) (lo_ (b:=xl) (a:=sm wc hg 2 wn) (a':=sm wc hg 2 wn) (k1:=gl) (k2:=gh) (l1:=fl) (l2:=fh) (by omega) (by omega) (by omega) (by omega) f2 (by omega) (by omega) (by omega) (by omega) (by omega) (Int.le_refl _)) (hi_ (b:=xh) (a:=sm wc hg 3 wn) (a':=sm wc hg 3 wn) (k1:=gl) (k2:=gh) (l1:=fl) (l2:=fh) (by omega) (by omega) (by omega) (by omega) f2 (by omega) (by omega) (by omega) (by omega) (by omega) (Int.le_refl _))
    (lo_ (b:=yl) (a:=sm wc hg 4 wn) (a':=sm wc hg 4 wn) (k1:=gl) (k2:=gh) (l1:=fl) (l2:=fh) (by omega) (by omega) (by omega) (by omega) f2 (by omega) (by omega) (by omega) (by omega) (by omega) (Int.le_refl _)) (hi_ (b:=yh) (a:=sm wc hg 5 wn) (a':=sm wc hg 5 wn) (k1:=gl) (k2:=gh) (l1:=fl) (l2:=fh) (by omega) (by omega) (by omega) (by omega) f2 (by omega) (by omega) (by omega) (by omega) (by omega) (Int.le_refl _))
    (lo_ (b:=al) (a:=hg) (a':=hg) (k1:=gl) (k2:=gh) (l1:=fl) (l2:=fh) (by omega) (by omega) (by omega) (by omega) f2 (by omega) (by omega) (by omega) (by omega) (by omega) (Int.le_refl _)) (hi_ (b:=ah) (a:=hg) (a':=hg) (k1:=gl) (k2:=gh) (l1:=fl) (l2:=fh) (by omega) (by omega) (by omega) (by omega) f2 (by omega) (by omega) (by omega) (by omega) (by omega) (Int.le_refl _))
  have okW:F15_ok pc xl xh yl yh al ah hg fl fh wc 0 wn=true:=by simp only [F15_ok,qw];rfl
  have okV:F15_ok pc xl xh yl yh al ah hg gl gh wc 0 wn=true:=by simp only [F15_ok,qv];rfl
  unfold rt11
  simp only [RT.val,o1,okL,e1,e7,e2,w8,w9,hgl,hgh,okW,okV,decide_true,Bool.not_true,cond_true,cond_false]
  simp only [F15_0,F15_1,F15_2,F15_3,F15_4,F15_5,F15_6,F15_7,q,qw,qv,h1.1,h1.2,h2.1,h2.2,decide_true,cond_true]
theorem recoverWiderProved:Rows.RecoverWiderSaid:=said11 true11
end
end Go.Proofs.Ytoghoeebiddblaa
