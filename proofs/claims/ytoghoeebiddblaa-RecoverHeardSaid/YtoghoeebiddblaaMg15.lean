/- RecoverHeard proved: a place of the area that agrees with all fixes is in one of the cells, and in no other one; each cell is a part of the area, for any task and place. Conditions: none. -/
import Derived.Test.YtoghoeebiddblaaMg14
import Derived.Test.YtoghoeebiddblaaMg12
import Derived.Test.YtoghoeebiddblaaMg13
set_option linter.unusedVariables false
set_option linter.unusedSimpArgs false
namespace Go.Proofs.Ytoghoeebiddblaa
open Go.Gi Go.RowKit
noncomputable section
set_option maxRecDepth 100000
set_option maxHeartbeats 1000000
def rowL (xl xh yl yh sz:Int)(fc:Array Value)(fn:Nat)(oc:Array Value)(on_:Nat)(row:Nat):Nat→Nat→List Cel
  | 0,_=>[]
  | m+1,k=>if rlB fc fn (sLo xl sz k) (sHi xl xh sz k) (sLo yl sz row) (sHi yl yh sz row)=true then rowL xl xh yl yh sz fc fn oc on_ row m (k+1)
    else ⟨sLo xl sz k,sHi xl xh sz k,sLo yl sz row,sHi yl yh sz row,opn oc on_ (sLo xl sz k) (sHi xl xh sz k) (sLo yl sz row) (sHi yl yh sz row)⟩::rowL xl xh yl yh sz fc fn oc on_ row m (k+1)
def allL (xl xh yl yh sz:Int)(fc:Array Value)(fn:Nat)(oc:Array Value)(on_:Nat)(W:Nat):Nat→Nat→List Cel
  | 0,_=>[]
  | m+1,k=>rowL xl xh yl yh sz fc fn oc on_ k W 0++allL xl xh yl yh sz fc fn oc on_ W m (k+1)
section
variable {xl xh yl yh sz:Int}{fc:Array Value}{fn:Nat}{oc:Array Value}{on_:Nat}{bx b_y st sp fu lk tu:Int}{W H:Nat}
theorem rowL_len (row:Nat):∀m k,(rowL xl xh yl yh sz fc fn oc on_ row m k).length≤m
  | 0,_=>Nat.le_refl _
  | m+1,k=>by
    unfold rowL
    have:=rowL_len row m (k+1)
    split
    · omega
    · simp only [List.length_cons];omega
theorem ar_of (g:Grid xl xh yl yh sz W H) {c r:Nat}(hc:c<W) (hr:r<H):Ar (sLo xl sz c) (sHi xl xh sz c) (sLo yl sz r) (sHi yl yh sz r):=by
  obtain ⟨a1,a2,a3,a4,a5⟩:=strip_in g.x.1 g.s.1 g.w.2 hc
  obtain ⟨b1,b2,b3,b4,b5⟩:=strip_in g.y.1 g.s.1 g.h.2 hr
  have:=g.x
  have:=g.y
  exact ⟨by omega,by omega,by omega,by omega⟩
def endC (L:List Cel)(row:Nat)(H:Nat)(xl xh yl yh sz:Int)(fc:Array Value)(fn:Nat)(oc:Array Value)(on_:Nat)(bx b_y st sp fu lk tu:Int):D66_1:=match L with
  | []=>.k0 (H:Int) (row:Int) xl xh yl yh sz fc 0 fn oc 0 on_ bx b_y st sp fu lk tu
  | a::r=>.k1 (arrC (a::r)) (a::r).length (H:Int) (row:Int) xl xh yl yh sz fc 0 fn oc 0 on_ bx b_y st sp fu lk tu
theorem loop66_1 (gf:GL I5 5 fc fn)(fewf:fn≤1000)(z:∀k,k<fn→fxC fc k=0)(go:GL S6 6 oc on_)(fewo:on_≤1000)(g:Grid xl xh yl yh sz W H) {row:Nat}(hr:row<H) :
    ∀(m c:Nat) (L:List Cel),c+m=W→L.length+m≤1000 →
    loopR rd66_1 ⟨encC L,(row:Int),(H:Int),(row:Int),(W:Int),(c:Int),xl,xh,yl,yh,sz,fc,0,fn,oc,0,on_,bx,b_y,st,sp,fu,lk,tu⟩ =
    some (endC (L++rowL xl xh yl yh sz fc fn oc on_ row m c) row H xl xh yl yh sz fc fn oc on_ bx b_y st sp fu lk tu)
  | 0,c,L,e,_=>by
    obtain rfl:c=W:=by omega
    have z1:¬(c:Int)<(c:Int):=by omega
    rw [show L++rowL xl xh yl yh sz fc fn oc on_ row 0 c=L from List.append_nil L]
    cases L with
    | nil=>exact loopR_done (by simp only [encC,rd66_1,RT.val,z1,decide_false,cond_false];rfl)
    | cons a r=>exact loopR_done (by simp only [encC,rd66_1,RT.val,z1,allFz_arrC,decide_false,cond_true,cond_false];rfl)
  | m+1,c,L,e,hl=>by
    have hc:c<W:=by omega
    have hW:W≤60:=by
      have:=Nat.mul_le_mul_left W g.h1
      have:=g.n
      omega
    have hki:(c:Int)<(W:Int):=by omega
    have h3:IntKind.wrap .i64 ((c:Int)+1)=((c+1:Nat):Int):=by rw [wrap64_id (by omega) (by omega)];omega
    have ar:=ar_of g hc hr
    obtain ⟨x1,x2⟩:=F87_of g.x.1 g.x.2.1 g.x.2.2 g.s g.w.2 hc
    obtain ⟨y1,y2⟩:=F87_of g.y.1 g.y.2.1 g.y.2.2 g.s g.h.2 hr
    obtain ⟨r1,r2⟩:=F88_of (xl:=xl) (xh:=xh) (yl:=yl) (yh:=yh) (sz:=sz) (oc:=oc) (on_:=on_) (bx:=bx) (b_y:=b_y) (st:=st) (sp:=sp) (fu:=fu) (lk:=lk) (tu:=tu) gf fewf ar z
    obtain ⟨o1,o2⟩:=F89_of (xl:=xl) (xh:=xh) (yl:=yl) (yh:=yh) (sz:=sz) (fc:=fc) (fn:=fn) (bx:=bx) (b_y:=b_y) (st:=st) (sp:=sp) (fu:=fu) (lk:=lk) (tu:=tu) (p:=sLo xl sz c) (q:=sHi xl xh sz c) (r:=sLo yl sz row) (s:=sHi yl yh sz row) go fewo
    unfold rowL
    cases hb:rlB fc fn (sLo xl sz c) (sHi xl xh sz c) (sLo yl sz row) (sHi yl yh sz row) with
    | true =>
      rw [if_pos rfl]
      refine (loopR_next ?_).trans (loop66_1 gf fewf z go fewo g hr m (c+1) L (by omega) (by omega))
      cases L with
      | nil=>simp only [encC,rd66_1,RT.val,hki,h3,x1,x2,y1,y2,r1,r2,hb,decide_true,Bool.not_true,cond_true,cond_false]
      | cons a r=>simp only [encC,rd66_1,RT.val,hki,h3,x1,x2,y1,y2,r1,r2,hb,allFz_arrC,decide_true,Bool.not_true,cond_true,cond_false]
    | false =>
      rw [if_neg (by decide)]
      have hlist:∀b:Cel,L++b::rowL xl xh yl yh sz fc fn oc on_ row m (c+1)=(L++[b])++rowL xl xh yl yh sz fc fn oc on_ row m (c+1):=fun b=>by simp
      rw [hlist]
      refine (loopR_next ?_).trans (loop66_1 gf fewf z go fewo g hr m (c+1) _ (by omega) (by simp only [List.length_append,List.length_cons,List.length_nil];omega))
      cases L with
      | nil =>
        simp only [encC,rd66_1,RT.val,hki,h3,x1,x2,y1,y2,r1,r2,hb,o1,o2,decide_true,Bool.not_false,cond_true,cond_false]
        rfl
      | cons a r =>
        have k1:((a::r).length+1)*40≤140737488355328:=by omega
        have k2:(a::r).length+1≤4611686018427387904:=by omega
        have k3:0+(a::r).length*5≤Array.size (arrC (a::r)):=by rw [size_arrC];omega
        have ap:=apB_arrC (a::r) ⟨sLo xl sz c,sHi xl xh sz c,sLo yl sz row,sHi yl yh sz row,opn oc on_ (sLo xl sz c) (sHi xl xh sz c) (sLo yl sz row) (sHi yl yh sz row)⟩
        unfold Cel.row at ap
        simp only [encC,rd66_1,RT.val,hki,h3,x1,x2,y1,y2,r1,r2,hb,o1,o2,k1,k2,k3,ap,allFz_arrC,decide_true,Bool.and_self,Bool.not_false,cond_true,cond_false]
        show some (Sum.inl (X66_1.mk _ _ _ _ _ _ _ _ _ _ _ _ _ _ _ _ _ _ _ _ _ _ _ _))=some (Sum.inl (X66_1.mk _ _ _ _ _ _ _ _ _ _ _ _ _ _ _ _ _ _ _ _ _ _ _ _))
        simp only [List.length_append,List.length_cons,List.length_nil,List.cons_append]
def endCp (L:List Cel)(row:Nat)(H:Nat)(xl xh yl yh sz:Int)(fc:Array Value)(fn:Nat)(oc:Array Value)(on_:Nat)(bx b_y st sp fu lk tu:Int):D66_1p:=match L with
  | []=>.k0 (H:Int) (row:Int) xl xh yl yh sz fc 0 fn oc 0 on_ bx b_y st sp fu lk tu
  | a::r=>.k1 (arrC (a::r)) (a::r).length (H:Int) (row:Int) xl xh yl yh sz fc 0 fn oc 0 on_ bx b_y st sp fu lk tu
theorem loop66_1p (gf:GL I5 5 fc fn)(fewf:fn≤1000)(z:∀k,k<fn→fxC fc k=0)(go:GL S6 6 oc on_)(fewo:on_≤1000)(g:Grid xl xh yl yh sz W H) {row:Nat}(hr:row<H) :
    ∀(m c:Nat) (L:List Cel),c+m=W→L.length+m≤1000 →
    loopR rd66_1p ⟨encC L,(row:Int),(H:Int),(row:Int),(W:Int),(c:Int),xl,xh,yl,yh,sz,fc,0,fn,oc,0,on_,bx,b_y,st,sp,fu,lk,tu⟩ =
    some (endCp (L++rowL xl xh yl yh sz fc fn oc on_ row m c) row H xl xh yl yh sz fc fn oc on_ bx b_y st sp fu lk tu)
  | 0,c,L,e,_=>by
    obtain rfl:c=W:=by omega
    have z1:¬(c:Int)<(c:Int):=by omega
    rw [show L++rowL xl xh yl yh sz fc fn oc on_ row 0 c=L from List.append_nil L]
    cases L with
    | nil=>exact loopR_done (by simp only [encC,rd66_1p,RT.val,z1,decide_false,cond_false];rfl)
    | cons a r=>exact loopR_done (by simp only [encC,rd66_1p,RT.val,z1,allFz_arrC,decide_false,cond_true,cond_false];rfl)
  | m+1,c,L,e,hl=>by
    have hc:c<W:=by omega
    have hW:W≤60:=by
      have:=Nat.mul_le_mul_left W g.h1
      have:=g.n
      omega
    have hki:(c:Int)<(W:Int):=by omega
    have h3:IntKind.wrap .i64 ((c:Int)+1)=((c+1:Nat):Int):=by rw [wrap64_id (by omega) (by omega)];omega
    have ar:=ar_of g hc hr
    obtain ⟨x1,x2⟩:=F87_of g.x.1 g.x.2.1 g.x.2.2 g.s g.w.2 hc
    obtain ⟨y1,y2⟩:=F87_of g.y.1 g.y.2.1 g.y.2.2 g.s g.h.2 hr
    obtain ⟨r1,r2⟩:=F88_of (xl:=xl) (xh:=xh) (yl:=yl) (yh:=yh) (sz:=sz) (oc:=oc) (on_:=on_) (bx:=bx) (b_y:=b_y) (st:=st) (sp:=sp) (fu:=fu) (lk:=lk) (tu:=tu) gf fewf ar z
    obtain ⟨o1,o2⟩:=F89_of (xl:=xl) (xh:=xh) (yl:=yl) (yh:=yh) (sz:=sz) (fc:=fc) (fn:=fn) (bx:=bx) (b_y:=b_y) (st:=st) (sp:=sp) (fu:=fu) (lk:=lk) (tu:=tu) (p:=sLo xl sz c) (q:=sHi xl xh sz c) (r:=sLo yl sz row) (s:=sHi yl yh sz row) go fewo
    unfold rowL
    cases hb:rlB fc fn (sLo xl sz c) (sHi xl xh sz c) (sLo yl sz row) (sHi yl yh sz row) with
    | true =>
      rw [if_pos rfl]
      refine (loopR_next ?_).trans (loop66_1p gf fewf z go fewo g hr m (c+1) L (by omega) (by omega))
      cases L with
      | nil=>simp only [encC,rd66_1p,RT.val,hki,h3,x1,x2,y1,y2,r1,r2,hb,decide_true,Bool.not_true,cond_true,cond_false]
      | cons a r=>simp only [encC,rd66_1p,RT.val,hki,h3,x1,x2,y1,y2,r1,r2,hb,allFz_arrC,decide_true,Bool.not_true,cond_true,cond_false]
    | false =>
      rw [if_neg (by decide)]
      have hlist:∀b:Cel,L++b::rowL xl xh yl yh sz fc fn oc on_ row m (c+1)=(L++[b])++rowL xl xh yl yh sz fc fn oc on_ row m (c+1):=fun b=>by simp
      rw [hlist]
      refine (loopR_next ?_).trans (loop66_1p gf fewf z go fewo g hr m (c+1) _ (by omega) (by simp only [List.length_append,List.length_cons,List.length_nil];omega))
      cases L with
      | nil =>
        simp only [encC,rd66_1p,RT.val,hki,h3,x1,x2,y1,y2,r1,r2,hb,o1,o2,decide_true,Bool.not_false,cond_true,cond_false]
        rfl
      | cons a r =>
        have k1:((a::r).length+1)*40≤140737488355328:=by omega
        have k2:(a::r).length+1≤4611686018427387904:=by omega
        have k3:0+(a::r).length*5≤Array.size (arrC (a::r)):=by rw [size_arrC];omega
        have ap:=apB_arrC (a::r) ⟨sLo xl sz c,sHi xl xh sz c,sLo yl sz row,sHi yl yh sz row,opn oc on_ (sLo xl sz c) (sHi xl xh sz c) (sLo yl sz row) (sHi yl yh sz row)⟩
        unfold Cel.row at ap
        simp only [encC,rd66_1p,RT.val,hki,h3,x1,x2,y1,y2,r1,r2,hb,o1,o2,k1,k2,k3,ap,allFz_arrC,decide_true,Bool.and_self,Bool.not_false,cond_true,cond_false]
        show some (Sum.inl (X66_1p.mk _ _ _ _ _ _ _ _ _ _ _ _ _ _ _ _ _ _ _ _ _ _ _ _))=some (Sum.inl (X66_1p.mk _ _ _ _ _ _ _ _ _ _ _ _ _ _ _ _ _ _ _ _ _ _ _ _))
        simp only [List.length_append,List.length_cons,List.length_nil,List.cons_append]
def endO (L:List Cel)(xl xh yl yh sz:Int)(fc:Array Value)(fn:Nat)(oc:Array Value)(on_:Nat)(bx b_y st sp fu lk tu:Int):D66_0:=match L with
  | []=>.k0 xl xh yl yh sz fc 0 fn oc 0 on_ bx b_y st sp fu lk tu
  | a::r=>.k1 (arrC (a::r)) (a::r).length xl xh yl yh sz fc 0 fn oc 0 on_ bx b_y st sp fu lk tu
theorem loop66_0 (gf:GL I5 5 fc fn)(fewf:fn≤1000)(z:∀k,k<fn→fxC fc k=0)(go:GL S6 6 oc on_)(fewo:on_≤1000)(g:Grid xl xh yl yh sz W H) :
    ∀(m r:Nat) (L:List Cel),r+m=H→L.length+m*W≤900 →
    loopR rd66_0 ⟨encC L,(H:Int),(r:Int),xl,xh,yl,yh,sz,fc,0,fn,oc,0,on_,bx,b_y,st,sp,fu,lk,tu⟩ =
    some (endO (L++allL xl xh yl yh sz fc fn oc on_ W m r) xl xh yl yh sz fc fn oc on_ bx b_y st sp fu lk tu)
  | 0,r,L,e,_=>by
    obtain rfl:r=H:=by omega
    have z1:¬(r:Int)<(r:Int):=by omega
    rw [show L++allL xl xh yl yh sz fc fn oc on_ W 0 r=L from List.append_nil L]
    cases L with
    | nil=>exact loopR_done (by simp only [encC,rd66_0,RT.val,z1,decide_false,cond_false];rfl)
    | cons a s=>exact loopR_done (by simp only [encC,rd66_0,RT.val,z1,allFz_arrC,decide_false,cond_true,cond_false];rfl)
  | m+1,r,L,e,hl=>by
    have hr:r<H:=by omega
    have hW:W≤60:=by
      have:=Nat.mul_le_mul_left W g.h1
      have:=g.n
      omega
    have hH:H≤60:=by
      have:=Nat.mul_le_mul_right H g.w1
      have:=g.n
      omega
    rw [Nat.add_mul,Nat.one_mul]at hl
    have hki:(r:Int)<(H:Int):=by omega
    have h3:IntKind.wrap .i64 ((r:Int)+1)=((r+1:Nat):Int):=by rw [wrap64_id (by omega) (by omega)];omega
    have hs0:sz≠0:=by have:=g.s;omega
    obtain ⟨s1,s2⟩:=F82_of xl xh sz hs0
    rw [g.w.1]at s2
    have rl:=rowL_len (xl:=xl) (xh:=xh) (yl:=yl) (yh:=yh) (sz:=sz) (fc:=fc) (fn:=fn) (oc:=oc) (on_:=on_) r W 0
    have hlist:L++allL xl xh yl yh sz fc fn oc on_ W (m+1) r=(L++rowL xl xh yl yh sz fc fn oc on_ r W 0)++allL xl xh yl yh sz fc fn oc on_ W m (r+1):=by
      show L++(rowL xl xh yl yh sz fc fn oc on_ r W 0++allL xl xh yl yh sz fc fn oc on_ W m (r+1))=_
      rw [List.append_assoc]
    rw [hlist]
    refine (loopR_next ?_).trans (loop66_0 gf fewf z go fewo g m (r+1) _ (by omega) (by rw [List.length_append];omega))
    cases L with
    | nil =>
      have l:L66_1 (X66_1.mk none (r:Int) (H:Int) (r:Int) (W:Int) 0 xl xh yl yh sz fc 0 fn oc 0 on_ bx b_y st sp fu lk tu)=_:=loop66_1 gf fewf z go fewo g hr W 0 [] (by omega) (by simp only [List.length_nil];omega)
      rw [List.nil_append]at l ⊢
      cases hq:rowL xl xh yl yh sz fc fn oc on_ r W 0 with
      | nil =>
        rw [hq]at l
        simp only [encC,rd66_0,RT.val,hki,h3,s1,s2,L66_1_k0,Qi0,Qi1,Qi2,Qi3,Qi4,Qi5,Qi6,Qi7,Qi8,Qi9,Qi10,Qi11,Qi12,Qi13,Qi14,Qi15,Qi16,Qi17,Qi18,Qi19,l,endC,eqCode_self,decide_true,cond_true]
      | cons a s =>
        rw [hq]at l
        simp only [encC,rd66_0,RT.val,hki,h3,s1,s2,L66_1_k0,L66_1_k1,Qj0,Qj1,Qj2,Qj3,Qj4,Qj5,Qj6,Qj7,Qj8,Qj9,Qj10,Qj11,Qj12,Qj13,Qj14,Qj15,Qj16,Qj17,Qj18,Qj19,Qj20,Qj21,l,endC,allFz_arrC,eqCode_self,decide_true,cond_true,cond_false]
    | cons b t =>
      have l:L66_1p (X66_1p.mk (some (arrC (b::t),(b::t).length)) (r:Int) (H:Int) (r:Int) (W:Int) 0 xl xh yl yh sz fc 0 fn oc 0 on_ bx b_y st sp fu lk tu)=_:=loop66_1p gf fewf z go fewo g hr W 0 (b::t) (by omega) (by omega)
      rw [List.cons_append]at l
      simp only [encC,rd66_0,RT.val,hki,h3,s1,s2,L66_1p_k0,L66_1p_k1,Ql0,Ql1,Ql2,Ql3,Ql4,Ql5,Ql6,Ql7,Ql8,Ql9,Ql10,Ql11,Ql12,Ql13,Ql14,Ql15,Ql16,Ql17,Ql18,Ql19,Ql20,Ql21,l,endCp,allFz_arrC,eqCode_self,decide_true,cond_true,cond_false]
      rfl
theorem allL_len:∀m r,(allL xl xh yl yh sz fc fn oc on_ W m r).length≤m*W
  | 0,_=>Nat.zero_le _
  | m+1,r=>by
    have a:=allL_len m (r+1)
    have b:=rowL_len (xl:=xl) (xh:=xh) (yl:=yl) (yh:=yh) (sz:=sz) (fc:=fc) (fn:=fn) (oc:=oc) (on_:=on_) r W 0
    show (rowL xl xh yl yh sz fc fn oc on_ r W 0++allL xl xh yl yh sz fc fn oc on_ W m (r+1)).length≤_
    rw [List.length_append,Nat.add_mul,Nat.one_mul]
    omega
theorem F66_of (gf:GL I5 5 fc fn)(fewf:fn≤1000)(z:∀k,k<fn→fxC fc k=0)(go:GL S6 6 oc on_)(fewo:on_≤1000)(g:Grid xl xh yl yh sz W H) :
    F66 xl xh yl yh sz fc 0 fn oc 0 on_ bx b_y st sp fu lk tu=some ⟨arrC (allL xl xh yl yh sz fc fn oc on_ W H 0),0,(allL xl xh yl yh sz fc fn oc on_ W H 0).length⟩:=by
  have hs0:sz≠0:=by have:=g.s;omega
  obtain ⟨s1,s2⟩:=F82_of yl yh sz hs0
  rw [g.h.1]at s2
  have hn:H*W≤60:=by rw [Nat.mul_comm];exact g.n
  have l:L66_0 (X66_0.mk none (H:Int) 0 xl xh yl yh sz fc 0 fn oc 0 on_ bx b_y st sp fu lk tu)=_:=loop66_0 gf fewf z go fewo g H 0 [] (by omega) (by simp only [List.length_nil];omega)
  rw [List.nil_append]at l
  have hY:Y66_0 xl xh yl yh sz fc 0 fn oc 0 on_ bx b_y st sp fu lk tu=X66_0.mk none (H:Int) 0 xl xh yl yh sz fc 0 fn oc 0 on_ bx b_y st sp fu lk tu:=by unfold Y66_0;rw [s2]
  unfold F66 rt66
  cases hq:allL xl xh yl yh sz fc fn oc on_ W H 0 with
  | nil =>
    rw [hq]at l
    simp only [RT.val,s1,hY,L66_0_k0,l,endO,eqCode_self,cond_true]
    rfl
  | cons a r =>
    rw [hq]at l
    have k3:0+(a::r).length*5≤Array.size (arrC (a::r)):=by rw [size_arrC];omega
    simp only [RT.val,s1,hY,L66_0_k0,L66_0_k1,Qn0,Qn1,l,endO,allFz_arrC,k3,eqCode_self,decide_true,Bool.and_self,cond_true,cond_false]
end
theorem fst1_noneR {E:Nat→Int}:∀{m k:Nat},fst1 E m k=none→∀j,k≤j→j<k+m→E j=0
  | 0,k,h,j,h1,h2=>by omega
  | m+1,k,h,j,h1,h2=>by
    unfold fst1 at h
    by_cases he:E k=0
    · rw [if_pos he]at h
      rcases Nat.eq_or_lt_of_le h1 with rfl | h3
      · exact he
      · exact fst1_noneR h j h3 (by omega)
    · rw [if_neg he]at h;cases h
theorem fst1_at {E:Nat→Int}:∀{m k i:Nat}{r:Int},fst1 E m k=some (i,r)→k≤i∧i<k+m∧E i=r∧r≠0∧∀j,k≤j→j<i→E j=0
  | 0,k,i,r,h=>by cases h
  | m+1,k,i,r,h=>by
    unfold fst1 at h
    by_cases he:E k=0
    · rw [if_pos he]at h
      obtain ⟨a,b,c,d,e⟩:=fst1_at h
      refine ⟨by omega,by omega,c,d,fun j h1 h2=>?_⟩
      rcases Nat.eq_or_lt_of_le h1 with rfl | h3
      · exact he
      · exact e j h3 h2
    · rw [if_neg he]at h
      cases h
      exact ⟨Nat.le_refl _,by omega,rfl,he,fun j h1 h2=>by omega⟩
def cels (xl xh yl yh sz:Int)(fc:Array Value)(fn:Nat)(oc:Array Value)(on_:Nat):List Cel:=allL xl xh yl yh sz fc fn oc on_ (str xl xh sz).toNat (str yl yh sz).toNat 0
section
variable {xl xh yl yh sz:Int}{fc:Array Value}{fn:Nat}{oc:Array Value}{on_:Nat}{bx b_y st sp fu lk tu:Int}{x y:Int}
structure Tsk (xl xh yl yh sz:Int) (fc:Array Value) (fn:Nat) (oc:Array Value) (on_:Nat) (W H:Nat):Prop where
  g:Grid xl xh yl yh sz W H
  f6:fn≤6
  z:∀k,k<fn→fxC fc k=0
  o6:on_≤6
  c:cels xl xh yl yh sz fc fn oc on_=allL xl xh yl yh sz fc fn oc on_ W H 0
theorem tsk_of (h:(ckR xl xh yl yh sz fc fn oc on_ bx b_y st sp fu lk tu).2.2=0):∃W H,Tsk xl xh yl yh sz fc fn oc on_ W H:=by
  unfold ckR at h
  by_cases h1:grE xl xh yl yh sz=0
  · rw [if_pos h1]at h
    by_cases h2:(fiF fc fn).2=0
    · rw [if_pos h2]at h
      by_cases h3:(owF oc on_).2=0
      · obtain ⟨W,H,g⟩:=grid_of h1
        refine ⟨W,H,g,?_,?_,?_,?_⟩
        · unfold fiF at h2
          by_cases h6:6<fn
          · rw [if_pos h6]at h2;cases h2
          · omega
        · unfold fiF at h2
          by_cases h6:6<fn
          · rw [if_pos h6]at h2;cases h2
          · rw [if_neg h6]at h2
            cases hf:fst1 (fxC fc) fn 0 with
            | some ir =>
              obtain ⟨i,r⟩:=ir
              rw [hf]at h2
              exact absurd h2 (fst1_ne hf)
            | none=>exact fun k hk=>fst1_noneR hf k (by omega) (by omega)
        · unfold owF at h3
          by_cases h6:6<on_
          · rw [if_pos h6]at h3;cases h3
          · omega
        · unfold cels
          rw [g.w.1,g.h.1,Int.toNat_natCast,Int.toNat_natCast]
      · rw [if_neg h3]at h;exact absurd h h3
    · rw [if_neg h2]at h;exact absurd h h2
  · rw [if_neg h1]at h;exact absurd h h1
theorem F21_eq (gf:GL I5 5 fc fn)(go:GL S6 6 oc on_):F21 xl xh yl yh sz fc 0 fn oc 0 on_ bx b_y st sp fu lk tu =
    some (if (ckR xl xh yl yh sz fc fn oc on_ bx b_y st sp fu lk tu).2.2=0 then ⟨arrC (cels xl xh yl yh sz fc fn oc on_),0,(cels xl xh yl yh sz fc fn oc on_).length,0⟩
      else ⟨⟨[]⟩,0,0,(ckR xl xh yl yh sz fc fn oc on_ bx b_y st sp fu lk tu).2.2⟩):=by
  have p:=F18_eq (xl:=xl) (xh:=xh) (yl:=yl) (yh:=yh) (sz:=sz) (bx:=bx) (b_y:=b_y) (st:=st) (sp:=sp) (fu:=fu) (lk:=lk) (tu:=tu) gf go
  by_cases h:(ckR xl xh yl yh sz fc fn oc on_ bx b_y st sp fu lk tu).2.2=0
  · rw [if_pos h]
    obtain ⟨W,H,t⟩:=tsk_of h
    have q:=F66_of (xl:=xl) (xh:=xh) (yl:=yl) (yh:=yh) (sz:=sz) (bx:=bx) (b_y:=b_y) (st:=st) (sp:=sp) (fu:=fu) (lk:=lk) (tu:=tu) gf (by have:=t.f6;omega) t.z go (by have:=t.o6;omega) t.g
    rw [← t.c]at q
    unfold F21 rt21
    simp only [RT.val,F18_ok,F18_2,p,h,F66_ok,F66_0,F66_1,F66_2,q,Option.isSome_some,decide_true,Bool.not_true,cond_true,cond_false]
  · rw [if_neg h]
    unfold F21 rt21
    simp only [RT.val,F18_ok,F18_2,p,h,Option.isSome_some,decide_false,Bool.not_false,cond_true]
def clE (x y:Int)(c:Array Value)(k:Nat):Int:=if (inB x (getInt c (k*5)) (getInt c (k*5+1))&&inB y (getInt c (k*5+2)) (getInt c (k*5+3)))=true then 1 else 0
theorem step24 (L:List Cel)(few:L.length≤1000)(k:Nat)(hk:k<L.length) :
    (rd24_0 ⟨arrC L,0,L.length,(L.length:Int),(k:Int),xl,xh,yl,yh,sz,fc,0,fn,oc,0,on_,bx,b_y,st,sp,fu,lk,tu,x,y⟩).val =
    some (if clE x y (arrC L) k=0 then .inl ⟨arrC L,0,L.length,(L.length:Int),((k+1:Nat):Int),xl,xh,yl,yh,sz,fc,0,fn,oc,0,on_,bx,b_y,st,sp,fu,lk,tu,x,y⟩ else .inr (.k0 (k:Int) 0 xl xh yl yh sz fc 0 fn oc 0 on_ bx b_y st sp fu lk tu x y)):=by
  have hki:(k:Int)<(L.length:Int):=by omega
  have h0:(0:Int)≤(k:Int):=by omega
  have h3:IntKind.wrap .i64 ((k:Int)+1)=((k+1:Nat):Int):=by rw [wrap64_id (by omega) (by omega)];omega
  have hr:=rdC L hk
  unfold I5 at hr
  unfold clE
  simp only [rd24_0,RT.val,hki,h0,h3,Nat.zero_add,hr,Nat.add_assoc,Nat.reduceAdd,(F40_of _ _ _).1,(F40_of _ _ _).2,Int.toNat_natCast,Int.ofNat_eq_natCast,decide_true,Bool.and_self,cond_true]
  cases inB x (getInt (arrC L) (k*5)) (getInt (arrC L) (k*5+1))<;>cases inB y (getInt (arrC L) (k*5+2)) (getInt (arrC L) (k*5+3))<;>rfl
def ceF (L:List Cel)(x y:Int):Int×Int:=match fst1 (clE x y (arrC L)) L.length 0 with | some (i,_)=>((i:Int),0) | none=>(0,4)
theorem cels_len {W H:Nat}(t:Tsk xl xh yl yh sz fc fn oc on_ W H):(cels xl xh yl yh sz fc fn oc on_).length≤60:=by
  rw [t.c]
  have a:=allL_len (xl:=xl) (xh:=xh) (yl:=yl) (yh:=yh) (sz:=sz) (fc:=fc) (fn:=fn) (oc:=oc) (on_:=on_) (W:=W) H 0
  have b:=t.g.n
  rw [Nat.mul_comm]at b
  omega
theorem F24_eq (gf:GL I5 5 fc fn)(go:GL S6 6 oc on_):F24 xl xh yl yh sz fc 0 fn oc 0 on_ bx b_y st sp fu lk tu x y =
    some (if (ckR xl xh yl yh sz fc fn oc on_ bx b_y st sp fu lk tu).2.2=0 then ⟨(ceF (cels xl xh yl yh sz fc fn oc on_) x y).1,(ceF (cels xl xh yl yh sz fc fn oc on_) x y).2⟩
      else ⟨0,(ckR xl xh yl yh sz fc fn oc on_ bx b_y st sp fu lk tu).2.2⟩):=by
  have p:=F21_eq (xl:=xl) (xh:=xh) (yl:=yl) (yh:=yh) (sz:=sz) (bx:=bx) (b_y:=b_y) (st:=st) (sp:=sp) (fu:=fu) (lk:=lk) (tu:=tu) gf go
  by_cases h:(ckR xl xh yl yh sz fc fn oc on_ bx b_y st sp fu lk tu).2.2=0
  · rw [if_pos h]at p ⊢
    obtain ⟨W,H,t⟩:=tsk_of h
    have hl:=cels_len t
    obtain ⟨L,hL⟩:∃L,cels xl xh yl yh sz fc fn oc on_=L:=⟨_,rfl⟩
    rw [hL]at p hl ⊢
    have z1:¬(L.length:Int)<(L.length:Int):=by omega
    have l:L24_0 (X24_0.mk (arrC L) 0 L.length (L.length:Int) 0 xl xh yl yh sz fc 0 fn oc 0 on_ bx b_y st sp fu lk tu x y)=some (match fst1 (clE x y (arrC L)) L.length 0 with | some (i,r)=>.k0 (i:Int) 0 xl xh yl yh sz fc 0 fn oc 0 on_ bx b_y st sp fu lk tu x y | none=>.k1 xl xh yl yh sz fc 0 fn oc 0 on_ bx b_y st sp fu lk tu x y) :=
      loop_fst (rd:=rd24_0) (S:=fun k=>X24_0.mk (arrC L) 0 L.length (L.length:Int) (k:Int) xl xh yl yh sz fc 0 fn oc 0 on_ bx b_y st sp fu lk tu x y) (E:=clE x y (arrC L)) (n:=L.length) (err:=fun i r=>.k0 (i:Int) 0 xl xh yl yh sz fc 0 fn oc 0 on_ bx b_y st sp fu lk tu x y) (fin:=.k1 xl xh yl yh sz fc 0 fn oc 0 on_ bx b_y st sp fu lk tu x y)
        (fun k hk=>step24 L (by omega) k hk) (by simp only [rd24_0,RT.val,z1,decide_false,cond_false]) L.length 0 (by omega)
    unfold F24 rt24 ceF
    simp only [RT.val,F21_ok,F21_0,F21_1,F21_2,F21_3,p,Int.ofNat_eq_natCast,Option.isSome_some,eqCode_self,decide_true,Bool.not_true,cond_true,cond_false]
    cases hf:fst1 (clE x y (arrC L)) L.length 0 with
    | some ir =>
      obtain ⟨i,r⟩:=ir
      rw [hf]at l
      simp only [L24_0_k0,Qo0,Qo1,l,cond_true]
    | none =>
      rw [hf]at l
      simp only [L24_0_k0,L24_0_k1,l,cond_true,cond_false]
  · rw [if_neg h]at p ⊢
    unfold F24 rt24
    simp only [RT.val,F21_ok,F21_3,p,h,Option.isSome_some,decide_false,Bool.not_false,cond_true]
end
end
end Go.Proofs.Ytoghoeebiddblaa
namespace Go.Proofs.Ytoghoeebiddblaa
open Go.Gi Go.RowKit
noncomputable section
set_option maxRecDepth 100000
set_option maxHeartbeats 2000000
def hasB (b:Cel)(x y:Int):Bool:=inB x b.xl b.xh&&inB y b.yl b.yh
def cnt (x y:Int):List Cel→Int
  | []=>0
  | b::r=>(if hasB b x y=true then 1 else 0)+cnt x y r
theorem cnt_app (x y:Int):∀L M:List Cel,cnt x y (L++M)=cnt x y L+cnt x y M
  | [],M=>by show cnt x y M=0+cnt x y M;omega
  | b::r,M=>by
    show _+cnt x y (r++M)=(_+cnt x y r)+cnt x y M
    rw [cnt_app x y r M];omega
theorem cnt_nn (x y:Int):∀L:List Cel,0≤cnt x y L∧cnt x y L≤(L.length:Int)
  | []=>⟨Int.le_refl _,Int.le_refl _⟩
  | b::r=>by
    have:=cnt_nn x y r
    show 0≤(if hasB b x y=true then (1:Int) else 0)+cnt x y r∧(if hasB b x y=true then (1:Int) else 0)+cnt x y r≤((b::r).length:Int)
    rw [List.length_cons]
    split<;>omega
theorem clE_eq (L:List Cel)(x y:Int) {k:Nat}(hk:k<L.length):clE x y (arrC L) k=if hasB L[k] x y=true then 1 else 0:=by
  obtain ⟨g0,g1,g2,g3,_⟩:=getC L hk
  unfold clE hasB
  rw [g0,g1,g2,g3]
theorem cnt_take (L:List Cel)(x y:Int) {k:Nat}(hk:k<L.length):cnt x y (L.take (k+1))=cnt x y (L.take k)+clE x y (arrC L) k:=by
  rw [List.take_succ_eq_append_getElem hk,cnt_app,clE_eq L x y hk]
  show _+(_+0)=_
  omega
theorem cnt_zero (L:List Cel)(x y:Int)(h:∀k,k<L.length→clE x y (arrC L) k=0):∀k,k≤L.length→cnt x y (L.take k)=0
  | 0,_=>rfl
  | k+1,hk=>by rw [cnt_take L x y (by omega),cnt_zero L x y h k (by omega),h k (by omega)];rfl
theorem cnt_pos (L:List Cel)(x y:Int) {i:Nat}(hi:i<L.length) (h:clE x y (arrC L) i≠0):1≤cnt x y L:=by
  have e:=cnt_take L x y hi
  have s:cnt x y L=cnt x y (L.take (i+1))+cnt x y (L.drop (i+1)):=by
    rw [← cnt_app,List.take_append_drop]
  have n1:=(cnt_nn x y (L.take i)).1
  have n2:=(cnt_nn x y (L.drop (i+1))).1
  have:clE x y (arrC L) i=1:=by
    rw [clE_eq L x y hi]at h ⊢
    split
    · rfl
    · rename_i hn;rw [if_neg hn]at h;exact absurd rfl h
  omega
section
variable {xl xh yl yh sz:Int}{fc:Array Value}{fn:Nat}{oc:Array Value}{on_:Nat}{bx b_y st sp fu lk tu:Int}{x y:Int}{W H:Nat}
theorem in_of {n a b:Int}(h:inB n a b=true):a≤n∧n≤b:=by simpa only [inB,Bool.and_eq_true,decide_eq_true_eq] using h
theorem row_cnt (g:Grid xl xh yl yh sz W H)(row:Nat):∀m k,cnt x y (rowL xl xh yl yh sz fc fn oc on_ row m k)≤1∧(cnt x y (rowL xl xh yl yh sz fc fn oc on_ row m k)≠0→∃c,k≤c∧inB x (sLo xl sz c) (sHi xl xh sz c)=true∧inB y (sLo yl sz row) (sHi yl yh sz row)=true)
  | 0,k=>⟨by show (0:Int)≤1;omega,fun h=>absurd rfl h⟩
  | m+1,k=>by
    have ih:=row_cnt g row m (k+1)
    unfold rowL
    split
    · exact ⟨ih.1,fun h=>by obtain ⟨c,h1,h2⟩:=ih.2 h;exact ⟨c,by omega,h2⟩⟩
    · show (if hasB _ x y=true then (1:Int) else 0)+cnt x y (rowL xl xh yl yh sz fc fn oc on_ row m (k+1))≤1∧((if hasB _ x y=true then (1:Int) else 0)+cnt x y (rowL xl xh yl yh sz fc fn oc on_ row m (k+1))≠0→_)
      split
      · rename_i hh
        have hh':(inB x (sLo xl sz k) (sHi xl xh sz k)&&inB y (sLo yl sz row) (sHi yl yh sz row))=true:=hh
        simp only [Bool.and_eq_true]at hh'
        have z:cnt x y (rowL xl xh yl yh sz fc fn oc on_ row m (k+1))=0:=by
          apply Decidable.byContradiction
          intro hn
          obtain ⟨c,h1,h2,_⟩:=ih.2 hn
          have a:=in_of hh'.1
          have b:=in_of h2
          have:=strip_one g.s.1 a.1 a.2 b.1 b.2
          omega
        rw [z]
        exact ⟨by omega,fun _=>⟨k,Nat.le_refl _,hh'.1,hh'.2⟩⟩
      · rw [Int.zero_add]
        exact ⟨ih.1,fun h=>by obtain ⟨c,h1,h2⟩:=ih.2 h;exact ⟨c,by omega,h2⟩⟩
theorem row_has (row:Nat) {c:Nat}(hx:inB x (sLo xl sz c) (sHi xl xh sz c)=true) (hy:inB y (sLo yl sz row) (sHi yl yh sz row)=true) (hr:rlB fc fn (sLo xl sz c) (sHi xl xh sz c) (sLo yl sz row) (sHi yl yh sz row)=false) :
    ∀m k,k≤c→c<k+m→1≤cnt x y (rowL xl xh yl yh sz fc fn oc on_ row m k)
  | 0,k,h1,h2=>by omega
  | m+1,k,h1,h2=>by
    unfold rowL
    rcases Nat.eq_or_lt_of_le h1 with rfl | h3
    · rw [if_neg (by rw [hr];decide)]
      have n:=(cnt_nn x y (rowL xl xh yl yh sz fc fn oc on_ row m (k+1))).1
      show 1≤(if hasB _ x y=true then (1:Int) else 0)+cnt x y _
      rw [if_pos (show hasB _ x y=true by unfold hasB;rw [hx,hy];rfl)]
      omega
    · have ih:=row_has row hx hy hr m (k+1) (by omega) (by omega)
      split
      · exact ih
      · show 1≤(if hasB _ x y=true then (1:Int) else 0)+cnt x y _
        split<;>omega
theorem all_cnt (g:Grid xl xh yl yh sz W H):∀m k,cnt x y (allL xl xh yl yh sz fc fn oc on_ W m k)≤1∧(cnt x y (allL xl xh yl yh sz fc fn oc on_ W m k)≠0→∃r,k≤r∧inB y (sLo yl sz r) (sHi yl yh sz r)=true)
  | 0,k=>⟨by show (0:Int)≤1;omega,fun h=>absurd rfl h⟩
  | m+1,k=>by
    have ih:=all_cnt g m (k+1)
    have rc:=row_cnt (fc:=fc) (fn:=fn) (oc:=oc) (on_:=on_) (x:=x) (y:=y) g k W 0
    show cnt x y (rowL xl xh yl yh sz fc fn oc on_ k W 0++allL xl xh yl yh sz fc fn oc on_ W m (k+1))≤1∧(cnt x y (rowL xl xh yl yh sz fc fn oc on_ k W 0++allL xl xh yl yh sz fc fn oc on_ W m (k+1))≠0→_)
    rw [cnt_app]
    by_cases hz:cnt x y (rowL xl xh yl yh sz fc fn oc on_ k W 0)=0
    · rw [hz,Int.zero_add]
      exact ⟨ih.1,fun h=>by obtain ⟨r,h1,h2⟩:=ih.2 h;exact ⟨r,by omega,h2⟩⟩
    · obtain ⟨c,_,_,hy⟩:=rc.2 hz
      have z:cnt x y (allL xl xh yl yh sz fc fn oc on_ W m (k+1))=0:=by
        apply Decidable.byContradiction
        intro hn
        obtain ⟨r,h1,h2⟩:=ih.2 hn
        have a:=in_of hy
        have b:=in_of h2
        have:=strip_one g.s.1 a.1 a.2 b.1 b.2
        omega
      rw [z,Int.add_zero]
      exact ⟨rc.1,fun _=>⟨k,Nat.le_refl _,hy⟩⟩
theorem all_has {c r:Nat}(hc:c<W) (hx:inB x (sLo xl sz c) (sHi xl xh sz c)=true) (hy:inB y (sLo yl sz r) (sHi yl yh sz r)=true) (hr:rlB fc fn (sLo xl sz c) (sHi xl xh sz c) (sLo yl sz r) (sHi yl yh sz r)=false) :
    ∀m k,k≤r→r<k+m→1≤cnt x y (allL xl xh yl yh sz fc fn oc on_ W m k)
  | 0,k,h1,h2=>by omega
  | m+1,k,h1,h2=>by
    show 1≤cnt x y (rowL xl xh yl yh sz fc fn oc on_ k W 0++allL xl xh yl yh sz fc fn oc on_ W m (k+1))
    rw [cnt_app]
    have n1:=(cnt_nn x y (rowL xl xh yl yh sz fc fn oc on_ k W 0)).1
    have n2:=(cnt_nn x y (allL xl xh yl yh sz fc fn oc on_ W m (k+1))).1
    rcases Nat.eq_or_lt_of_le h1 with rfl | h3
    · have:=row_has (oc:=oc) (on_:=on_) k hx hy hr W 0 (by omega) (by omega)
      omega
    · have:=all_has hc hx hy hr m (k+1) (by omega) (by omega)
      omega
structure InG (xl xh yl yh sz:Int) (b:Cel):Prop where
  x:xl≤b.xl∧b.xl≤b.xh∧b.xh≤xh∧b.xh-b.xl<sz
  y:yl≤b.yl∧b.yl≤b.yh∧b.yh≤yh∧b.yh-b.yl<sz
theorem row_mem (g:Grid xl xh yl yh sz W H) {row:Nat}(hr:row<H):∀m k,k+m≤W→∀b∈rowL xl xh yl yh sz fc fn oc on_ row m k,InG xl xh yl yh sz b
  | 0,k,_,b,hb=>by cases hb
  | m+1,k,h,b,hb=>by
    unfold rowL at hb
    split at hb
    · exact row_mem g hr m (k+1) (by omega) b hb
    · rcases List.mem_cons.1 hb with rfl | hb
      · obtain ⟨a1,a2,a3,a4,a5⟩:=strip_in g.x.1 g.s.1 g.w.2 (show k<W by omega)
        obtain ⟨b1,b2,b3,b4,b5⟩:=strip_in g.y.1 g.s.1 g.h.2 hr
        exact ⟨⟨a1,a2,a3,a4⟩,⟨b1,b2,b3,b4⟩⟩
      · exact row_mem g hr m (k+1) (by omega) b hb
theorem all_mem (g:Grid xl xh yl yh sz W H):∀m k,k+m≤H→∀b∈allL xl xh yl yh sz fc fn oc on_ W m k,InG xl xh yl yh sz b
  | 0,k,_,b,hb=>by cases hb
  | m+1,k,h,b,hb=>by
    rcases List.mem_append.1 (show b∈rowL xl xh yl yh sz fc fn oc on_ k W 0++allL xl xh yl yh sz fc fn oc on_ W m (k+1) from hb) with hb | hb
    · exact row_mem g (by omega) W 0 (by omega) b hb
    · exact all_mem g m (k+1) (by omega) b hb
theorem F32_of (a b c d x y:Int):F32_ok a b c d x y=true∧F32_0 a b c d x y=(inB x a b&&inB y c d):=by
  have q:F32 a b c d x y=some ⟨inB x a b&&inB y c d⟩:=by
    unfold F32 rt32 inB
    by_cases h1:a≤x<;>by_cases h2:x≤b<;>by_cases h3:c≤y<;>simp [RT.val,h1,h2,h3]
  exact ⟨by simp only [F32_ok,q];rfl,by simp only [F32_0,q]⟩
def agE (fc:Array Value)(x y:Int)(k:Nat):Int :=
  if fwd (getInt fc (k*5)) (getInt fc (k*5+1)) (getInt fc (k*5+2)) (getInt fc (k*5+3)) x y<0 then 1 else
  if getInt fc (k*5+4)*fwd (getInt fc (k*5)) (getInt fc (k*5+1)) (getInt fc (k*5+2)) (getInt fc (k*5+3)) x y<1000*max (asd (getInt fc (k*5)) (getInt fc (k*5+1)) (getInt fc (k*5+2)) (getInt fc (k*5+3)) x y) (-(asd (getInt fc (k*5)) (getInt fc (k*5+1)) (getInt fc (k*5+2)) (getInt fc (k*5+3)) x y)) then 1 else 0
theorem step33 (gf:GL I5 5 fc fn)(few:fn≤1000)(z:∀k,k<fn→fxC fc k=0)(hx:-100000000≤x∧x≤100000000)(hy:-100000000≤y∧y≤100000000)(k:Nat)(hk:k<fn) :
    (rd33_0 ⟨(k:Int),xl,xh,yl,yh,sz,fc,0,fn,oc,0,on_,bx,b_y,st,sp,fu,lk,tu,x,y⟩).val =
    some (if agE fc x y k=0 then .inl ⟨((k+1:Nat):Int),xl,xh,yl,yh,sz,fc,0,fn,oc,0,on_,bx,b_y,st,sp,fu,lk,tu,x,y⟩ else .inr (.k0 false xl xh yl yh sz fc 0 fn oc 0 on_ bx b_y st sp fu lk tu x y)):=by
  have hki:(k:Int)<(fn:Int):=by omega
  have h0:(0:Int)≤(k:Int):=by omega
  have h3:IntKind.wrap .i64 ((k:Int)+1)=((k+1:Nat):Int):=by rw [wrap64_id (by omega) (by omega)];omega
  have hr:rdOk fc I5 (0+k*5)=true:=gf.good.2 k hk
  unfold I5 at hr
  rw [Nat.zero_add]at hr
  have w:=wf_of (fx_of (z k hk)) hx hy
  have m1:IntKind.wrap .i64 (getInt fc (k*5+2)*(x-getInt fc (k*5)))=getInt fc (k*5+2)*(x-getInt fc (k*5)):=w.m1
  have m2:IntKind.wrap .i64 (getInt fc (k*5+3)*(y-getInt fc (k*5+1)))=getInt fc (k*5+3)*(y-getInt fc (k*5+1)):=w.m2
  unfold agE
  simp only [rd33_0,RT.val,hki,h0,h3,Nat.zero_add,hr,Nat.add_assoc,Nat.reduceAdd,w.ex,w.ey,w.m1,w.m2,w.m3,w.m4,w.f,w.a,w.t,w.n,w.u,Int.toNat_natCast,Int.ofNat_eq_natCast,decide_true,Bool.and_self,cond_true]
  by_cases c1:fwd (getInt fc (k*5)) (getInt fc (k*5+1)) (getInt fc (k*5+2)) (getInt fc (k*5+3)) x y<0
  · simp [c1]
  · by_cases c2:getInt fc (k*5+4)*fwd (getInt fc (k*5)) (getInt fc (k*5+1)) (getInt fc (k*5+2)) (getInt fc (k*5+3)) x y<1000*max (asd (getInt fc (k*5)) (getInt fc (k*5+1)) (getInt fc (k*5+2)) (getInt fc (k*5+3)) x y) (-(asd (getInt fc (k*5)) (getInt fc (k*5+1)) (getInt fc (k*5+2)) (getInt fc (k*5+3)) x y))
    · simp only [c1,c2,if_true,if_false,decide_true,decide_false,cond_true,cond_false];rfl
    · simp only [c1,c2,if_true,if_false,decide_true,decide_false,cond_true,cond_false]
theorem F33_of (gf:GL I5 5 fc fn)(few:fn≤1000)(z:∀k,k<fn→fxC fc k=0)(hx:-100000000≤x∧x≤100000000)(hy:-100000000≤y∧y≤100000000) :
    F33_ok xl xh yl yh sz fc 0 fn oc 0 on_ bx b_y st sp fu lk tu x y=true∧F33_0 xl xh yl yh sz fc 0 fn oc 0 on_ bx b_y st sp fu lk tu x y=(fst1 (agE fc x y) fn 0).isNone:=by
  have z1:¬(fn:Int)<(fn:Int):=by omega
  have l:L33_0 (X33_0.mk 0 xl xh yl yh sz fc 0 fn oc 0 on_ bx b_y st sp fu lk tu x y)=some (match fst1 (agE fc x y) fn 0 with | some (i,r)=>.k0 false xl xh yl yh sz fc 0 fn oc 0 on_ bx b_y st sp fu lk tu x y | none=>.k1 xl xh yl yh sz fc 0 fn oc 0 on_ bx b_y st sp fu lk tu x y) :=
    loop_fst (rd:=rd33_0) (S:=fun k=>X33_0.mk (k:Int) xl xh yl yh sz fc 0 fn oc 0 on_ bx b_y st sp fu lk tu x y) (E:=agE fc x y) (n:=fn) (err:=fun _ _=>.k0 false xl xh yl yh sz fc 0 fn oc 0 on_ bx b_y st sp fu lk tu x y) (fin:=.k1 xl xh yl yh sz fc 0 fn oc 0 on_ bx b_y st sp fu lk tu x y)
      (fun k hk=>step33 gf few z hx hy k hk) (by simp only [rd33_0,RT.val,Int.ofNat_eq_natCast,z1,decide_false,cond_false]) fn 0 (by omega)
  have q:F33 xl xh yl yh sz fc 0 fn oc 0 on_ bx b_y st sp fu lk tu x y=some ⟨(fst1 (agE fc x y) fn 0).isNone⟩:=by
    unfold F33 rt33
    simp only [RT.val,eqCode_self,cond_true]
    cases hf:fst1 (agE fc x y) fn 0 with
    | some ir =>
      rw [hf]at l
      simp only [L33_0_k0,Qq0,l,Option.isNone_some,cond_true]
    | none =>
      rw [hf]at l
      simp only [L33_0_k0,L33_0_k1,l,Option.isNone_none,cond_true,cond_false]
  exact ⟨by simp only [F33_ok,q];rfl,by simp only [F33_0,q]⟩
theorem heard (t:Tsk xl xh yl yh sz fc fn oc on_ W H)(h1:xl≤x∧x≤xh)(h2:yl≤y∧y≤yh) (ha:(fst1 (agE fc x y) fn 0).isNone=true):1≤cnt x y (cels xl xh yl yh sz fc fn oc on_):=by
  obtain ⟨c,c1,c2,c3⟩:=strip_has t.g.s.1 t.g.w.2 h1.1 h1.2
  obtain ⟨r,r1,r2,r3⟩:=strip_has t.g.s.1 t.g.h.2 h2.1 h2.2
  have ix:inB x (sLo xl sz c) (sHi xl xh sz c)=true:=by simp only [inB,Bool.and_eq_true,decide_eq_true_eq];exact ⟨c2,c3⟩
  have iy:inB y (sLo yl sz r) (sHi yl yh sz r)=true:=by simp only [inB,Bool.and_eq_true,decide_eq_true_eq];exact ⟨r2,r3⟩
  have hr:rlB fc fn (sLo xl sz c) (sHi xl xh sz c) (sLo yl sz r) (sHi yl yh sz r)=false:=by
    unfold rlB
    cases hf:fst1 (rlE fc (sLo xl sz c) (sHi xl xh sz c) (sLo yl sz r) (sHi yl yh sz r)) fn 0 with
    | none=>rfl
    | some ir =>
      obtain ⟨i,e⟩:=ir
      obtain ⟨_,i2,i3,i4,_⟩:=fst1_at hf
      have ag:=fst1_noneR (Option.isNone_iff_eq_none.1 ha) i (by omega) (by omega)
      unfold agE at ag
      by_cases d1:fwd (getInt fc (i*5)) (getInt fc (i*5+1)) (getInt fc (i*5+2)) (getInt fc (i*5+3)) x y<0
      · rw [if_pos d1]at ag;cases ag
      rw [if_neg d1]at ag
      by_cases d2:getInt fc (i*5+4)*fwd (getInt fc (i*5)) (getInt fc (i*5+1)) (getInt fc (i*5+2)) (getInt fc (i*5+3)) x y<1000*max (asd (getInt fc (i*5)) (getInt fc (i*5+1)) (getInt fc (i*5+2)) (getInt fc (i*5+3)) x y) (-(asd (getInt fc (i*5)) (getInt fc (i*5+1)) (getInt fc (i*5+2)) (getInt fc (i*5+3)) x y))
      · rw [if_pos d2]at ag;cases ag
      have rf:=ru_false (tn:=getInt fc (i*5+4)) ⟨c2,c3⟩ ⟨r2,r3⟩ (show 0≤fwd (getInt fc (i*5)) (getInt fc (i*5+1)) (getInt fc (i*5+2)) (getInt fc (i*5+3)) x y by omega) (by omega)
      unfold rlE at i3
      rw [rf,if_neg (by decide)]at i3
      exact absurd i3.symm i4
  rw [t.c]
  exact all_has c1 ix iy hr H 0 (by omega) (by omega)
end
section
variable {xl xh yl yh sz:Int}{fc:Array Value}{fn:Nat}{oc:Array Value}{on_:Nat}{bx b_y st sp fu lk tu:Int}{x y:Int}{W H:Nat}
theorem step7 (L:List Cel)(few:L.length≤1000)(g:Grid xl xh yl yh sz W H)(k:Nat)(hk:k<L.length)(m:InG xl xh yl yh sz L[k]) :
    (rd7_0 ⟨arrC L,0,L.length,cnt x y (L.take k),(k:Int),xl,xh,yl,yh,sz,fc,0,fn,oc,0,on_,bx,b_y,st,sp,fu,lk,tu,x,y⟩).val =
    some (.inl ⟨arrC L,0,L.length,cnt x y (L.take (k+1)),((k+1:Nat):Int),xl,xh,yl,yh,sz,fc,0,fn,oc,0,on_,bx,b_y,st,sp,fu,lk,tu,x,y⟩):=by
  have hki:(k:Int)<(L.length:Int):=by omega
  have h0:(0:Int)≤(k:Int):=by omega
  have h3:IntKind.wrap .i64 ((k:Int)+1)=((k+1:Nat):Int):=by rw [wrap64_id (by omega) (by omega)];omega
  have hr:=rdC L hk
  have hr4:rdOk (arrC L) [(Leaf.int .i64),(Leaf.int .i64),(Leaf.int .i64),(Leaf.int .i64)] (k*5)=true:=by
    have h5:(isInt .i64 (arrC L) (k*5)&&(isInt .i64 (arrC L) (k*5+1)&&(isInt .i64 (arrC L) (k*5+2)&&(isInt .i64 (arrC L) (k*5+3)&&(isInt .i64 (arrC L) (k*5+4)&&true)))))=true:=hr
    simp only [Bool.and_eq_true]at h5
    obtain ⟨a,b,c,d,_⟩:=h5
    show (isInt .i64 (arrC L) (k*5)&&(isInt .i64 (arrC L) (k*5+1)&&(isInt .i64 (arrC L) (k*5+2)&&(isInt .i64 (arrC L) (k*5+3)&&true))))=true
    rw [a,b,c,d];rfl
  obtain ⟨g0,g1,g2,g3,_⟩:=getC L hk
  have nn:=cnt_nn x y (L.take k)
  have ln:(L.take k).length≤1000:=by rw [List.length_take];omega
  have e:=cnt_take L x y hk
  rw [clE_eq L x y hk]at e
  obtain ⟨⟨a1,a2,a3,a4⟩,⟨b1,b2,b3,b4⟩⟩:=m
  have gx:=g.x
  have gy:=g.y
  have n1:¬(L[k]).xh<(L[k]).xl:=by omega
  have n2:¬(L[k]).yh<(L[k]).yl:=by omega
  have i1:(inB (L[k]).xl xl xh&&inB (L[k]).yl yl yh)=true:=by simp only [inB,Bool.and_eq_true,decide_eq_true_eq];omega
  have i2:(inB (L[k]).xh xl xh&&inB (L[k]).yh yl yh)=true:=by simp only [inB,Bool.and_eq_true,decide_eq_true_eq];omega
  have w1:IntKind.wrap .i64 ((L[k]).xh-(L[k]).xl)=(L[k]).xh-(L[k]).xl:=wrap64_id (by omega) (by omega)
  have w2:IntKind.wrap .i64 ((L[k]).yh-(L[k]).yl)=(L[k]).yh-(L[k]).yl:=wrap64_id (by omega) (by omega)
  have n3:¬sz≤(L[k]).xh-(L[k]).xl:=by omega
  have n4:¬sz≤(L[k]).yh-(L[k]).yl:=by omega
  have w3:IntKind.wrap .i64 (cnt x y (L.take k)+1)=cnt x y (L.take k)+1:=wrap64_id (by omega) (by omega)
  simp only [rd7_0,RT.val,hki,h0,h3,Nat.zero_add,Nat.add_zero,hr4,Nat.add_assoc,Nat.reduceAdd,g0,g1,g2,g3,(F32_of _ _ _ _ _ _).1,(F32_of _ _ _ _ _ _).2,n1,n2,i1,i2,w1,w2,n3,n4,Int.toNat_natCast,Int.ofNat_eq_natCast,decide_true,decide_false,Bool.and_self,Bool.not_true,cond_true,cond_false]
  cases hb:hasB L[k] x y with
  | true =>
    have hb':(inB x (L[k]).xl (L[k]).xh&&inB y (L[k]).yl (L[k]).yh)=true:=hb
    rw [hb,if_pos rfl]at e
    simp only [hb',w3,e,cond_true]
  | false =>
    have hb':(inB x (L[k]).xl (L[k]).xh&&inB y (L[k]).yl (L[k]).yh)=false:=hb
    rw [hb,if_neg (by decide),Int.add_zero]at e
    simp only [hb',e,cond_false]
end
theorem true7:True7:=by
  intro xl xh yl yh sz fc fn oc on_ bx b_y st sp fu lk tu x y _ _ _ _ _ gf go _
  have p:=F21_eq (xl:=xl) (xh:=xh) (yl:=yl) (yh:=yh) (sz:=sz) (bx:=bx) (b_y:=b_y) (st:=st) (sp:=sp) (fu:=fu) (lk:=lk) (tu:=tu) gf go
  by_cases h:(ckR xl xh yl yh sz fc fn oc on_ bx b_y st sp fu lk tu).2.2=0
  case neg =>
    rw [if_neg h]at p
    unfold rt7
    simp only [RT.val,F21_ok,F21_2,F21_3,p,h,Option.isSome_some,decide_false,Bool.not_false,cond_true]
    rfl
  rw [if_pos h]at p
  have q:=F24_eq (xl:=xl) (xh:=xh) (yl:=yl) (yh:=yh) (sz:=sz) (bx:=bx) (b_y:=b_y) (st:=st) (sp:=sp) (fu:=fu) (lk:=lk) (tu:=tu) (x:=x) (y:=y) gf go
  rw [if_pos h]at q
  obtain ⟨W,H,t⟩:=tsk_of h
  have hl:=cels_len t
  have hd:=fun a b=>heard (x:=x) (y:=y) t a b
  have hc:cnt x y (cels xl xh yl yh sz fc fn oc on_)≤1:=by rw [t.c];exact (all_cnt t.g H 0).1
  have hm:∀b∈cels xl xh yl yh sz fc fn oc on_,InG xl xh yl yh sz b:=by rw [t.c];exact all_mem t.g H 0 (by omega)
  obtain ⟨L,hL⟩:∃L,cels xl xh yl yh sz fc fn oc on_=L:=⟨_,rfl⟩
  rw [hL]at p q hl hd hc hm
  have z1:¬(L.length:Int)<(L.length:Int):=by omega
  have hY:Y7_0 xl xh yl yh sz fc 0 fn oc 0 on_ bx b_y st sp fu lk tu x y=X7_0.mk (arrC L) 0 L.length 0 0 xl xh yl yh sz fc 0 fn oc 0 on_ bx b_y st sp fu lk tu x y:=by
    unfold Y7_0
    simp only [F21_0,F21_1,F21_2,p]
  have l:L7_0 (X7_0.mk (arrC L) 0 L.length 0 0 xl xh yl yh sz fc 0 fn oc 0 on_ bx b_y st sp fu lk tu x y)=some (.k1 (arrC L) 0 L.length (cnt x y (L.take L.length)) xl xh yl yh sz fc 0 fn oc 0 on_ bx b_y st sp fu lk tu x y) :=
    loop_cnt (rd:=rd7_0) (S:=fun k=>X7_0.mk (arrC L) 0 L.length (cnt x y (L.take k)) (k:Int) xl xh yl yh sz fc 0 fn oc 0 on_ bx b_y st sp fu lk tu x y) (n:=L.length)
      (fun k hk=>step7 L (by omega) t.g k hk (hm _ (List.getElem_mem hk))) (by simp only [rd7_0,RT.val,Int.ofNat_eq_natCast,z1,decide_false,cond_false]) L.length 0 (by omega)
  rw [List.take_length]at l
  have nn:=(cnt_nn x y L).1
  unfold rt7
  simp only [RT.val,F21_ok,F21_2,F21_3,p,hY,Option.isSome_some,eqCode_self,decide_true,Bool.not_true,cond_true,cond_false,L7_0_k0,L7_0_k1,l]
  simp only [Qt0,Qt1,Qt2,Qt3,Qt4,Qt5,Qt6,Qt7,Qt8,Qt9,Qt10,Qt11,Qt12,Qt13,Qt14,Qt15,Qt16,Qt17,Qt18,Qt19,Qt20,Qt21,Qt22,Qt23,l,
    F24_ok,F24_0,F24_1,q,Option.isSome_some,cond_true]
  have c1:¬1<cnt x y L:=by omega
  unfold ceF
  cases hf:fst1 (clE x y (arrC L)) L.length 0 with
  | some ir =>
    obtain ⟨i,r⟩:=ir
    obtain ⟨_,i2,i3,i4,_⟩:=fst1_at hf
    have hi:i<L.length:=by omega
    have one:=cnt_pos L x y hi (by rw [i3];exact i4)
    have c2:cnt x y L=1:=by omega
    have k1:¬(i:Int)<0:=by omega
    have k2:¬(L.length:Int)≤(i:Int):=by omega
    have k3:(0:Int)≤(i:Int):=by omega
    have k4:(i:Int)<(L.length:Int):=by omega
    have hr4:rdOk (arrC L) [(Leaf.int .i64),(Leaf.int .i64),(Leaf.int .i64),(Leaf.int .i64)] (i*5)=true:=by
      have h5:(isInt .i64 (arrC L) (i*5)&&(isInt .i64 (arrC L) (i*5+1)&&(isInt .i64 (arrC L) (i*5+2)&&(isInt .i64 (arrC L) (i*5+3)&&(isInt .i64 (arrC L) (i*5+4)&&true)))))=true:=rdC L hi
      simp only [Bool.and_eq_true]at h5
      obtain ⟨a,b,c,d,_⟩:=h5
      show (isInt .i64 (arrC L) (i*5)&&(isInt .i64 (arrC L) (i*5+1)&&(isInt .i64 (arrC L) (i*5+2)&&(isInt .i64 (arrC L) (i*5+3)&&true))))=true
      rw [a,b,c,d];rfl
    have hw:(inB x (getInt (arrC L) (i*5)) (getInt (arrC L) (i*5+1))&&inB y (getInt (arrC L) (i*5+2)) (getInt (arrC L) (i*5+3)))=true:=by
      apply Decidable.byContradiction
      intro hn
      unfold clE at i3
      rw [if_neg hn]at i3
      exact i4 i3.symm
    simp only [c1,c2,k1,k2,k3,k4,Int.ofNat_eq_natCast,Int.toNat_natCast,Nat.zero_add,Nat.add_zero,Nat.add_assoc,Nat.reduceAdd,hr4,(F32_of _ _ _ _ _ _).1,(F32_of _ _ _ _ _ _).2,hw,decide_true,decide_false,Bool.and_self,beq_self_eq_true,Bool.not_true,cond_true,cond_false]
    simp
  | none =>
    have c2:cnt x y L=0:=by
      have:=cnt_zero L x y (fun k hk=>fst1_noneR hf k (by omega) (by omega)) L.length (Nat.le_refl _)
      rwa [List.take_length]at this
    have e4:¬(4:Int)=0:=by omega
    have e1:¬(0:Int)=1:=by omega
    have e2:¬(1:Int)<0:=by omega
    simp only [c2,e4,e1,e2,(F32_of _ _ _ _ _ _).1,(F32_of _ _ _ _ _ _).2,decide_false,beq_self_eq_true,Bool.not_true,cond_true,cond_false]
    cases hw:inB x xl xh&&inB y yl yh with
    | false=>simp only [Bool.not_false,cond_true]
    | true =>
      have hw':=hw
      simp only [inB,Bool.and_eq_true,decide_eq_true_eq]at hw'
      have gx:=t.g.x
      have gy:=t.g.y
      obtain ⟨o1,o2⟩:=F33_of (xl:=xl) (xh:=xh) (yl:=yl) (yh:=yh) (sz:=sz) (oc:=oc) (on_:=on_) (bx:=bx) (b_y:=b_y) (st:=st) (sp:=sp) (fu:=fu) (lk:=lk) (tu:=tu) (x:=x) (y:=y) gf (by have:=t.f6;omega) t.z (by omega) (by omega)
      have nag:(fst1 (agE fc x y) fn 0).isNone=false:=by
        cases hn:(fst1 (agE fc x y) fn 0).isNone with
        | false=>rfl
        | true =>
          have:=hd (by omega) (by omega) hn
          omega
      simp only [o1,o2,nag,Bool.not_true,Bool.not_false,cond_true,cond_false]
theorem recoverHeardProved:Rows.RecoverHeardSaid:=said7 true7
end
end Go.Proofs.Ytoghoeebiddblaa
