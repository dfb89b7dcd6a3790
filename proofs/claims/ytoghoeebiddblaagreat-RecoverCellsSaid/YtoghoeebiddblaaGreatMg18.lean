/- RecoverCells proved: Cells, Cell and Flight return what the document says, for any task and places. Conditions: none. -/
import Derived.Test.YtoghoeebiddblaaGreatMg17
import Derived.Test.YtoghoeebiddblaaGreatMg14
import Derived.Test.YtoghoeebiddblaaGreatMg15
import Derived.Test.YtoghoeebiddblaaGreatMg16
import Derived.Test.YtoghoeebiddblaaGreatMg9
import Derived.Test.YtoghoeebiddblaaGreatMg10
set_option linter.unusedVariables false
set_option linter.unusedSimpArgs false
namespace Go.Proofs.YtoghoeebiddblaaGreat
open Go.Gi Go.RowKit
noncomputable section
set_option maxRecDepth 100000
set_option maxHeartbeats 1000000
def rowL (xl xh yl yh sz:Int)(fc:Array Value)(fn:Nat)(oc:Array Value)(on_:Nat)(row:Nat):Nat→Nat→List Cel
  | 0,_=>[]
  | m+1,k=>if rlB fc fn (sLo xl sz k) (sHi xl xh sz k) (sLo yl sz row) (sHi yl yh sz row)=true then rowL xl xh yl yh sz fc fn oc on_ row m (k+1)
    else ⟨sLo xl sz k,sHi xl xh sz k,sLo yl sz row,sHi yl yh sz row,opn oc on_ (sLo xl sz k) (sHi xl xh sz k) (sLo yl sz row) (sHi yl yh sz row)⟩::rowL xl xh yl yh sz fc fn oc on_ row m (k+1)
def allL (xl xh yl yh sz:Int)(fc:Array Value)(fn:Nat)(oc:Array Value)(on_:Nat)(W:Nat):Nat→Nat→List Cel
  | 0,_=>[]
  | m+1,k=>rowL xl xh yl yh sz fc fn oc on_ k W 0++allL xl xh yl yh sz fc fn oc on_ W m (k+1)
section
variable {xl xh yl yh sz:Int}{fc:Array Value}{fn:Nat}{oc:Array Value}{on_:Nat}{bx b_y st sp fu lk tu:Int}{W H:Nat}
theorem rowL_len (row:Nat):∀m k,(rowL xl xh yl yh sz fc fn oc on_ row m k).length≤m
  | 0,_=>Nat.le_refl _
  | m+1,k=>by
    unfold rowL;have:=rowL_len row m (k+1)
    split
    · omega
    · simp only [List.length_cons];omega
theorem ar_of (g:Grid xl xh yl yh sz W H) {c r:Nat}(hc:c<W) (hr:r<H):Ar (sLo xl sz c) (sHi xl xh sz c) (sLo yl sz r) (sHi yl yh sz r):=by
  obtain ⟨a1,a2,a3,a4,a5⟩:=strip_in g.x.1 g.s.1 g.w.2 hc;obtain ⟨b1,b2,b3,b4,b5⟩:=strip_in g.y.1 g.s.1 g.h.2 hr;have:=g.x;have:=g.y
  exact ⟨by omega,by omega,by omega,by omega⟩
def endC (L:List Cel)(row:Nat)(H:Nat)(xl xh yl yh sz:Int)(fc:Array Value)(fn:Nat)(oc:Array Value)(on_:Nat)(bx b_y st sp fu lk tu:Int):D17_1:=match L with
  | []=>.k0 (H:Int) (row:Int) xl xh yl yh sz fc 0 fn oc 0 on_ bx b_y st sp fu lk tu
  | a::r=>.k1 (arrC (a::r)) (a::r).length (H:Int) (row:Int) xl xh yl yh sz fc 0 fn oc 0 on_ bx b_y st sp fu lk tu
theorem loop17_1 (gf:GL I5 5 fc fn)(fewf:fn≤1000)(z:∀k,k<fn→fxC fc k=0)(go:GL S6 6 oc on_)(fewo:on_≤1000)(g:Grid xl xh yl yh sz W H) {row:Nat}(hr:row<H) :
    ∀(m c:Nat) (L:List Cel),c+m=W→L.length+m≤1000 →
    loopR rd17_1 ⟨encC L,(row:Int),(H:Int),(row:Int),(W:Int),(c:Int),xl,xh,yl,yh,sz,fc,0,fn,oc,0,on_,bx,b_y,st,sp,fu,lk,tu⟩ =
    some (endC (L++rowL xl xh yl yh sz fc fn oc on_ row m c) row H xl xh yl yh sz fc fn oc on_ bx b_y st sp fu lk tu)
  | 0,c,L,e,_=>by
    obtain rfl:c=W:=by omega
    have z1:¬(c:Int)<(c:Int):=by omega
    rw [show L++rowL xl xh yl yh sz fc fn oc on_ row 0 c=L from List.append_nil L]
    cases L with
    | nil=>exact loopR_done (by simp only [encC,rd17_1,RT.val,mq,z1,decide_false,cond_false];rfl)
    | cons a r=>exact loopR_done (by simp only [encC,rd17_1,RT.val,mq,z1,allFz_arrC,decide_false,cond_true,cond_false];rfl)
  | m+1,c,L,e,hl=>by
    have hc:c<W:=by omega
    have hW:W≤60:=by
      have:=Nat.mul_le_mul_left W g.h1;have:=g.n
      omega
    have hki:(c:Int)<(W:Int):=by omega
    have h3:IntKind.wrap .i64 ((c:Int)+1)=((c+1:Nat):Int):=by rw [wrap64_id (by omega) (by omega)];omega
    have ar:=ar_of g hc hr;obtain ⟨x1,x2⟩:=F46_of g.x.1 g.x.2.1 g.x.2.2 g.s g.w.2 hc;obtain ⟨y1,y2⟩:=F46_of g.y.1 g.y.2.1 g.y.2.2 g.s g.h.2 hr;obtain ⟨r1,r2⟩:=F47_of (xl:=xl) (xh:=xh) (yl:=yl) (yh:=yh) (sz:=sz) (oc:=oc) (on_:=on_) (bx:=bx) (b_y:=b_y) (st:=st) (sp:=sp) (fu:=fu) (lk:=lk) (tu:=tu) gf fewf ar z;obtain ⟨o1,o2⟩:=F48_of (xl:=xl) (xh:=xh) (yl:=yl) (yh:=yh) (sz:=sz) (fc:=fc) (fn:=fn) (bx:=bx) (b_y:=b_y) (st:=st) (sp:=sp) (fu:=fu) (lk:=lk) (tu:=tu) (p:=sLo xl sz c) (q:=sHi xl xh sz c) (r:=sLo yl sz row) (s:=sHi yl yh sz row) go fewo;unfold rowL
    cases hb:rlB fc fn (sLo xl sz c) (sHi xl xh sz c) (sLo yl sz row) (sHi yl yh sz row) with
    | true =>
      rw [if_pos rfl]
      refine (loopR_next ?_).trans (loop17_1 gf fewf z go fewo g hr m (c+1) L (by omega) (by omega))
      cases L with
      | nil=>simp only [encC,rd17_1,RT.val,mq,hki,h3,x1,x2,y1,y2,r1,r2,hb,decide_true,Bool.not_true,cond_true,cond_false]
      | cons a r=>simp only [encC,rd17_1,RT.val,mq,hki,h3,x1,x2,y1,y2,r1,r2,hb,allFz_arrC,decide_true,Bool.not_true,cond_true,cond_false]
    | false =>
      rw [if_neg (by decide)]
      have hlist:∀b:Cel,L++b::rowL xl xh yl yh sz fc fn oc on_ row m (c+1)=(L++[b])++rowL xl xh yl yh sz fc fn oc on_ row m (c+1):=fun b=>by simp
      rw [hlist]
      refine (loopR_next ?_).trans (loop17_1 gf fewf z go fewo g hr m (c+1) _ (by omega) (by simp only [List.length_append,List.length_cons,List.length_nil];omega))
      cases L with
      | nil =>
        simp only [encC,rd17_1,RT.val,mq,hki,h3,x1,x2,y1,y2,r1,r2,hb,o1,o2,decide_true,Bool.not_false,cond_true,cond_false]
        rfl
      | cons a r =>
        have k1:((a::r).length+1)*40≤140737488355328:=by omega
        have k2:(a::r).length+1≤4611686018427387904:=by omega
        have k3:0+(a::r).length*5≤Array.size (arrC (a::r)):=by rw [size_arrC];omega
        have ap:=apB_arrC (a::r) ⟨sLo xl sz c,sHi xl xh sz c,sLo yl sz row,sHi yl yh sz row,opn oc on_ (sLo xl sz c) (sHi xl xh sz c) (sLo yl sz row) (sHi yl yh sz row)⟩;unfold Cel.row at ap;simp only [encC,rd17_1,RT.val,mq,hki,h3,x1,x2,y1,y2,r1,r2,hb,o1,o2,k1,k2,k3,ap,allFz_arrC,decide_true,Bool.and_self,Bool.not_false,cond_true,cond_false]
        show some (Sum.inl (X17_1.mk _ _ _ _ _ _ _ _ _ _ _ _ _ _ _ _ _ _ _ _ _ _ _ _))=some (Sum.inl (X17_1.mk _ _ _ _ _ _ _ _ _ _ _ _ _ _ _ _ _ _ _ _ _ _ _ _))
        simp only [List.length_append,List.length_cons,List.length_nil,List.cons_append]
def endCp (L:List Cel)(row:Nat)(H:Nat)(xl xh yl yh sz:Int)(fc:Array Value)(fn:Nat)(oc:Array Value)(on_:Nat)(bx b_y st sp fu lk tu:Int):D17_1p:=match L with
  | []=>.k0 (H:Int) (row:Int) xl xh yl yh sz fc 0 fn oc 0 on_ bx b_y st sp fu lk tu
  | a::r=>.k1 (arrC (a::r)) (a::r).length (H:Int) (row:Int) xl xh yl yh sz fc 0 fn oc 0 on_ bx b_y st sp fu lk tu
theorem loop17_1p (gf:GL I5 5 fc fn)(fewf:fn≤1000)(z:∀k,k<fn→fxC fc k=0)(go:GL S6 6 oc on_)(fewo:on_≤1000)(g:Grid xl xh yl yh sz W H) {row:Nat}(hr:row<H) :
    ∀(m c:Nat) (L:List Cel),c+m=W→L.length+m≤1000 →
    loopR rd17_1p ⟨encC L,(row:Int),(H:Int),(row:Int),(W:Int),(c:Int),xl,xh,yl,yh,sz,fc,0,fn,oc,0,on_,bx,b_y,st,sp,fu,lk,tu⟩ =
    some (endCp (L++rowL xl xh yl yh sz fc fn oc on_ row m c) row H xl xh yl yh sz fc fn oc on_ bx b_y st sp fu lk tu)
  | 0,c,L,e,_=>by
    obtain rfl:c=W:=by omega
    have z1:¬(c:Int)<(c:Int):=by omega
    rw [show L++rowL xl xh yl yh sz fc fn oc on_ row 0 c=L from List.append_nil L]
    cases L with
    | nil=>exact loopR_done (by simp only [encC,rd17_1p,RT.val,mq,z1,decide_false,cond_false];rfl)
    | cons a r=>exact loopR_done (by simp only [encC,rd17_1p,RT.val,mq,z1,allFz_arrC,decide_false,cond_true,cond_false];rfl)
  | m+1,c,L,e,hl=>by
    have hc:c<W:=by omega
    have hW:W≤60:=by
      have:=Nat.mul_le_mul_left W g.h1;have:=g.n
      omega
    have hki:(c:Int)<(W:Int):=by omega
    have h3:IntKind.wrap .i64 ((c:Int)+1)=((c+1:Nat):Int):=by rw [wrap64_id (by omega) (by omega)];omega
    have ar:=ar_of g hc hr;obtain ⟨x1,x2⟩:=F46_of g.x.1 g.x.2.1 g.x.2.2 g.s g.w.2 hc;obtain ⟨y1,y2⟩:=F46_of g.y.1 g.y.2.1 g.y.2.2 g.s g.h.2 hr;obtain ⟨r1,r2⟩:=F47_of (xl:=xl) (xh:=xh) (yl:=yl) (yh:=yh) (sz:=sz) (oc:=oc) (on_:=on_) (bx:=bx) (b_y:=b_y) (st:=st) (sp:=sp) (fu:=fu) (lk:=lk) (tu:=tu) gf fewf ar z;obtain ⟨o1,o2⟩:=F48_of (xl:=xl) (xh:=xh) (yl:=yl) (yh:=yh) (sz:=sz) (fc:=fc) (fn:=fn) (bx:=bx) (b_y:=b_y) (st:=st) (sp:=sp) (fu:=fu) (lk:=lk) (tu:=tu) (p:=sLo xl sz c) (q:=sHi xl xh sz c) (r:=sLo yl sz row) (s:=sHi yl yh sz row) go fewo;unfold rowL
    cases hb:rlB fc fn (sLo xl sz c) (sHi xl xh sz c) (sLo yl sz row) (sHi yl yh sz row) with
    | true =>
      rw [if_pos rfl]
      refine (loopR_next ?_).trans (loop17_1p gf fewf z go fewo g hr m (c+1) L (by omega) (by omega))
      cases L with
      | nil=>simp only [encC,rd17_1p,RT.val,mq,hki,h3,x1,x2,y1,y2,r1,r2,hb,decide_true,Bool.not_true,cond_true,cond_false]
      | cons a r=>simp only [encC,rd17_1p,RT.val,mq,hki,h3,x1,x2,y1,y2,r1,r2,hb,allFz_arrC,decide_true,Bool.not_true,cond_true,cond_false]
    | false =>
      rw [if_neg (by decide)]
      have hlist:∀b:Cel,L++b::rowL xl xh yl yh sz fc fn oc on_ row m (c+1)=(L++[b])++rowL xl xh yl yh sz fc fn oc on_ row m (c+1):=fun b=>by simp
      rw [hlist]
      refine (loopR_next ?_).trans (loop17_1p gf fewf z go fewo g hr m (c+1) _ (by omega) (by simp only [List.length_append,List.length_cons,List.length_nil];omega))
      cases L with
      | nil =>
        simp only [encC,rd17_1p,RT.val,mq,hki,h3,x1,x2,y1,y2,r1,r2,hb,o1,o2,decide_true,Bool.not_false,cond_true,cond_false]
        rfl
      | cons a r =>
        have k1:((a::r).length+1)*40≤140737488355328:=by omega
        have k2:(a::r).length+1≤4611686018427387904:=by omega
        have k3:0+(a::r).length*5≤Array.size (arrC (a::r)):=by rw [size_arrC];omega
        have ap:=apB_arrC (a::r) ⟨sLo xl sz c,sHi xl xh sz c,sLo yl sz row,sHi yl yh sz row,opn oc on_ (sLo xl sz c) (sHi xl xh sz c) (sLo yl sz row) (sHi yl yh sz row)⟩;unfold Cel.row at ap;simp only [encC,rd17_1p,RT.val,mq,hki,h3,x1,x2,y1,y2,r1,r2,hb,o1,o2,k1,k2,k3,ap,allFz_arrC,decide_true,Bool.and_self,Bool.not_false,cond_true,cond_false]
        show some (Sum.inl (X17_1p.mk _ _ _ _ _ _ _ _ _ _ _ _ _ _ _ _ _ _ _ _ _ _ _ _))=some (Sum.inl (X17_1p.mk _ _ _ _ _ _ _ _ _ _ _ _ _ _ _ _ _ _ _ _ _ _ _ _))
        simp only [List.length_append,List.length_cons,List.length_nil,List.cons_append]
def endO (L:List Cel)(xl xh yl yh sz:Int)(fc:Array Value)(fn:Nat)(oc:Array Value)(on_:Nat)(bx b_y st sp fu lk tu:Int):D17_0:=match L with
  | []=>.k0 xl xh yl yh sz fc 0 fn oc 0 on_ bx b_y st sp fu lk tu
  | a::r=>.k1 (arrC (a::r)) (a::r).length xl xh yl yh sz fc 0 fn oc 0 on_ bx b_y st sp fu lk tu
theorem loop17_0 (gf:GL I5 5 fc fn)(fewf:fn≤1000)(z:∀k,k<fn→fxC fc k=0)(go:GL S6 6 oc on_)(fewo:on_≤1000)(g:Grid xl xh yl yh sz W H) :
    ∀(m r:Nat) (L:List Cel),r+m=H→L.length+m*W≤900 →
    loopR rd17_0 ⟨encC L,(H:Int),(r:Int),xl,xh,yl,yh,sz,fc,0,fn,oc,0,on_,bx,b_y,st,sp,fu,lk,tu⟩ =
    some (endO (L++allL xl xh yl yh sz fc fn oc on_ W m r) xl xh yl yh sz fc fn oc on_ bx b_y st sp fu lk tu)
  | 0,r,L,e,_=>by
    obtain rfl:r=H:=by omega
    have z1:¬(r:Int)<(r:Int):=by omega
    rw [show L++allL xl xh yl yh sz fc fn oc on_ W 0 r=L from List.append_nil L]
    cases L with
    | nil=>exact loopR_done (by simp only [encC,rd17_0,RT.val,mq,z1,decide_false,cond_false];rfl)
    | cons a s=>exact loopR_done (by simp only [encC,rd17_0,RT.val,mq,z1,allFz_arrC,decide_false,cond_true,cond_false];rfl)
  | m+1,r,L,e,hl=>by
    have hr:r<H:=by omega
    have hW:W≤60:=by
      have:=Nat.mul_le_mul_left W g.h1;have:=g.n
      omega
    have hH:H≤60:=by
      have:=Nat.mul_le_mul_right H g.w1;have:=g.n
      omega
    rw [Nat.add_mul,Nat.one_mul]at hl
    have hki:(r:Int)<(H:Int):=by omega
    have h3:IntKind.wrap .i64 ((r:Int)+1)=((r+1:Nat):Int):=by rw [wrap64_id (by omega) (by omega)];omega
    have hs0:sz≠0:=by have:=g.s;omega
    obtain ⟨s1,s2⟩:=F45_of xl xh sz hs0;rw [g.w.1]at s2;have rl:=rowL_len (xl:=xl) (xh:=xh) (yl:=yl) (yh:=yh) (sz:=sz) (fc:=fc) (fn:=fn) (oc:=oc) (on_:=on_) r W 0
    have hlist:L++allL xl xh yl yh sz fc fn oc on_ W (m+1) r=(L++rowL xl xh yl yh sz fc fn oc on_ r W 0)++allL xl xh yl yh sz fc fn oc on_ W m (r+1):=by
      show L++(rowL xl xh yl yh sz fc fn oc on_ r W 0++allL xl xh yl yh sz fc fn oc on_ W m (r+1))=_
      rw [List.append_assoc]
    rw [hlist]
    refine (loopR_next ?_).trans (loop17_0 gf fewf z go fewo g m (r+1) _ (by omega) (by rw [List.length_append];omega))
    cases L with
    | nil =>
      have l:L17_1 (X17_1.mk none (r:Int) (H:Int) (r:Int) (W:Int) 0 xl xh yl yh sz fc 0 fn oc 0 on_ bx b_y st sp fu lk tu)=_:=loop17_1 gf fewf z go fewo g hr W 0 [] (by omega) (by simp only [List.length_nil];omega)
      rw [List.nil_append]at l ⊢
      cases hq:rowL xl xh yl yh sz fc fn oc on_ r W 0 with
      | nil =>
        rw [hq]at l;simp only [encC,rd17_0,RT.val,mq,hki,h3,s1,s2,L17_1_k0,Qp0,Qp1,Qp2,Qp3,Qp4,Qp5,Qp6,Qp7,Qp8,Qp9,Qp10,Qp11,Qp12,Qp13,Qp14,Qp15,Qp16,Qp17,Qp18,Qp19,l,endC,eqCode_self,decide_true,cond_true]
      | cons a s =>
        rw [hq]at l;simp only [encC,rd17_0,RT.val,mq,hki,h3,s1,s2,L17_1_k0,L17_1_k1,Qq0,Qq1,Qq2,Qq3,Qq4,Qq5,Qq6,Qq7,Qq8,Qq9,Qq10,Qq11,Qq12,Qq13,Qq14,Qq15,Qq16,Qq17,Qq18,Qq19,Qq20,Qq21,l,endC,allFz_arrC,eqCode_self,decide_true,cond_true,cond_false]
    | cons b t =>
      have l:L17_1p (X17_1p.mk (some (arrC (b::t),(b::t).length)) (r:Int) (H:Int) (r:Int) (W:Int) 0 xl xh yl yh sz fc 0 fn oc 0 on_ bx b_y st sp fu lk tu)=_:=loop17_1p gf fewf z go fewo g hr W 0 (b::t) (by omega) (by omega)
      rw [List.cons_append]at l;simp only [encC,rd17_0,RT.val,mq,hki,h3,s1,s2,L17_1p_k0,L17_1p_k1,Qs0,Qs1,Qs2,Qs3,Qs4,Qs5,Qs6,Qs7,Qs8,Qs9,Qs10,Qs11,Qs12,Qs13,Qs14,Qs15,Qs16,Qs17,Qs18,Qs19,Qs20,Qs21,l,endCp,allFz_arrC,eqCode_self,decide_true,cond_true,cond_false]
      rfl
theorem allL_len:∀m r,(allL xl xh yl yh sz fc fn oc on_ W m r).length≤m*W
  | 0,_=>Nat.zero_le _
  | m+1,r=>by
    have a:=allL_len m (r+1);have b:=rowL_len (xl:=xl) (xh:=xh) (yl:=yl) (yh:=yh) (sz:=sz) (fc:=fc) (fn:=fn) (oc:=oc) (on_:=on_) r W 0
    show (rowL xl xh yl yh sz fc fn oc on_ r W 0++allL xl xh yl yh sz fc fn oc on_ W m (r+1)).length≤_
    rw [List.length_append,Nat.add_mul,Nat.one_mul]
    omega
theorem F17_of (gf:GL I5 5 fc fn)(fewf:fn≤1000)(z:∀k,k<fn→fxC fc k=0)(go:GL S6 6 oc on_)(fewo:on_≤1000)(g:Grid xl xh yl yh sz W H) :
    F17 xl xh yl yh sz fc 0 fn oc 0 on_ bx b_y st sp fu lk tu=some ⟨arrC (allL xl xh yl yh sz fc fn oc on_ W H 0),0,(allL xl xh yl yh sz fc fn oc on_ W H 0).length⟩:=by
  have hs0:sz≠0:=by have:=g.s;omega
  obtain ⟨s1,s2⟩:=F45_of yl yh sz hs0;rw [g.h.1]at s2
  have hn:H*W≤60:=by rw [Nat.mul_comm];exact g.n
  have l:L17_0 (X17_0.mk none (H:Int) 0 xl xh yl yh sz fc 0 fn oc 0 on_ bx b_y st sp fu lk tu)=_:=loop17_0 gf fewf z go fewo g H 0 [] (by omega) (by simp only [List.length_nil];omega)
  rw [List.nil_append]at l
  have hY:Y17_0 xl xh yl yh sz fc 0 fn oc 0 on_ bx b_y st sp fu lk tu=X17_0.mk none (H:Int) 0 xl xh yl yh sz fc 0 fn oc 0 on_ bx b_y st sp fu lk tu:=by unfold Y17_0;rw [s2]
  unfold F17 rt17
  cases hq:allL xl xh yl yh sz fc fn oc on_ W H 0 with
  | nil =>
    rw [hq]at l;simp only [RT.val,mq,s1,hY,L17_0_k0,l,endO,eqCode_self,cond_true]
    rfl
  | cons a r =>
    rw [hq]at l
    have k3:0+(a::r).length*5≤Array.size (arrC (a::r)):=by rw [size_arrC];omega
    simp only [RT.val,mq,s1,hY,L17_0_k0,L17_0_k1,Qu0,Qu1,l,endO,allFz_arrC,k3,eqCode_self,decide_true,Bool.and_self,cond_true,cond_false]
end
theorem fst1_noneR {E:Nat→Int}:∀{m k:Nat},fst1 E m k=none→∀j,k≤j→j<k+m→E j=0
  | 0,k,h,j,h1,h2=>by omega
  | m+1,k,h,j,h1,h2=>by
    unfold fst1 at h
    by_cases he:E k=0
    · rw [if_pos he]at h
      rcases Nat.eq_or_lt_of_le h1 with rfl | h3
      · exact he
      · exact fst1_noneR h j h3 (by omega)
    · rw [if_neg he]at h;cases h
def cels (xl xh yl yh sz:Int)(fc:Array Value)(fn:Nat)(oc:Array Value)(on_:Nat):List Cel:=allL xl xh yl yh sz fc fn oc on_ (str xl xh sz).toNat (str yl yh sz).toNat 0
section
variable {xl xh yl yh sz:Int}{fc:Array Value}{fn:Nat}{oc:Array Value}{on_:Nat}{bx b_y st sp fu lk tu:Int}{x y:Int}
structure Tsk (xl xh yl yh sz:Int) (fc:Array Value) (fn:Nat) (oc:Array Value) (on_:Nat) (W H:Nat):Prop where
  g:Grid xl xh yl yh sz W H
  f6:fn≤6
  z:∀k,k<fn→fxC fc k=0
  o6:on_≤6
  c:cels xl xh yl yh sz fc fn oc on_=allL xl xh yl yh sz fc fn oc on_ W H 0
theorem tsk_of (h:(ckR xl xh yl yh sz fc fn oc on_ bx b_y st sp fu lk tu).2.2=0):∃W H,Tsk xl xh yl yh sz fc fn oc on_ W H:=by
  unfold ckR at h
  by_cases h1:grE xl xh yl yh sz=0
  · rw [if_pos h1]at h
    by_cases h2:(fiF fc fn).2=0
    · rw [if_pos h2]at h
      by_cases h3:(owF oc on_).2=0
      · obtain ⟨W,H,g⟩:=grid_of h1
        refine ⟨W,H,g,?_,?_,?_,?_⟩
        · unfold fiF at h2
          by_cases h6:6<fn
          · rw [if_pos h6]at h2;cases h2
          · omega
        · unfold fiF at h2
          by_cases h6:6<fn
          · rw [if_pos h6]at h2;cases h2
          · rw [if_neg h6]at h2
            cases hf:fst1 (fxC fc) fn 0 with
            | some ir =>
              obtain ⟨i,r⟩:=ir;rw [hf]at h2;exact absurd h2 (fst1_ne hf)
            | none=>exact fun k hk=>fst1_noneR hf k (by omega) (by omega)
        · unfold owF at h3
          by_cases h6:6<on_
          · rw [if_pos h6]at h3;cases h3
          · omega
        · unfold cels
          rw [g.w.1,g.h.1,Int.toNat_natCast,Int.toNat_natCast]
      · rw [if_neg h3]at h;exact absurd h h3
    · rw [if_neg h2]at h;exact absurd h h2
  · rw [if_neg h1]at h;exact absurd h h1
theorem F5_eq (gf:GL I5 5 fc fn)(go:GL S6 6 oc on_):F5 xl xh yl yh sz fc 0 fn oc 0 on_ bx b_y st sp fu lk tu =
    some (if (ckR xl xh yl yh sz fc fn oc on_ bx b_y st sp fu lk tu).2.2=0 then ⟨arrC (cels xl xh yl yh sz fc fn oc on_),0,(cels xl xh yl yh sz fc fn oc on_).length,0⟩
      else ⟨⟨[]⟩,0,0,(ckR xl xh yl yh sz fc fn oc on_ bx b_y st sp fu lk tu).2.2⟩):=by
  have p:=F16_eq (xl:=xl) (xh:=xh) (yl:=yl) (yh:=yh) (sz:=sz) (bx:=bx) (b_y:=b_y) (st:=st) (sp:=sp) (fu:=fu) (lk:=lk) (tu:=tu) gf go
  by_cases h:(ckR xl xh yl yh sz fc fn oc on_ bx b_y st sp fu lk tu).2.2=0
  · rw [if_pos h]
    obtain ⟨W,H,t⟩:=tsk_of h
    have q:=F17_of (xl:=xl) (xh:=xh) (yl:=yl) (yh:=yh) (sz:=sz) (bx:=bx) (b_y:=b_y) (st:=st) (sp:=sp) (fu:=fu) (lk:=lk) (tu:=tu) gf (by have:=t.f6;omega) t.z go (by have:=t.o6;omega) t.g
    rw [← t.c]at q;unfold F5 rt5;simp only [RT.val,mq,F16_ok,F16_2,p,h,F17_ok,F17_0,F17_1,F17_2,q,Option.isSome_some,decide_true,Bool.not_true,cond_true,cond_false]
  · rw [if_neg h]
    unfold F5 rt5;simp only [RT.val,mq,F16_ok,F16_2,p,h,Option.isSome_some,decide_false,Bool.not_false,cond_true]
def clE (x y:Int)(c:Array Value)(k:Nat):Int:=if (inB x (getInt c (k*5)) (getInt c (k*5+1))&&inB y (getInt c (k*5+2)) (getInt c (k*5+3)))=true then 1 else 0
theorem step8 (L:List Cel)(few:L.length≤1000)(k:Nat)(hk:k<L.length) :
    (rd8_0 ⟨arrC L,0,L.length,(L.length:Int),(k:Int),xl,xh,yl,yh,sz,fc,0,fn,oc,0,on_,bx,b_y,st,sp,fu,lk,tu,x,y⟩).val =
    some (if clE x y (arrC L) k=0 then .inl ⟨arrC L,0,L.length,(L.length:Int),((k+1:Nat):Int),xl,xh,yl,yh,sz,fc,0,fn,oc,0,on_,bx,b_y,st,sp,fu,lk,tu,x,y⟩ else .inr (.k0 (k:Int) 0 xl xh yl yh sz fc 0 fn oc 0 on_ bx b_y st sp fu lk tu x y)):=by
  have hki:(k:Int)<(L.length:Int):=by omega
  have h0:(0:Int)≤(k:Int):=by omega
  have h3:IntKind.wrap .i64 ((k:Int)+1)=((k+1:Nat):Int):=by rw [wrap64_id (by omega) (by omega)];omega
  have hr:=rdC L hk;unfold I5 at hr;unfold clE;simp only [rd8_0,RT.val,mq,hki,h0,h3,Nat.zero_add,hr,Nat.add_assoc,Nat.reduceAdd,(F20_of _ _ _).1,(F20_of _ _ _).2,Int.toNat_natCast,Int.ofNat_eq_natCast,decide_true,Bool.and_self,cond_true]
  cases inB x (getInt (arrC L) (k*5)) (getInt (arrC L) (k*5+1))<;>cases inB y (getInt (arrC L) (k*5+2)) (getInt (arrC L) (k*5+3))<;>rfl
def ceF (L:List Cel)(x y:Int):Int×Int:=match fst1 (clE x y (arrC L)) L.length 0 with | some (i,_)=>((i:Int),0) | none=>(0,4)
theorem cels_len {W H:Nat}(t:Tsk xl xh yl yh sz fc fn oc on_ W H):(cels xl xh yl yh sz fc fn oc on_).length≤60:=by
  rw [t.c];have a:=allL_len (xl:=xl) (xh:=xh) (yl:=yl) (yh:=yh) (sz:=sz) (fc:=fc) (fn:=fn) (oc:=oc) (on_:=on_) (W:=W) H 0;have b:=t.g.n;rw [Nat.mul_comm]at b
  omega
theorem F8_eq (gf:GL I5 5 fc fn)(go:GL S6 6 oc on_):F8 xl xh yl yh sz fc 0 fn oc 0 on_ bx b_y st sp fu lk tu x y =
    some (if (ckR xl xh yl yh sz fc fn oc on_ bx b_y st sp fu lk tu).2.2=0 then ⟨(ceF (cels xl xh yl yh sz fc fn oc on_) x y).1,(ceF (cels xl xh yl yh sz fc fn oc on_) x y).2⟩
      else ⟨0,(ckR xl xh yl yh sz fc fn oc on_ bx b_y st sp fu lk tu).2.2⟩):=by
  have p:=F5_eq (xl:=xl) (xh:=xh) (yl:=yl) (yh:=yh) (sz:=sz) (bx:=bx) (b_y:=b_y) (st:=st) (sp:=sp) (fu:=fu) (lk:=lk) (tu:=tu) gf go
  by_cases h:(ckR xl xh yl yh sz fc fn oc on_ bx b_y st sp fu lk tu).2.2=0
  · rw [if_pos h]at p ⊢
    obtain ⟨W,H,t⟩:=tsk_of h;have hl:=cels_len t;obtain ⟨L,hL⟩:∃L,cels xl xh yl yh sz fc fn oc on_=L:=⟨_,rfl⟩;rw [hL]at p hl ⊢
    have z1:¬(L.length:Int)<(L.length:Int):=by omega
    have l:L8_0 (X8_0.mk (arrC L) 0 L.length (L.length:Int) 0 xl xh yl yh sz fc 0 fn oc 0 on_ bx b_y st sp fu lk tu x y)=some (match fst1 (clE x y (arrC L)) L.length 0 with | some (i,r)=>.k0 (i:Int) 0 xl xh yl yh sz fc 0 fn oc 0 on_ bx b_y st sp fu lk tu x y | none=>.k1 xl xh yl yh sz fc 0 fn oc 0 on_ bx b_y st sp fu lk tu x y) :=
      loop_fst (rd:=rd8_0) (S:=fun k=>X8_0.mk (arrC L) 0 L.length (L.length:Int) (k:Int) xl xh yl yh sz fc 0 fn oc 0 on_ bx b_y st sp fu lk tu x y) (E:=clE x y (arrC L)) (n:=L.length) (err:=fun i r=>.k0 (i:Int) 0 xl xh yl yh sz fc 0 fn oc 0 on_ bx b_y st sp fu lk tu x y) (fin:=.k1 xl xh yl yh sz fc 0 fn oc 0 on_ bx b_y st sp fu lk tu x y)
        (fun k hk=>step8 L (by omega) k hk) (by simp only [rd8_0,RT.val,mq,z1,decide_false,cond_false]) L.length 0 (by omega)
    unfold F8 rt8 ceF;simp only [RT.val,mq,F5_ok,F5_0,F5_1,F5_2,F5_3,p,Int.ofNat_eq_natCast,Option.isSome_some,eqCode_self,decide_true,Bool.not_true,cond_true,cond_false]
    cases hf:fst1 (clE x y (arrC L)) L.length 0 with
    | some ir =>
      obtain ⟨i,r⟩:=ir;rw [hf]at l;simp only [L8_0_k0,QE0,QE1,l,cond_true]
    | none =>
      rw [hf]at l;simp only [L8_0_k0,L8_0_k1,l,cond_true,cond_false]
  · rw [if_neg h]at p ⊢
    unfold F8 rt8;simp only [RT.val,mq,F5_ok,F5_3,p,h,Option.isSome_some,decide_false,Bool.not_false,cond_true]
end
end
end Go.Proofs.YtoghoeebiddblaaGreat
namespace Go.Proofs.YtoghoeebiddblaaGreat
open Go.Gi Go.RowKit
noncomputable section
set_option maxRecDepth 100000
set_option maxHeartbeats 2000000
theorem F81_of {fx fy dx d_y tn x y:Int}(h:Fx fx fy dx d_y tn) (hx:-100000000≤x∧x≤100000000) (hy:-100000000≤y∧y≤100000000) (k:Nat) :
    F81_ok fx fy dx d_y tn x y (k:Int)=true∧F81_0 fx fy dx d_y tn x y (k:Int)=cnd fx fy dx d_y tn x y k:=by
  have w:=wf_of h hx hy
  have q:F81 fx fy dx d_y tn x y (k:Int)=some ⟨cnd fx fy dx d_y tn x y k⟩:=by
    unfold F81 rt81 cnd
    by_cases h0:k=0
    · have i0:(k:Int)=0:=by omega
      rw [if_pos h0];simp only [RT.val,mq,i0,w.ex,w.ey,w.m1,w.m2,w.f,decide_true,cond_true]
    · have i0:¬(k:Int)=0:=by omega
      rw [if_neg h0]
      by_cases h1:k=1
      · have i1:(k:Int)=1:=by omega
        have n1:¬(1:Int)=0:=by omega
        rw [if_pos h1];simp only [RT.val,mq,i1,n1,w.ex,w.ey,w.m1,w.m2,w.m3,w.m4,w.f,w.a,w.t,w.p,decide_true,decide_false,cond_true,cond_false]
      · have i1:¬(k:Int)=1:=by omega
        rw [if_neg h1];simp only [RT.val,mq,i0,i1,w.ex,w.ey,w.m1,w.m2,w.m3,w.m4,w.f,w.a,w.t,w.q,decide_true,decide_false,cond_true,cond_false]
  exact ⟨by simp only [F81_ok,q];rfl,by simp only [F81_0,q]⟩
def ruE (fx fy dx d_y tn xl xh yl yh:Int)(k:Nat):Int:=if anyC fx fy dx d_y tn xl xh yl yh k=true then 0 else 1
theorem ruE_eq (fx fy dx d_y tn xl xh yl yh:Int):(fst1 (ruE fx fy dx d_y tn xl xh yl yh) 3 0).isSome=ruB fx fy dx d_y tn xl xh yl yh:=by
  unfold ruB;simp only [fst1,ruE]
  rcases Bool.eq_false_or_eq_true (anyC fx fy dx d_y tn xl xh yl yh 0) with a0 | a0<;>rcases Bool.eq_false_or_eq_true (anyC fx fy dx d_y tn xl xh yl yh 1) with a1 | a1<;>rcases Bool.eq_false_or_eq_true (anyC fx fy dx d_y tn xl xh yl yh 2) with a2 | a2<;>simp [a0,a1,a2]
theorem F52_of {fx fy dx d_y tn xl xh yl yh:Int}(h:Fx fx fy dx d_y tn) (a:Ar xl xh yl yh):F52_ok fx fy dx d_y tn xl xh yl yh=true∧F52_0 fx fy dx d_y tn xl xh yl yh=ruB fx fy dx d_y tn xl xh yl yh:=by
  have hs:∀k:Nat,k<3→(rd52_0 ⟨(k:Int),fx,fy,dx,d_y,tn,xl,xh,yl,yh⟩).val=some (if ruE fx fy dx d_y tn xl xh yl yh k=0 then .inl ⟨((k+1:Nat):Int),fx,fy,dx,d_y,tn,xl,xh,yl,yh⟩ else .inr (.k0 true fx fy dx d_y tn xl xh yl yh)):=by
    intro k hk
    have i:(k:Int)<3:=by omega
    have h3:IntKind.wrap .i64 ((k:Int)+1)=((k+1:Nat):Int):=by rw [wrap64_id (by omega) (by omega)];omega
    unfold ruE;simp only [rd52_0,RT.val,mq,i,h3,(F81_of h a.a a.c k).1,(F81_of h a.a a.c k).2,(F81_of h a.b a.c k).1,(F81_of h a.b a.c k).2,(F81_of h a.a a.d k).1,(F81_of h a.a a.d k).2,(F81_of h a.b a.d k).1,(F81_of h a.b a.d k).2,decide_true,cond_true];unfold anyC
    cases cnd fx fy dx d_y tn xl yl k<;>cases cnd fx fy dx d_y tn xh yl k<;>cases cnd fx fy dx d_y tn xl yh k<;>cases cnd fx fy dx d_y tn xh yh k<;>rfl
  have z1:¬((3:Nat):Int)<3:=by omega
  have l:L52_0 (X52_0.mk 0 fx fy dx d_y tn xl xh yl yh)=some (match fst1 (ruE fx fy dx d_y tn xl xh yl yh) 3 0 with | some (i,r)=>.k0 true fx fy dx d_y tn xl xh yl yh | none=>.k1 fx fy dx d_y tn xl xh yl yh) :=
    loop_fst (rd:=rd52_0) (S:=fun k=>X52_0.mk (k:Int) fx fy dx d_y tn xl xh yl yh) (E:=ruE fx fy dx d_y tn xl xh yl yh) (n:=3) (err:=fun _ _=>.k0 true fx fy dx d_y tn xl xh yl yh) (fin:=.k1 fx fy dx d_y tn xl xh yl yh) hs (by simp only [rd52_0,RT.val,mq,z1,decide_false,cond_false]) 3 0 (by omega)
  have e:=ruE_eq fx fy dx d_y tn xl xh yl yh
  have q:F52 fx fy dx d_y tn xl xh yl yh=some ⟨ruB fx fy dx d_y tn xl xh yl yh⟩:=by
    rw [← e];unfold F52 rt52;simp only [RT.val,mq,eqCode_self,cond_true]
    cases hf:fst1 (ruE fx fy dx d_y tn xl xh yl yh) 3 0 with
    | some ir =>
      rw [hf]at l;simp only [L52_0_k0,Qv0,l,Option.isSome_some,cond_true]
    | none =>
      rw [hf]at l;simp only [L52_0_k0,L52_0_k1,l,Option.isSome_none,cond_true,cond_false]
  constructor
  · unfold F52_ok;rw [q];rfl
  · unfold F52_0;rw [q]
theorem F82_of2 (a b c d:Int):F82_ok a b c d=true∧F82_0 a b c d=!(decide (a≤d)&&decide (c≤b)):=by
  have q:F82 a b c d=some ⟨!(decide (a≤d)&&decide (c≤b))⟩:=by
    unfold F82 rt82
    by_cases h:d<a
    · have h':¬a≤d:=by omega
      simp [RT.val,mq,h,h']
    · have h':a≤d:=by omega
      by_cases h2:b<c
      · have h2':¬c≤b:=by omega
        simp [RT.val,mq,h,h',h2,h2']
      · have h2':c≤b:=by omega
        simp [RT.val,mq,h,h',h2,h2']
  exact ⟨by simp only [F82_ok,q];rfl,by simp only [F82_0,q]⟩
section
variable {xl xh yl yh sz:Int}{fc:Array Value}{fn:Nat}{oc:Array Value}{on_:Nat}{bx b_y st sp fu lk tu:Int}{p q r s:Int}
theorem loop53 (go:GL S6 6 oc on_)(few:on_≤1000):∀(m k:Nat) (a:Int),k+m=on_ →
    loopR rd53_0 ⟨a,(k:Int),xl,xh,yl,yh,sz,fc,0,fn,oc,0,on_,bx,b_y,st,sp,fu,lk,tu,p,q,r,s⟩ =
    some (match opO oc p q r s m k a with | none=>.k0 (-1) xl xh yl yh sz fc 0 fn oc 0 on_ bx b_y st sp fu lk tu p q r s | some b=>.k1 b xl xh yl yh sz fc 0 fn oc 0 on_ bx b_y st sp fu lk tu p q r s)
  | 0,k,a,e=>by
    obtain rfl:k=on_:=by omega
    have z1:¬(k:Int)<(k:Int):=by omega
    exact loopR_done (by simp only [rd53_0,RT.val,mq,Int.ofNat_eq_natCast,z1,decide_false,cond_false,opO])
  | m+1,k,a,e=>by
    have hki:(k:Int)<(on_:Int):=by omega
    have h0:(0:Int)≤(k:Int):=by omega
    have h3:IntKind.wrap .i64 ((k:Int)+1)=((k+1:Nat):Int):=by rw [wrap64_id (by omega) (by omega)];omega
    have hr:=row6 go (show k<on_ by omega)
    unfold S6 at hr;unfold opO
    cases ha:(decide (getInt oc (k*6+1)≤q)&&decide (p≤getInt oc (k*6+2))) with
    | false =>
      have hm:mtB (getInt oc (k*6+1)) (getInt oc (k*6+2)) (getInt oc (k*6+3)) (getInt oc (k*6+4)) p q r s=false:=by unfold mtB;rw [ha];rfl
      rw [hm,if_neg (by decide)]
      refine (loopR_next ?_).trans (loop53 go few m (k+1) a (by omega))
      simp only [rd53_0,RT.val,mq,hki,h0,h3,Nat.zero_add,hr,Nat.add_assoc,Nat.reduceAdd,(F82_of2 _ _ _ _).1,(F82_of2 _ _ _ _).2,ha,Int.toNat_natCast,Int.ofNat_eq_natCast,decide_true,Bool.and_self,Bool.not_false,cond_true]
    | true =>
    cases hb:(decide (getInt oc (k*6+3)≤s)&&decide (r≤getInt oc (k*6+4))) with
    | false =>
      have hm:mtB (getInt oc (k*6+1)) (getInt oc (k*6+2)) (getInt oc (k*6+3)) (getInt oc (k*6+4)) p q r s=false:=by unfold mtB;rw [ha,hb];rfl
      rw [hm,if_neg (by decide)]
      refine (loopR_next ?_).trans (loop53 go few m (k+1) a (by omega))
      simp only [rd53_0,RT.val,mq,hki,h0,h3,Nat.zero_add,hr,Nat.add_assoc,Nat.reduceAdd,(F82_of2 _ _ _ _).1,(F82_of2 _ _ _ _).2,ha,hb,Int.toNat_natCast,Int.ofNat_eq_natCast,decide_true,Bool.and_self,Bool.not_true,Bool.not_false,cond_true,cond_false]
    | true =>
      have hm:mtB (getInt oc (k*6+1)) (getInt oc (k*6+2)) (getInt oc (k*6+3)) (getInt oc (k*6+4)) p q r s=true:=by unfold mtB;rw [ha,hb];rfl
      rw [hm,if_pos rfl]
      by_cases hg:getInt oc (k*6+5)=-1
      · rw [if_pos hg]
        refine loopR_done ?_
        simp only [rd53_0,RT.val,mq,hki,h0,h3,Nat.zero_add,hr,Nat.add_assoc,Nat.reduceAdd,(F82_of2 _ _ _ _).1,(F82_of2 _ _ _ _).2,ha,hb,hg,Int.toNat_natCast,Int.ofNat_eq_natCast,decide_true,Bool.and_self,Bool.not_true,cond_true,cond_false]
      · rw [if_neg hg]
        refine (loopR_next ?_).trans (loop53 go few m (k+1) (max a (getInt oc (k*6+5))) (by omega))
        simp only [rd53_0,RT.val,mq,hki,h0,h3,Nat.zero_add,hr,Nat.add_assoc,Nat.reduceAdd,(F82_of2 _ _ _ _).1,(F82_of2 _ _ _ _).2,ha,hb,hg,Int.toNat_natCast,Int.ofNat_eq_natCast,decide_true,decide_false,Bool.and_self,Bool.not_true,cond_true,cond_false]
theorem F53_of (go:GL S6 6 oc on_)(few:on_≤1000):F53_ok xl xh yl yh sz fc 0 fn oc 0 on_ bx b_y st sp fu lk tu p q r s=true∧F53_0 xl xh yl yh sz fc 0 fn oc 0 on_ bx b_y st sp fu lk tu p q r s=opn oc on_ p q r s:=by
  have l:L53_0 (X53_0.mk 0 0 xl xh yl yh sz fc 0 fn oc 0 on_ bx b_y st sp fu lk tu p q r s)=_:=loop53 go few on_ 0 0 (by omega)
  have e:F53 xl xh yl yh sz fc 0 fn oc 0 on_ bx b_y st sp fu lk tu p q r s=some ⟨opn oc on_ p q r s⟩:=by
    unfold F53 rt53 opn;simp only [RT.val,mq,eqCode_self,cond_true]
    cases hf:opO oc p q r s on_ 0 0 with
    | none =>
      rw [hf]at l;simp only [L53_0_k0,Qx0,l,cond_true]
    | some b =>
      rw [hf]at l;simp only [L53_0_k0,L53_0_k1,Qy0,l,cond_true,cond_false]
  exact ⟨by simp only [F53_ok,e];rfl,by simp only [F53_0,e]⟩
end
theorem F51_of {lo hi sz:Int}{W i:Nat}(h:lo≤hi) (h1:-100000000≤lo) (h2:hi≤100000000) (hs:1≤sz∧sz≤100000000) (hw:(W:Int)=(hi-lo) / sz+1) (hi':i<W) :
    F51_0 lo hi sz (i:Int)=sLo lo sz i∧F51_1 lo hi sz (i:Int)=sHi lo hi sz i:=by
  have m0:0≤(i:Int)*sz:=Int.mul_nonneg (by omega) (by omega)
  have m1:(i:Int)*sz≤((hi-lo) / sz)*sz:=Int.mul_le_mul_of_nonneg_right (by omega) (by omega)
  have m2:((hi-lo) / sz)*sz≤hi-lo:=Int.ediv_mul_le _ (by omega)
  have m3:(i:Int)*1≤(i:Int)*sz:=Int.mul_le_mul_of_nonneg_left hs.1 (by omega)
  have w1:IntKind.wrap .i64 ((i:Int)*sz)=(i:Int)*sz:=wrap64_id (by omega) (by omega)
  have w2:IntKind.wrap .i64 (lo+(i:Int)*sz)=lo+(i:Int)*sz:=wrap64_id (by omega) (by omega)
  have w5:IntKind.wrap .i64 ((i:Int)+1)=(i:Int)+1:=wrap64_id (by omega) (by omega)
  have w6:IntKind.wrap .i64 (((i:Int)+1)*sz)=(i:Int)*sz+sz:=by rw [Int.add_mul,Int.one_mul];exact wrap64_id (by omega) (by omega)
  have w3:IntKind.wrap .i64 (lo+((i:Int)*sz+sz))=lo+((i:Int)*sz+sz):=wrap64_id (by omega) (by omega)
  have w4:IntKind.wrap .i64 (lo+((i:Int)*sz+sz)-1)=lo+((i:Int)*sz+sz)-1:=wrap64_id (by omega) (by omega)
  have q:F51 lo hi sz (i:Int)=some ⟨sLo lo sz i,sHi lo hi sz i⟩:=by
    unfold F51 rt51;simp only [RT.val,mq,w1,w2,w3,w4,w5,w6]
    have:min hi (lo+((i:Int)*sz+sz)-1)=sHi lo hi sz i:=by unfold sHi;omega
    rw [this]
    rfl
  exact ⟨by simp only [F51_0,q],by simp only [F51_1,q]⟩
theorem fst1_snoc {E:Nat→Int}:∀m j,(fst1 E (m+1) j).isSome=((fst1 E m j).isSome||decide (E (j+m)≠0))
  | 0,j=>by
    simp only [fst1,Nat.add_zero]
    by_cases h:E j=0<;>simp [h]
  | m+1,j=>by
    have ih:=fst1_snoc (E:=E) m (j+1)
    rw [show j+1+m=j+(m+1) by omega]at ih
    by_cases h:E j=0
    · have a:fst1 E (m+1+1) j=fst1 E (m+1) (j+1):=by rw [fst1,if_pos h]
      have b:fst1 E (m+1) j=fst1 E m (j+1):=by rw [fst1,if_pos h]
      rw [a,b,ih]
    · have a:fst1 E (m+1+1) j=some (j,E j):=by rw [fst1,if_neg h]
      have b:fst1 E (m+1) j=some (j,E j):=by rw [fst1,if_neg h]
      rw [a,b];rfl
def gn (fc:Array Value)(p q r s:Int)(k:Nat):Bool:=(fst1 (rlE fc p q r s) k 0).isSome
theorem gn_succ (fc:Array Value)(p q r s:Int)(k:Nat):gn fc p q r s (k+1)=(gn fc p q r s k||ruB (getInt fc (k*5)) (getInt fc (k*5+1)) (getInt fc (k*5+2)) (getInt fc (k*5+3)) (getInt fc (k*5+4)) p q r s):=by
  unfold gn;rw [fst1_snoc,Nat.zero_add]
  congr 1
  unfold rlE
  cases ruB (getInt fc (k*5)) (getInt fc (k*5+1)) (getInt fc (k*5+2)) (getInt fc (k*5+3)) (getInt fc (k*5+4)) p q r s<;>simp
section
variable {xl xh yl yh sz:Int}{fc:Array Value}{fn:Nat}{oc:Array Value}{on_:Nat}{bx b_y st sp fu lk tu:Int}{W H:Nat}{p q r s:Int}{w i:Int}
theorem step19 (gf:GL I5 5 fc fn)(few:fn≤1000)(ar:Ar p q r s)(z:∀k,k<fn→fxC fc k=0)(k:Nat)(hk:k<fn) :
    (rd19_1 ⟨w,i,gn fc p q r s k,(k:Int),xl,xh,yl,yh,sz,fc,0,fn,oc,0,on_,bx,b_y,st,sp,fu,lk,tu,p,q,r,s⟩).val =
    some (.inl ⟨w,i,gn fc p q r s (k+1),((k+1:Nat):Int),xl,xh,yl,yh,sz,fc,0,fn,oc,0,on_,bx,b_y,st,sp,fu,lk,tu,p,q,r,s⟩):=by
  have hki:(k:Int)<(fn:Int):=by omega
  have h0:(0:Int)≤(k:Int):=by omega
  have h3:IntKind.wrap .i64 ((k:Int)+1)=((k+1:Nat):Int):=by rw [wrap64_id (by omega) (by omega)];omega
  have hr:rdOk fc I5 (0+k*5)=true:=gf.good.2 k hk;unfold I5 at hr;rw [Nat.zero_add]at hr;obtain ⟨e1,e2⟩:=F52_of (fx_of (z k hk)) ar;rw [gn_succ]
  cases gn fc p q r s k with
  | true=>simp only [rd19_1,RT.val,mq,hki,h3,Int.ofNat_eq_natCast,decide_true,cond_true,Bool.true_or]
  | false=>simp only [rd19_1,RT.val,mq,hki,h0,h3,Nat.zero_add,hr,Nat.add_assoc,Nat.reduceAdd,e1,e2,Int.toNat_natCast,Int.ofNat_eq_natCast,decide_true,Bool.and_self,Bool.false_or,cond_true,cond_false]
theorem step19p (gf:GL I5 5 fc fn)(few:fn≤1000)(ar:Ar p q r s)(z:∀k,k<fn→fxC fc k=0) {ol:Nat}(L:List Cel) (k:Nat) (hk:k<fn) :
    (rd19_1p ⟨ol,w,i,gn fc p q r s k,(k:Int),xl,xh,yl,yh,sz,fc,0,fn,oc,0,on_,bx,b_y,st,sp,fu,lk,tu,arrC L,p,q,r,s⟩).val =
    some (.inl ⟨ol,w,i,gn fc p q r s (k+1),((k+1:Nat):Int),xl,xh,yl,yh,sz,fc,0,fn,oc,0,on_,bx,b_y,st,sp,fu,lk,tu,arrC L,p,q,r,s⟩):=by
  have hki:(k:Int)<(fn:Int):=by omega
  have h0:(0:Int)≤(k:Int):=by omega
  have h3:IntKind.wrap .i64 ((k:Int)+1)=((k+1:Nat):Int):=by rw [wrap64_id (by omega) (by omega)];omega
  have hr:rdOk fc I5 (0+k*5)=true:=gf.good.2 k hk;unfold I5 at hr;rw [Nat.zero_add]at hr;obtain ⟨e1,e2⟩:=F52_of (fx_of (z k hk)) ar;rw [gn_succ]
  cases gn fc p q r s k with
  | true=>simp only [rd19_1p,RT.val,mq,hki,h3,allFz_arrC,Int.ofNat_eq_natCast,decide_true,cond_true,Bool.true_or]
  | false=>simp only [rd19_1p,RT.val,mq,hki,h0,h3,Nat.zero_add,hr,Nat.add_assoc,Nat.reduceAdd,e1,e2,allFz_arrC,Int.toNat_natCast,Int.ofNat_eq_natCast,decide_true,Bool.and_self,Bool.false_or,cond_true,cond_false]
theorem l19 (gf:GL I5 5 fc fn)(few:fn≤1000)(ar:Ar p q r s)(z:∀k,k<fn→fxC fc k=0) :
    L19_1 (X19_1.mk w i false 0 xl xh yl yh sz fc 0 fn oc 0 on_ bx b_y st sp fu lk tu p q r s)=some (.k0 w i (rlB fc fn p q r s) xl xh yl yh sz fc 0 fn oc 0 on_ bx b_y st sp fu lk tu p q r s):=by
  have z1:¬(fn:Int)<(fn:Int):=by omega
  exact loop_cnt (rd:=rd19_1) (S:=fun k=>X19_1.mk w i (gn fc p q r s k) (k:Int) xl xh yl yh sz fc 0 fn oc 0 on_ bx b_y st sp fu lk tu p q r s) (n:=fn)
    (fun k hk=>step19 gf few ar z k hk) (by simp only [rd19_1,RT.val,mq,Int.ofNat_eq_natCast,z1,decide_false,cond_false];rfl) fn 0 (by omega)
theorem l19p (gf:GL I5 5 fc fn)(few:fn≤1000)(ar:Ar p q r s)(z:∀k,k<fn→fxC fc k=0) {ol:Nat}(L:List Cel) :
    L19_1p (X19_1p.mk ol w i false 0 xl xh yl yh sz fc 0 fn oc 0 on_ bx b_y st sp fu lk tu (arrC L) p q r s)=some (.k0 ol w i (rlB fc fn p q r s) xl xh yl yh sz fc 0 fn oc 0 on_ bx b_y st sp fu lk tu (arrC L) p q r s):=by
  have z1:¬(fn:Int)<(fn:Int):=by omega
  exact loop_cnt (rd:=rd19_1p) (S:=fun k=>X19_1p.mk ol w i (gn fc p q r s k) (k:Int) xl xh yl yh sz fc 0 fn oc 0 on_ bx b_y st sp fu lk tu (arrC L) p q r s) (n:=fn)
    (fun k hk=>step19p gf few ar z L k hk) (by simp only [rd19_1p,RT.val,mq,allFz_arrC,Int.ofNat_eq_natCast,z1,decide_false,cond_true,cond_false];rfl) fn 0 (by omega)
def flatL (xl xh yl yh sz:Int)(fc:Array Value)(fn:Nat)(oc:Array Value)(on_:Nat)(W:Nat):Nat→Nat→List Cel
  | 0,_=>[]
  | m+1,k=>if rlB fc fn (sLo xl sz (k % W)) (sHi xl xh sz (k % W)) (sLo yl sz (k / W)) (sHi yl yh sz (k / W))=true then flatL xl xh yl yh sz fc fn oc on_ W m (k+1)
    else ⟨sLo xl sz (k % W),sHi xl xh sz (k % W),sLo yl sz (k / W),sHi yl yh sz (k / W),opn oc on_ (sLo xl sz (k % W)) (sHi xl xh sz (k % W)) (sLo yl sz (k / W)) (sHi yl yh sz (k / W))⟩::flatL xl xh yl yh sz fc fn oc on_ W m (k+1)
theorem flat_row (row n:Nat):∀m c,c+m=W→flatL xl xh yl yh sz fc fn oc on_ W (m+n) (row*W+c)=rowL xl xh yl yh sz fc fn oc on_ row m c++flatL xl xh yl yh sz fc fn oc on_ W n (row*W+W)
  | 0,c,e=>by
    obtain rfl:c=W:=by omega
    rw [Nat.zero_add];rfl
  | m+1,c,e=>by
    have hc:c<W:=by omega
    have e1:(row*W+c) % W=c:=by rw [Nat.add_comm,Nat.add_mul_mod_self_right];exact Nat.mod_eq_of_lt hc
    have e2:(row*W+c) / W=row:=by rw [Nat.add_comm,Nat.add_mul_div_right _ _ (by omega),Nat.div_eq_of_lt hc,Nat.zero_add]
    have ih:=flat_row row n m (c+1) (by omega)
    rw [show m+1+n=(m+n)+1 by omega]
    obtain ⟨X,hX⟩:∃X,flatL xl xh yl yh sz fc fn oc on_ W n (row*W+W)=X:=⟨_,rfl⟩;rw [hX]at ih ⊢;unfold flatL rowL
    rw [e1,e2,show row*W+c+1=row*W+(c+1) by omega,ih]
    split
    · rfl
    · rfl
theorem flat_all:∀m row,flatL xl xh yl yh sz fc fn oc on_ W (m*W) (row*W)=allL xl xh yl yh sz fc fn oc on_ W m row
  | 0,row=>by rw [Nat.zero_mul];rfl
  | m+1,row=>by
    have a:=flat_row (xl:=xl) (xh:=xh) (yl:=yl) (yh:=yh) (sz:=sz) (fc:=fc) (fn:=fn) (oc:=oc) (on_:=on_) (W:=W) row (m*W) W 0 (by omega)
    rw [Nat.add_zero]at a;rw [Nat.add_mul,Nat.one_mul,Nat.add_comm (m*W) W,a]
    show _=rowL xl xh yl yh sz fc fn oc on_ row W 0++allL xl xh yl yh sz fc fn oc on_ W m (row+1)
    rw [← flat_all m (row+1),Nat.add_mul,Nat.one_mul]
def endR (L:List Cel)(xl xh yl yh sz:Int)(fc:Array Value)(fn:Nat)(oc:Array Value)(on_:Nat)(bx b_y st sp fu lk tu:Int):D19_0:=match L with
  | []=>.k0 xl xh yl yh sz fc 0 fn oc 0 on_ bx b_y st sp fu lk tu
  | a::r=>.k1 (arrC (a::r)) (a::r).length xl xh yl yh sz fc 0 fn oc 0 on_ bx b_y st sp fu lk tu
theorem loop19 (gf:GL I5 5 fc fn)(fewf:fn≤1000)(z:∀k,k<fn→fxC fc k=0)(go:GL S6 6 oc on_)(fewo:on_≤1000)(g:Grid xl xh yl yh sz W H) :
    ∀(m k:Nat) (L:List Cel),k+m=W*H→L.length+m≤900 →
    loopR rd19_0 ⟨encC L,(W:Int),(k:Int),xl,xh,yl,yh,sz,fc,0,fn,oc,0,on_,bx,b_y,st,sp,fu,lk,tu⟩ =
    some (endR (L++flatL xl xh yl yh sz fc fn oc on_ W m k) xl xh yl yh sz fc fn oc on_ bx b_y st sp fu lk tu)
  | 0,k,L,e,_=>by
    have hs0:sz≠0:=by have:=g.s;omega
    obtain ⟨s1,s2⟩:=F50_of yl yh sz hs0;rw [g.h.1]at s2;have hn:=g.n;have e2:((W*H:Nat):Int)=(W:Int)*(H:Int):=Int.natCast_mul W H
    have w1:IntKind.wrap .i64 ((W:Int)*(H:Int))=((W*H:Nat):Int):=by rw [← e2];exact wrap64_id (by omega) (by omega)
    have z1:¬(k:Int)<((W*H:Nat):Int):=by omega
    rw [show L++flatL xl xh yl yh sz fc fn oc on_ W 0 k=L from List.append_nil L]
    cases L with
    | nil=>exact loopR_done (by simp only [encC,rd19_0,RT.val,mq,s1,s2,w1,z1,decide_false,cond_true,cond_false];rfl)
    | cons a s=>exact loopR_done (by simp only [encC,rd19_0,RT.val,mq,s1,s2,w1,z1,allFz_arrC,decide_false,cond_true,cond_false];rfl)
  | m+1,k,L,e,hl=>by
    have hs0:sz≠0:=by have:=g.s;omega
    obtain ⟨s1,s2⟩:=F50_of yl yh sz hs0;rw [g.h.1]at s2;have hn:=g.n;have hw1:=g.w1;have e2:((W*H:Nat):Int)=(W:Int)*(H:Int):=Int.natCast_mul W H
    have w1:IntKind.wrap .i64 ((W:Int)*(H:Int))=((W*H:Nat):Int):=by rw [← e2];exact wrap64_id (by omega) (by omega)
    have z1:(k:Int)<((W*H:Nat):Int):=by omega
    have h3:IntKind.wrap .i64 ((k:Int)+1)=((k+1:Nat):Int):=by rw [wrap64_id (by omega) (by omega)];omega
    have nw:¬(W:Int)=0:=by omega
    have tm:Int.tmod (k:Int) (W:Int)=((k % W:Nat):Int):=rfl;have td:Int.tdiv (k:Int) (W:Int)=((k / W:Nat):Int):=rfl;have hc:k % W<W:=Nat.mod_lt _ hw1
    have hr:k / W<H:=Nat.div_lt_of_lt_mul (by omega)
    have wd:IntKind.wrap .i64 ((k / W:Nat):Int)=((k / W:Nat):Int):=by
      have:=Nat.div_le_self k W
      generalize k / W=d at this ⊢
      exact wrap64_id (by omega) (by omega)
    have ar:=ar_of g hc hr;obtain ⟨x1,x2⟩:=F51_of g.x.1 g.x.2.1 g.x.2.2 g.s g.w.2 hc;obtain ⟨y1,y2⟩:=F51_of g.y.1 g.y.2.1 g.y.2.2 g.s g.h.2 hr;obtain ⟨o1,o2⟩:=F53_of (xl:=xl) (xh:=xh) (yl:=yl) (yh:=yh) (sz:=sz) (fc:=fc) (fn:=fn) (bx:=bx) (b_y:=b_y) (st:=st) (sp:=sp) (fu:=fu) (lk:=lk) (tu:=tu) (p:=sLo xl sz (k % W)) (q:=sHi xl xh sz (k % W)) (r:=sLo yl sz (k / W)) (s:=sHi yl yh sz (k / W)) go fewo;unfold flatL
    cases L with
    | nil =>
      have l:=l19 (xl:=xl) (xh:=xh) (yl:=yl) (yh:=yh) (sz:=sz) (oc:=oc) (on_:=on_) (bx:=bx) (b_y:=b_y) (st:=st) (sp:=sp) (fu:=fu) (lk:=lk) (tu:=tu) (w:=(W:Int)) (i:=(k:Int)) gf fewf ar z
      cases hb:rlB fc fn (sLo xl sz (k % W)) (sHi xl xh sz (k % W)) (sLo yl sz (k / W)) (sHi yl yh sz (k / W)) with
      | true =>
        rw [if_pos rfl];rw [hb]at l
        refine (loopR_next ?_).trans (loop19 gf fewf z go fewo g m (k+1) [] (by omega) (by simp only [List.length_nil]at hl ⊢;omega))
        simp only [encC,rd19_0,Ya,RT.val,mq,s1,s2,w1,z1,h3,nw,tm,td,wd,x1,x2,y1,y2,L19_1_k0,Qz0,Qz1,Qz2,Qz3,Qz4,Qz5,Qz6,Qz7,Qz8,Qz9,Qz10,Qz11,Qz12,Qz13,Qz14,Qz15,Qz16,Qz17,Qz18,Qz19,Qz20,Qz21,Qz22,Qz23,Qz24,l,eqCode_self,decide_true,decide_false,Bool.not_true,Bool.not_false,cond_true,cond_false]
      | false =>
        rw [if_neg (by decide)]
        rw [hb]at l
        refine (loopR_next ?_).trans (loop19 gf fewf z go fewo g m (k+1) [_] (by omega) (by simp only [List.length_cons,List.length_nil]at hl ⊢;omega))
        simp only [encC,rd19_0,Ya,Z19_0_1,RT.val,mq,s1,s2,w1,z1,h3,nw,tm,td,wd,x1,x2,y1,y2,o1,o2,L19_1_k0,Qz0,Qz1,Qz2,Qz3,Qz4,Qz5,Qz6,Qz7,Qz8,Qz9,Qz10,Qz11,Qz12,Qz13,Qz14,Qz15,Qz16,Qz17,Qz18,Qz19,Qz20,Qz21,Qz22,Qz23,Qz24,l,eqCode_self,decide_true,decide_false,Bool.not_true,Bool.not_false,cond_true,cond_false]
        rfl
    | cons a t =>
      have l:=fun M=>l19p (xl:=xl) (xh:=xh) (yl:=yl) (yh:=yh) (sz:=sz) (oc:=oc) (on_:=on_) (bx:=bx) (b_y:=b_y) (st:=st) (sp:=sp) (fu:=fu) (lk:=lk) (tu:=tu) (w:=(W:Int)) (i:=(k:Int)) gf fewf ar z (ol:=(a::t).length) M
      replace l:=l (a::t)
      cases hb:rlB fc fn (sLo xl sz (k % W)) (sHi xl xh sz (k % W)) (sLo yl sz (k / W)) (sHi yl yh sz (k / W)) with
      | true =>
        rw [if_pos rfl];rw [hb]at l
        refine (loopR_next ?_).trans (loop19 gf fewf z go fewo g m (k+1) (a::t) (by omega) (by omega))
        simp only [encC,rd19_0,Yb,Z19_0_4,RT.val,mq,s1,s2,w1,z1,h3,nw,tm,td,wd,x1,x2,y1,y2,L19_1p_k0,QA0,QA1,QA2,QA3,QA4,QA5,QA6,QA7,QA8,QA9,QA10,QA11,QA12,QA13,QA14,QA15,QA16,QA17,QA18,QA19,QA20,QA21,QA22,QA23,QA24,QA25,QA26,l,allFz_arrC,eqCode_self,decide_true,decide_false,Bool.not_true,Bool.not_false,cond_true,cond_false]
      | false =>
        rw [if_neg (by decide)]
        rw [hb]at l
        have hlist:∀b:Cel,(a::t)++b::flatL xl xh yl yh sz fc fn oc on_ W m (k+1)=((a::t)++[b])++flatL xl xh yl yh sz fc fn oc on_ W m (k+1):=fun b=>by simp
        rw [hlist]
        refine (loopR_next ?_).trans (loop19 gf fewf z go fewo g m (k+1) _ (by omega) (by simp only [List.length_append,List.length_cons,List.length_nil]at hl ⊢;omega))
        have k1:((a::t).length+1)*40≤140737488355328:=by omega
        have k2:(a::t).length+1≤4611686018427387904:=by omega
        have k3:0+(a::t).length*5≤Array.size (arrC (a::t)):=by rw [size_arrC];omega
        have ap:=apB_arrC (a::t) ⟨sLo xl sz (k % W),sHi xl xh sz (k % W),sLo yl sz (k / W),sHi yl yh sz (k / W),opn oc on_ (sLo xl sz (k % W)) (sHi xl xh sz (k % W)) (sLo yl sz (k / W)) (sHi yl yh sz (k / W))⟩;unfold Cel.row at ap;simp only [encC,rd19_0,Yb,Z19_0_3,RT.val,mq,s1,s2,w1,z1,h3,nw,tm,td,wd,x1,x2,y1,y2,o1,o2,k1,k2,k3,ap,L19_1p_k0,QA0,QA1,QA2,QA3,QA4,QA5,QA6,QA7,QA8,QA9,QA10,QA11,QA12,QA13,QA14,QA15,QA16,QA17,QA18,QA19,QA20,QA21,QA22,QA23,QA24,QA25,QA26,l,allFz_arrC,eqCode_self,decide_true,decide_false,Bool.and_self,Bool.not_true,Bool.not_false,cond_true,cond_false];simp only [List.length_append,List.length_cons,List.length_nil,List.cons_append]
end
section
variable {xl xh yl yh sz:Int}{fc:Array Value}{fn:Nat}{oc:Array Value}{on_:Nat}{bx b_y st sp fu lk tu:Int}
theorem step49a (gf:GL I5 5 fc fn)(few:fn≤1000)(k:Nat)(hk:k<fn):(rd49_0 ⟨(k:Int),xl,xh,yl,yh,sz,fc,0,fn,oc,0,on_,bx,b_y,st,sp,fu,lk,tu⟩).val =
    some (if fxC fc k=0 then .inl ⟨((k+1:Nat):Int),xl,xh,yl,yh,sz,fc,0,fn,oc,0,on_,bx,b_y,st,sp,fu,lk,tu⟩ else .inr (.k0 2 (k:Int) (fxC fc k) xl xh yl yh sz fc 0 fn oc 0 on_ bx b_y st sp fu lk tu)):=by
  have hki:(k:Int)<(fn:Int):=by omega
  have h0:(0:Int)≤(k:Int):=by omega
  have h3:IntKind.wrap .i64 ((k:Int)+1)=((k+1:Nat):Int):=by rw [wrap64_id (by omega) (by omega)];omega
  have hr:rdOk fc I5 (0+k*5)=true:=gf.good.2 k hk;unfold I5 at hr;unfold fxC;simp only [rd49_0,RT.val,mq,hki,h0,h3,hr,(F78_of _ _ _ _ _).1,(F78_of _ _ _ _ _).2,Int.toNat_natCast,Int.ofNat_eq_natCast,decide_true,Bool.and_self,cond_true];simp only [Nat.zero_add,Nat.add_assoc,Nat.reduceAdd]
  cases hb:decide (fxE (getInt fc (k*5)) (getInt fc (k*5+1)) (getInt fc (k*5+2)) (getInt fc (k*5+3)) (getInt fc (k*5+4))=0) with
  | true=>rw [if_pos (of_decide_eq_true hb)];rfl
  | false=>rw [if_neg (of_decide_eq_false hb)];rfl
theorem step49b (go:GL S6 6 oc on_)(few:on_≤1000)(k:Nat)(hk:k<on_):(rd49_1 ⟨(k:Int),xl,xh,yl,yh,sz,fc,0,fn,oc,0,on_,bx,b_y,st,sp,fu,lk,tu⟩).val =
    some (if owE oc k=0 then .inl ⟨((k+1:Nat):Int),xl,xh,yl,yh,sz,fc,0,fn,oc,0,on_,bx,b_y,st,sp,fu,lk,tu⟩ else .inr (.k0 3 (k:Int) (owE oc k) xl xh yl yh sz fc 0 fn oc 0 on_ bx b_y st sp fu lk tu)):=by
  have hki:(k:Int)<(on_:Int):=by omega
  have h3:IntKind.wrap .i64 ((k:Int)+1)=((k+1:Nat):Int):=by rw [wrap64_id (by omega) (by omega)];omega
  simp only [rd49_1,RT.val,mq,hki,h3,(F79_of go few hk).1,(F79_of go few hk).2,Int.ofNat_eq_natCast,decide_true,cond_true]
  by_cases hz:owE oc k=0
  · simp only [hz,decide_true,Bool.not_true,cond_false,if_true]
  · simp only [hz,decide_false,Bool.not_false,cond_true,if_false]
theorem fl_tree {R:Type}(p1 p2 p3 p4 p5 p6 p7:Bool) (x y:R) :
    cond (!p1) (some x) (cond (!p2) (some x) (cond (!p3) (some x) (cond (!p4) (some x) (cond (!p5) (some x) (cond (!p6) (some x) (cond (!p7) (some x) (some y)))))))=some (if (p1&&(p2&&(p3&&(p4&&(p5&&(p6&&p7))))))=true then y else x):=by
  cases p1<;>cases p2<;>cases p3<;>cases p4<;>cases p5<;>cases p6<;>cases p7<;>rfl
theorem F49_eq (gf:GL I5 5 fc fn)(go:GL S6 6 oc on_):F49 xl xh yl yh sz fc 0 fn oc 0 on_ bx b_y st sp fu lk tu =
    some ⟨(ckR xl xh yl yh sz fc fn oc on_ bx b_y st sp fu lk tu).1,(ckR xl xh yl yh sz fc fn oc on_ bx b_y st sp fu lk tu).2.1,(ckR xl xh yl yh sz fc fn oc on_ bx b_y st sp fu lk tu).2.2⟩:=by
  unfold F49 rt49 ckR grE;simp only [RT.val,mq,(F77_of _ _ _ _).1,(F77_of _ _ _ _).2,(F54_of _ _ _).1,(F54_of _ _ _).2,cond_true,decide_true]
  cases arB xl xh yl yh with
  | false=>rfl
  | true =>
  cases hs:inB sz 1 100000000 with
  | false=>rfl
  | true =>
  have hn:=inB_ne hs;simp only [(F50_of _ _ _ hn).1,(F50_of _ _ _ hn).2,Bool.not_true,cond_true,cond_false,if_true]
  by_cases h2:60<IntKind.wrap .i64 (str xl xh sz*str yl yh sz)
  · rw [if_pos h2];simp only [h2,decide_true,cond_true];rfl
  rw [if_neg h2];simp only [h2,decide_false,cond_false,if_true];unfold fiF
  by_cases h3:6<fn
  · have i3:(6:Int)<(fn:Int):=by omega
    rw [if_pos h3];simp only [i3,Int.ofNat_eq_natCast,decide_true,cond_true]
    rfl
  have i3:¬(6:Int)<(fn:Int):=by omega
  rw [if_neg h3]
  have z1:¬(fn:Int)<(fn:Int):=by omega
  have l0:L49_0 (Y49_0 xl xh yl yh sz fc 0 fn oc 0 on_ bx b_y st sp fu lk tu)=some (match fst1 (fxC fc) fn 0 with | some (i,r)=>.k0 2 (i:Int) r xl xh yl yh sz fc 0 fn oc 0 on_ bx b_y st sp fu lk tu | none=>.k1 xl xh yl yh sz fc 0 fn oc 0 on_ bx b_y st sp fu lk tu) :=
    loop_fst (rd:=rd49_0) (S:=fun k=>X49_0.mk (k:Int) xl xh yl yh sz fc 0 fn oc 0 on_ bx b_y st sp fu lk tu) (E:=fxC fc) (n:=fn) (err:=fun i r=>.k0 2 (i:Int) r xl xh yl yh sz fc 0 fn oc 0 on_ bx b_y st sp fu lk tu) (fin:=.k1 xl xh yl yh sz fc 0 fn oc 0 on_ bx b_y st sp fu lk tu)
      (fun k hk=>step49a gf (by omega) k hk) (by simp only [rd49_0,RT.val,mq,Int.ofNat_eq_natCast,z1,decide_false,cond_false]) fn 0 (by omega)
  simp only [i3,Int.ofNat_eq_natCast,eqCode_self,decide_false,cond_true,cond_false]
  cases hf:fst1 (fxC fc) fn 0 with
  | some ir =>
    obtain ⟨i,r⟩:=ir;have hr:=fst1_ne hf;rw [hf]at l0;simp only [L49_0_k0,Qg0,Qg1,Qg2,l0,hr,if_false,cond_true]
  | none =>
  rw [hf]at l0
  have hY:Y49_1 xl xh yl yh sz fc 0 fn oc 0 on_ bx b_y st sp fu lk tu=X49_1.mk 0 xl xh yl yh sz fc 0 fn oc 0 on_ bx b_y st sp fu lk tu:=by
    unfold Y49_1;simp only [Qh0,Qh1,Qh2,Qh3,Qh4,Qh5,Qh6,Qh7,Qh8,Qh9,Qh10,Qh11,Qh12,Qh13,Qh14,Qh15,Qh16,Qh17,l0]
  unfold owF;simp only [L49_0_k0,L49_0_k1,Qh10,l0,hY,cond_true,cond_false,if_true]
  by_cases h4:6<on_
  · have i4:(6:Int)<(on_:Int):=by omega
    rw [if_pos h4];simp only [i4,decide_true,cond_true]
    rfl
  have i4:¬(6:Int)<(on_:Int):=by omega
  rw [if_neg h4]
  have z2:¬(on_:Int)<(on_:Int):=by omega
  have l1:L49_1 (X49_1.mk 0 xl xh yl yh sz fc 0 fn oc 0 on_ bx b_y st sp fu lk tu)=some (match fst1 (owE oc) on_ 0 with | some (i,r)=>.k0 3 (i:Int) r xl xh yl yh sz fc 0 fn oc 0 on_ bx b_y st sp fu lk tu | none=>.k1 xl xh yl yh sz fc 0 fn oc 0 on_ bx b_y st sp fu lk tu) :=
    loop_fst (rd:=rd49_1) (S:=fun k=>X49_1.mk (k:Int) xl xh yl yh sz fc 0 fn oc 0 on_ bx b_y st sp fu lk tu) (E:=owE oc) (n:=on_) (err:=fun i r=>.k0 3 (i:Int) r xl xh yl yh sz fc 0 fn oc 0 on_ bx b_y st sp fu lk tu) (fin:=.k1 xl xh yl yh sz fc 0 fn oc 0 on_ bx b_y st sp fu lk tu)
      (fun k hk=>step49b go (by omega) k hk) (by simp only [rd49_1,RT.val,mq,Int.ofNat_eq_natCast,z2,decide_false,cond_false]) on_ 0 (by omega)
  simp only [i4,decide_false,cond_false]
  cases hf2:fst1 (owE oc) on_ 0 with
  | some ir =>
    obtain ⟨i,r⟩:=ir;have hr:=fst1_ne hf2;rw [hf2]at l1;simp only [L49_1_k0,Qi0,Qi1,Qi2,l1,hr,if_false,cond_true]
  | none =>
  rw [hf2]at l1;simp only [L49_1_k0,L49_1_k1,Qj11,Qj12,Qj13,Qj14,Qj15,Qj16,Qj17,l1,(F24_of _).1,(F24_of _).2,cond_true,cond_false,if_true];unfold flB tkB
  refine (fl_tree _ _ _ _ _ _ _ _ _).trans ?_
  generalize (plB bx&&(plB b_y&&(inB st 0 100000&&(inB sp 1 1000000&&(inB fu 1 100000&&(inB lk 1 6000&&inB tu 0 6000))))))=q
  cases q<;>rfl
end
end
end Go.Proofs.YtoghoeebiddblaaGreat
namespace Go.Proofs.YtoghoeebiddblaaGreat
open Go.Gi Go.RowKit
noncomputable section
set_option maxRecDepth 100000
set_option maxHeartbeats 1000000
def Root (D L:Int):Prop:=0≤L∧D≤L*L∧(L=0∨(L-1)*(L-1)<D)
theorem sq_mono {a b:Int}(h0:0≤a) (h:a≤b):a*a≤b*b :=
  Int.le_trans (Int.mul_le_mul_of_nonneg_left h h0) (Int.mul_le_mul_of_nonneg_right h (Int.le_trans h0 h))
theorem sq_lt {a b:Int}(h0:0≤b) (h:a*a<b*b):a<b:=by
  apply Decidable.byContradiction
  intro hn
  have:=sq_mono h0 (show b≤a by omega)
  omega
theorem sq_bd {x M:Int}(h1:-M≤x) (h2:x≤M):0≤x*x∧x*x≤M*M:=by
  by_cases h:0≤x
  · exact ⟨Int.mul_nonneg h h,sq_mono h h2⟩
  · have:=sq_mono (a:=-x) (b:=M) (by omega) (by omega)
    rw [Int.neg_mul_neg]at this
    have h3:=Int.mul_nonneg (a:=-x) (b:=-x) (by omega) (by omega)
    rw [Int.neg_mul_neg]at h3;exact ⟨h3,this⟩
section
variable {p q r s x y:Int}
theorem search (hx:0≤x∧x≤200000000)(hy:0≤y∧y≤200000000):∀(m:Nat) (i j:Int),j-i≤(m:Int)→0≤i→i≤j→j≤400000000→x*x+y*y≤j*j→(i=0∨(i-1)*(i-1)<x*x+y*y) →
    ∃L,loopR rd23_56x0 ⟨4,[],i,j,p,q,r,s,x,y⟩=some (.k0 L p q r s x y)∧Root (x*x+y*y) L
  | 0,i,j,hm,h0,hij,hj,h1,h2=>by
    obtain rfl:i=j:=by omega
    have hn:¬i<i:=by omega
    exact ⟨i,loopR_done (by simp only [rd23_56x0,RT.val,mq,hn,decide_false,cond_false]),h0,h1,h2⟩
  | m+1,i,j,hm,h0,hij,hj,h1,h2=>by
    by_cases hn:i<j
    case neg =>
      obtain rfl:i=j:=by omega
      exact ⟨i,loopR_done (by simp only [rd23_56x0,RT.val,mq,hn,decide_false,cond_false]),h0,h1,h2⟩
    have sx:=sq_bd (x:=x) (M:=200000000) (by omega) (by omega)
    have sy:=sq_bd (x:=y) (M:=200000000) (by omega) (by omega)
    have w1:IntKind.wrap .i64 (i+j)=i+j:=wrap64_id (by omega) (by omega)
    have w2:IntKind.wrap .u64 (i+j)=i+j:=by
      show (i+j) % 18446744073709551616=i+j
      omega
    have w3:Int.fdiv (i+j) 2=(i+j) / 2:=Int.fdiv_eq_ediv_of_nonneg _ (by omega)
    obtain ⟨h,hh⟩:∃h,(i+j) / 2=h:=⟨_,rfl⟩
    have hb:i≤h∧h<j:=by omega
    have w4:IntKind.wrap .i64 h=h:=wrap64_id (by omega) (by omega)
    have sh:=sq_bd (x:=h) (M:=400000000) (by omega) (by omega)
    have w5:IntKind.wrap .i64 (h*h)=h*h:=wrap64_id (by omega) (by omega)
    have wx:IntKind.wrap .i64 (x*x)=x*x:=wrap64_id (by omega) (by omega)
    have wy:IntKind.wrap .i64 (y*y)=y*y:=wrap64_id (by omega) (by omega)
    have wz:IntKind.wrap .i64 (x*x+y*y)=x*x+y*y:=wrap64_id (by omega) (by omega)
    have w6:IntKind.wrap .i64 (h+1)=h+1:=wrap64_id (by omega) (by omega)
    by_cases hc:x*x+y*y≤h*h
    · obtain ⟨L,e1,e2⟩:=search hx hy m i h (by omega) h0 (by omega) (by omega) hc h2
      refine ⟨L,(loopR_next ?_).trans e1,e2⟩
      simp only [rd23_56x0,RT.val,mq,hn,w1,w2,w3,hh,w4,w5,wx,wy,wz,hc,decide_true,Bool.not_true,cond_true,cond_false]
    · obtain ⟨L,e1,e2⟩:=search hx hy m (h+1) j (by omega) (by omega) (by omega) hj h1 (Or.inr (by rw [Int.add_sub_cancel];omega))
      refine ⟨L,(loopR_next ?_).trans e1,e2⟩
      simp only [rd23_56x0,RT.val,mq,hn,w1,w2,w3,hh,w4,w5,wx,wy,wz,w6,hc,decide_true,decide_false,Bool.not_false,cond_true]
def Tick (S D t:Int):Prop:=0≤t∧D≤(t*S)*(t*S)∧t*S≤500000000∧(t=0∨(t*S-S)*(t*S-S)<D∧0≤t*S-S)
end
theorem F23_of {a b c d S:Int}(ha:-100000000≤a∧a≤100000000) (hb:-100000000≤b∧b≤100000000) (hc:-100000000≤c∧c≤100000000) (hd:-100000000≤d∧d≤100000000) (hS:1≤S∧S≤1000000) :
    ∃t,F23_ok a b c d S=true∧F23_0 a b c d S=t∧Tick S ((a-c)*(a-c)+(b-d)*(b-d)) t:=by
  obtain ⟨x,hx⟩:∃x,max (a-c) (c-a)=x:=⟨_,rfl⟩;obtain ⟨y,hy⟩:∃y,max (b-d) (d-b)=y:=⟨_,rfl⟩
  have bx:0≤x∧x≤200000000:=by omega
  have b_y:0≤y∧y≤200000000:=by omega
  have ex:x*x=(a-c)*(a-c):=by
    rcases Int.le_total 0 (a-c) with h | h
    · obtain rfl:x=a-c:=by omega
      rfl
    · obtain rfl:x=-(a-c):=by omega
      rw [Int.neg_mul_neg]
  have ey:y*y=(b-d)*(b-d):=by
    rcases Int.le_total 0 (b-d) with h | h
    · obtain rfl:y=b-d:=by omega
      rfl
    · obtain rfl:y=-(b-d):=by omega
      rw [Int.neg_mul_neg]
  have w1:IntKind.wrap .i64 (a-c)=a-c:=wrap64_id (by omega) (by omega)
  have w2:IntKind.wrap .i64 (c-a)=c-a:=wrap64_id (by omega) (by omega)
  have w3:IntKind.wrap .i64 (b-d)=b-d:=wrap64_id (by omega) (by omega)
  have w4:IntKind.wrap .i64 (d-b)=d-b:=wrap64_id (by omega) (by omega)
  have w5:IntKind.wrap .i64 (x+y)=x+y:=wrap64_id (by omega) (by omega)
  have big:x*x+y*y≤(x+y)*(x+y):=by
    have:=Int.mul_nonneg bx.1 b_y.1;rw [Int.add_mul,Int.mul_add,Int.mul_add,Int.mul_comm y x]
    omega
  obtain ⟨L,e1,e2⟩:=search (p:=a) (q:=b) (r:=c) (s:=d) bx b_y 400000000 0 (x+y) (by omega) (by omega) (by omega) (by omega) big (Or.inl rfl)
  have hS0:S≠0:=by omega
  have q:F23 a b c d S=some ⟨ru L S⟩:=by
    unfold F23 rt23;simp only [RT.val,mq,w1,w2,w3,w4,hx,hy,w5,eqCode_self,L23_56x0_k0,L23_56x0_k0_0,L23_56x0,e1,(F58_of _ _ hS0).1,(F58_of _ _ hS0).2,decide_true,cond_true]
  refine ⟨ru L S,by simp only [F23_ok,q];rfl,by simp only [F23_0,q],?_⟩
  have hL:L≤x+y:=by
    obtain ⟨l0,l1,l2⟩:=e2
    rcases l2 with l2 | l2
    · omega
    · have:=sq_lt (a:=L-1) (b:=x+y) (by omega) (by omega)
      omega
  obtain ⟨l0,l1,l2⟩:=e2
  obtain ⟨r1,r2,r3⟩:=ru_in (a:=L) (b:=S) (M:=400000000) hS.1 (by omega) (by omega) (by omega)
  obtain ⟨r4,r5,_,_⟩:=ru_bd (a:=L) (b:=S) hS.1 (by omega) (by omega)
  have t0:0≤ru L S:=by
    apply Decidable.byContradiction
    intro hn
    have:=Int.mul_le_mul_of_nonneg_left (show ru L S≤-1 by omega) (show 0≤S by omega)
    omega
  rw [← ex,← ey];rw [Int.mul_comm]at r4 r5
  refine ⟨t0,Int.le_trans l1 (sq_mono l0 r4),by omega,?_⟩
  by_cases hz:ru L S=0
  · exact Or.inl hz
  · right
    have g:1*S≤ru L S*S:=Int.mul_le_mul_of_nonneg_right (by omega) (by omega)
    have l3:L≠0:=by intro h;omega
    rcases l2 with l2 | l2
    · exact absurd l2 l3
    · have:=sq_mono (a:=ru L S*S-S) (b:=L-1) (by omega) (by omega)
      omega
theorem Tick.uniq {S D a b:Int}(hS:1≤S) (ha:Tick S D a) (hb:Tick S D b):a=b:=by
  have one:∀{a b:Int},Tick S D a→Tick S D b→a≤b:=by
    intro a b ha hb;obtain ⟨a0,a1,a2,a3⟩:=ha;obtain ⟨b0,b1,b2,b3⟩:=hb
    apply Decidable.byContradiction
    intro hn
    rcases a3 with a3 | ⟨a3,a4⟩
    · omega
    have m:(b+1)*S≤a*S:=Int.mul_le_mul_of_nonneg_right (by omega) (by omega)
    rw [Int.add_mul,Int.one_mul]at m
    have:=sq_mono (a:=b*S) (b:=a*S-S) (Int.mul_nonneg b0 (by omega)) (by omega)
    omega
  exact Int.le_antisymm (one ha hb) (one hb ha)
end
end Go.Proofs.YtoghoeebiddblaaGreat
namespace Go.Proofs.YtoghoeebiddblaaGreat
open Go.Gi Go.RowKit
noncomputable section
set_option maxRecDepth 100000
set_option maxHeartbeats 1000000
variable {xl xh yl yh sz:Int}{fc:Array Value}{fn:Nat}{oc:Array Value}{on_:Nat}{bx b_y st sp fu lk tu:Int}
theorem pl_of {a b:Int}(h:(plB a&&plB b)=true):(-100000000≤a∧a≤100000000)∧(-100000000≤b∧b≤100000000):=by
  simpa only [plB,inB,Bool.and_eq_true,decide_eq_true_eq] using h
theorem sp_of2 (h:(ckR xl xh yl yh sz fc fn oc on_ bx b_y st sp fu lk tu).2.2=0):1≤sp∧sp≤1000000:=by
  unfold ckR at h
  by_cases h1:grE xl xh yl yh sz=0
  · rw [if_pos h1]at h
    by_cases h2:(fiF fc fn).2=0
    · rw [if_pos h2]at h
      by_cases h3:(owF oc on_).2=0
      · rw [if_pos h3]at h
        by_cases h4:flB bx b_y st sp fu lk tu=true
        · simp only [flB,inB,Bool.and_eq_true,decide_eq_true_eq]at h4
          omega
        · rw [if_neg h4]at h;cases h
      · rw [if_neg h3]at h;exact absurd h h3
    · rw [if_neg h2]at h;exact absurd h h2
  · rw [if_neg h1]at h;exact absurd h h1
theorem F10_good (gf:GL I5 5 fc fn)(go:GL S6 6 oc on_) {a b c d:Int}(h:(ckR xl xh yl yh sz fc fn oc on_ bx b_y st sp fu lk tu).2.2=0) (h1:(plB a&&plB b)=true) (h2:(plB c&&plB d)=true) :
    ∃t,F10_ok xl xh yl yh sz fc 0 fn oc 0 on_ bx b_y st sp fu lk tu a b c d=true∧F10_1 xl xh yl yh sz fc 0 fn oc 0 on_ bx b_y st sp fu lk tu a b c d=0∧F10_0 xl xh yl yh sz fc 0 fn oc 0 on_ bx b_y st sp fu lk tu a b c d=t ∧
      Tick sp ((a-c)*(a-c)+(b-d)*(b-d)) t:=by
  have p:=F16_eq (xl:=xl) (xh:=xh) (yl:=yl) (yh:=yh) (sz:=sz) (bx:=bx) (b_y:=b_y) (st:=st) (sp:=sp) (fu:=fu) (lk:=lk) (tu:=tu) gf go;obtain ⟨k1,k2⟩:=pl_of h1;obtain ⟨k3,k4⟩:=pl_of h2;obtain ⟨t,e1,e2,e3⟩:=F23_of k1 k2 k3 k4 (sp_of2 h)
  have q:F10 xl xh yl yh sz fc 0 fn oc 0 on_ bx b_y st sp fu lk tu a b c d=some ⟨t,0⟩:=by
    unfold F10 rt10;simp only [RT.val,mq,F16_ok,F16_2,p,h,(F22_of _ _).1,(F22_of _ _).2,h1,h2,e1,e2,Option.isSome_some,decide_true,Bool.not_true,cond_true,cond_false]
  exact ⟨t,by simp only [F10_ok,q];rfl,by simp only [F10_1,q],by simp only [F10_0,q],e3⟩
end
end Go.Proofs.YtoghoeebiddblaaGreat
namespace Go.Proofs.YtoghoeebiddblaaGreat
open Go.Gi Go.RowKit
noncomputable section
set_option maxRecDepth 100000
set_option maxHeartbeats 2000000
section
variable {xl xh yl yh sz:Int}{fc:Array Value}{fn:Nat}{oc:Array Value}{on_:Nat}{bx b_y st sp fu lk tu:Int}{W H:Nat}{x y:Int}
theorem F19_of (gf:GL I5 5 fc fn)(fewf:fn≤1000)(z:∀k,k<fn→fxC fc k=0)(go:GL S6 6 oc on_)(fewo:on_≤1000)(g:Grid xl xh yl yh sz W H) :
    F19 xl xh yl yh sz fc 0 fn oc 0 on_ bx b_y st sp fu lk tu=some ⟨arrC (allL xl xh yl yh sz fc fn oc on_ W H 0),0,(allL xl xh yl yh sz fc fn oc on_ W H 0).length⟩:=by
  have hs0:sz≠0:=by have:=g.s;omega
  obtain ⟨s1,s2⟩:=F50_of xl xh sz hs0;rw [g.w.1]at s2;have hn:=g.n
  have l:L19_0 (X19_0.mk none (W:Int) 0 xl xh yl yh sz fc 0 fn oc 0 on_ bx b_y st sp fu lk tu)=_:=loop19 gf fewf z go fewo g (W*H) 0 [] (by omega) (by simp only [List.length_nil];omega)
  have fa:=flat_all (xl:=xl) (xh:=xh) (yl:=yl) (yh:=yh) (sz:=sz) (fc:=fc) (fn:=fn) (oc:=oc) (on_:=on_) (W:=W) H 0;rw [Nat.zero_mul,Nat.mul_comm]at fa;rw [List.nil_append,fa]at l
  have hY:Y19_0 xl xh yl yh sz fc 0 fn oc 0 on_ bx b_y st sp fu lk tu=X19_0.mk none (W:Int) 0 xl xh yl yh sz fc 0 fn oc 0 on_ bx b_y st sp fu lk tu:=by unfold Y19_0;rw [s2]
  unfold F19 rt19
  cases hq:allL xl xh yl yh sz fc fn oc on_ W H 0 with
  | nil =>
    rw [hq]at l;simp only [RT.val,mq,s1,hY,L19_0_k0,l,endR,eqCode_self,cond_true]
    rfl
  | cons a r =>
    rw [hq]at l
    have k3:0+(a::r).length*5≤Array.size (arrC (a::r)):=by rw [size_arrC];omega
    simp only [RT.val,mq,s1,hY,L19_0_k0,L19_0_k1,QC0,QC1,l,endR,allFz_arrC,k3,eqCode_self,decide_true,Bool.and_self,cond_true,cond_false]
theorem F18_of2 (gf:GL I5 5 fc fn)(go:GL S6 6 oc on_):F18_ok xl xh yl yh sz fc 0 fn oc 0 on_ bx b_y st sp fu lk tu=true∧F18_0 xl xh yl yh sz fc 0 fn oc 0 on_ bx b_y st sp fu lk tu=(ckR xl xh yl yh sz fc fn oc on_ bx b_y st sp fu lk tu).2.2:=by
  have p:=F49_eq (xl:=xl) (xh:=xh) (yl:=yl) (yh:=yh) (sz:=sz) (bx:=bx) (b_y:=b_y) (st:=st) (sp:=sp) (fu:=fu) (lk:=lk) (tu:=tu) gf go
  have q:F18 xl xh yl yh sz fc 0 fn oc 0 on_ bx b_y st sp fu lk tu=some ⟨(ckR xl xh yl yh sz fc fn oc on_ bx b_y st sp fu lk tu).2.2⟩:=by
    unfold F18 rt18;simp only [RT.val,mq,F49_ok,F49_2,p,Option.isSome_some,cond_true]
  constructor
  · unfold F18_ok;rw [q];rfl
  · unfold F18_0;rw [q]
theorem F6_eq (gf:GL I5 5 fc fn)(go:GL S6 6 oc on_):F6 xl xh yl yh sz fc 0 fn oc 0 on_ bx b_y st sp fu lk tu =
    some (if (ckR xl xh yl yh sz fc fn oc on_ bx b_y st sp fu lk tu).2.2=0 then ⟨arrC (cels xl xh yl yh sz fc fn oc on_),0,(cels xl xh yl yh sz fc fn oc on_).length,0⟩
      else ⟨⟨[]⟩,0,0,(ckR xl xh yl yh sz fc fn oc on_ bx b_y st sp fu lk tu).2.2⟩):=by
  obtain ⟨p1,p2⟩:=F18_of2 (xl:=xl) (xh:=xh) (yl:=yl) (yh:=yh) (sz:=sz) (bx:=bx) (b_y:=b_y) (st:=st) (sp:=sp) (fu:=fu) (lk:=lk) (tu:=tu) gf go
  by_cases h:(ckR xl xh yl yh sz fc fn oc on_ bx b_y st sp fu lk tu).2.2=0
  · rw [if_pos h]
    obtain ⟨W,H,t⟩:=tsk_of h
    have q:=F19_of (xl:=xl) (xh:=xh) (yl:=yl) (yh:=yh) (sz:=sz) (bx:=bx) (b_y:=b_y) (st:=st) (sp:=sp) (fu:=fu) (lk:=lk) (tu:=tu) gf (by have:=t.f6;omega) t.z go (by have:=t.o6;omega) t.g
    rw [← t.c]at q;unfold F6 rt6;simp only [RT.val,mq,p1,p2,h,F19_ok,F19_0,F19_1,F19_2,q,Option.isSome_some,decide_true,Bool.not_true,cond_true,cond_false]
  · rw [if_neg h]
    unfold F6 rt6;simp only [RT.val,mq,p1,p2,h,decide_false,Bool.not_false,cond_true]
theorem rdC4 (L:List Cel) {k:Nat}(hk:k<L.length):rdOk (arrC L) [(Leaf.int .i64),(Leaf.int .i64),(Leaf.int .i64),(Leaf.int .i64)] (k*5)=true:=by
  have h5:(isInt .i64 (arrC L) (k*5)&&(isInt .i64 (arrC L) (k*5+1)&&(isInt .i64 (arrC L) (k*5+2)&&(isInt .i64 (arrC L) (k*5+3)&&(isInt .i64 (arrC L) (k*5+4)&&true)))))=true:=rdC L hk;simp only [Bool.and_eq_true]at h5;obtain ⟨a,b,c,d,_⟩:=h5
  show (isInt .i64 (arrC L) (k*5)&&(isInt .i64 (arrC L) (k*5+1)&&(isInt .i64 (arrC L) (k*5+2)&&(isInt .i64 (arrC L) (k*5+3)&&true))))=true
  rw [a,b,c,d];rfl
theorem F7_self (L:List Cel)(few:L.length≤1000):F7_ok (arrC L) 0 L.length (arrC L) 0 L.length=true∧F7_0 (arrC L) 0 L.length (arrC L) 0 L.length=true:=by
  have z1:¬(L.length:Int)<(L.length:Int):=by omega
  have l:L7_0 (X7_0.mk (arrC L) 0 L.length (arrC L) 0 L.length 0)=some .k1 :=
    loop_cnt (rd:=rd7_0) (S:=fun k=>X7_0.mk (arrC L) 0 L.length (arrC L) 0 L.length (k:Int)) (n:=L.length)
      (fun k hk=>by
        have hki:(k:Int)<(L.length:Int):=by omega
        have h0:(0:Int)≤(k:Int):=by omega
        have h3:IntKind.wrap .i64 ((k:Int)+1)=((k+1:Nat):Int):=by rw [wrap64_id (by omega) (by omega)];omega
        have hr:=rdC L hk;unfold I5 at hr
        simp only [rd7_0,RT.val,mq,hki,h0,h3,Nat.zero_add,hr,Int.toNat_natCast,Int.ofNat_eq_natCast,decide_true,Bool.and_self,Bool.not_true,cond_true,cond_false])
      (by simp only [rd7_0,RT.val,mq,Int.ofNat_eq_natCast,z1,decide_false,cond_false]) L.length 0 (by omega)
  have q:F7 (arrC L) 0 L.length (arrC L) 0 L.length=some ⟨true⟩:=by
    unfold F7 rt7;simp only [RT.val,mq,eqCode_self,L7_0_k0,L7_0_k1,l,decide_true,Bool.not_true,cond_true,cond_false]
  exact ⟨by simp only [F7_ok,q];rfl,by simp only [F7_0,q]⟩
theorem F21_of2 (a b c d x y:Int):F21_ok a b c d x y=true∧F21_0 a b c d x y=(inB x a b&&inB y c d):=by
  have q:F21 a b c d x y=some ⟨inB x a b&&inB y c d⟩:=by
    unfold F21 rt21;simp only [RT.val,mq,(F54_of _ _ _).1,(F54_of _ _ _).2,cond_true]
    cases inB x a b<;>rfl
  exact ⟨by simp only [F21_ok,q];rfl,by simp only [F21_0,q]⟩
theorem step9 (L:List Cel)(few:L.length≤1000)(k:Nat)(hk:k<L.length) :
    (rd9_0 ⟨arrC L,0,L.length,(k:Int),xl,xh,yl,yh,sz,fc,0,fn,oc,0,on_,bx,b_y,st,sp,fu,lk,tu,x,y⟩).val =
    some (if clE x y (arrC L) k=0 then .inl ⟨arrC L,0,L.length,((k+1:Nat):Int),xl,xh,yl,yh,sz,fc,0,fn,oc,0,on_,bx,b_y,st,sp,fu,lk,tu,x,y⟩ else .inr (.k0 (k:Int) 0 xl xh yl yh sz fc 0 fn oc 0 on_ bx b_y st sp fu lk tu x y)):=by
  have hki:(k:Int)<(L.length:Int):=by omega
  have h0:(0:Int)≤(k:Int):=by omega
  have h3:IntKind.wrap .i64 ((k:Int)+1)=((k+1:Nat):Int):=by rw [wrap64_id (by omega) (by omega)];omega
  have hr:=rdC4 L hk;unfold clE;simp only [rd9_0,RT.val,mq,hki,h0,h3,Nat.zero_add,Nat.add_zero,hr,Nat.add_assoc,Nat.reduceAdd,(F21_of2 _ _ _ _ _ _).1,(F21_of2 _ _ _ _ _ _).2,Int.toNat_natCast,Int.ofNat_eq_natCast,decide_true,Bool.and_self,cond_true]
  cases (inB x (getInt (arrC L) (k*5)) (getInt (arrC L) (k*5+1))&&inB y (getInt (arrC L) (k*5+2)) (getInt (arrC L) (k*5+3)))<;>rfl
theorem F9_eq (gf:GL I5 5 fc fn)(go:GL S6 6 oc on_):F9 xl xh yl yh sz fc 0 fn oc 0 on_ bx b_y st sp fu lk tu x y =
    some (if (ckR xl xh yl yh sz fc fn oc on_ bx b_y st sp fu lk tu).2.2=0 then ⟨(ceF (cels xl xh yl yh sz fc fn oc on_) x y).1,(ceF (cels xl xh yl yh sz fc fn oc on_) x y).2⟩
      else ⟨0,(ckR xl xh yl yh sz fc fn oc on_ bx b_y st sp fu lk tu).2.2⟩):=by
  have p:=F6_eq (xl:=xl) (xh:=xh) (yl:=yl) (yh:=yh) (sz:=sz) (bx:=bx) (b_y:=b_y) (st:=st) (sp:=sp) (fu:=fu) (lk:=lk) (tu:=tu) gf go
  by_cases h:(ckR xl xh yl yh sz fc fn oc on_ bx b_y st sp fu lk tu).2.2=0
  · rw [if_pos h]at p ⊢
    obtain ⟨W,H,t⟩:=tsk_of h;have hl:=cels_len t;obtain ⟨L,hL⟩:∃L,cels xl xh yl yh sz fc fn oc on_=L:=⟨_,rfl⟩;rw [hL]at p hl ⊢
    have z1:¬(L.length:Int)<(L.length:Int):=by omega
    have l:L9_0 (X9_0.mk (arrC L) 0 L.length 0 xl xh yl yh sz fc 0 fn oc 0 on_ bx b_y st sp fu lk tu x y)=some (match fst1 (clE x y (arrC L)) L.length 0 with | some (i,r)=>.k0 (i:Int) 0 xl xh yl yh sz fc 0 fn oc 0 on_ bx b_y st sp fu lk tu x y | none=>.k1 xl xh yl yh sz fc 0 fn oc 0 on_ bx b_y st sp fu lk tu x y) :=
      loop_fst (rd:=rd9_0) (S:=fun k=>X9_0.mk (arrC L) 0 L.length (k:Int) xl xh yl yh sz fc 0 fn oc 0 on_ bx b_y st sp fu lk tu x y) (E:=clE x y (arrC L)) (n:=L.length) (err:=fun i r=>.k0 (i:Int) 0 xl xh yl yh sz fc 0 fn oc 0 on_ bx b_y st sp fu lk tu x y) (fin:=.k1 xl xh yl yh sz fc 0 fn oc 0 on_ bx b_y st sp fu lk tu x y)
        (fun k hk=>step9 L (by omega) k hk) (by simp only [rd9_0,RT.val,mq,Int.ofNat_eq_natCast,z1,decide_false,cond_false]) L.length 0 (by omega)
    unfold F9 rt9 ceF;simp only [RT.val,mq,F6_ok,F6_0,F6_1,F6_2,F6_3,p,Option.isSome_some,eqCode_self,decide_true,Bool.not_true,cond_true,cond_false]
    cases hf:fst1 (clE x y (arrC L)) L.length 0 with
    | some ir =>
      obtain ⟨i,r⟩:=ir;rw [hf]at l;simp only [L9_0_k0,QG0,QG1,l,cond_true]
    | none =>
      rw [hf]at l;simp only [L9_0_k0,L9_0_k1,l,cond_true,cond_false]
  · rw [if_neg h]at p ⊢
    unfold F9 rt9;simp only [RT.val,mq,F6_ok,F6_3,p,h,Option.isSome_some,decide_false,Bool.not_false,cond_true]
theorem loop25 {u v a b c d:Int}(hu:-200000000≤u∧u≤200000000) (hv:-200000000≤v∧v≤200000000) (hS:1≤sp∧sp≤1000000):∀(m:Nat) (lo hi:Int),hi-lo≤(m:Int)→-1≤lo→lo<hi→hi*sp≤500000000→u*u+v*v≤hi*sp*(hi*sp)→(lo=-1∨lo*sp*(lo*sp)<u*u+v*v) →
    ∃t,loopR rd25_0 ⟨u,v,lo,hi,xl,xh,yl,yh,sz,fc,0,fn,oc,0,on_,bx,b_y,st,sp,fu,lk,tu,a,b,c,d⟩=some (.k0 t xl xh yl yh sz fc 0 fn oc 0 on_ bx b_y st sp fu lk tu a b c d)∧Tick sp (u*u+v*v) t
  | 0,lo,hi,hm,h0,hlt,_,_,_=>by omega
  | m+1,lo,hi,hm,h0,hlt,hb,h1,h2=>by
    have bh:hi≤500000000:=by
      have:hi*1≤hi*sp:=Int.mul_le_mul_of_nonneg_left hS.1 (by omega)
      omega
    have w0:IntKind.wrap .i64 (hi-lo)=hi-lo:=wrap64_id (by omega) (by omega)
    by_cases hn:1<hi-lo
    case neg =>
      refine ⟨hi,loopR_done (by simp only [rd25_0,RT.val,mq,w0,hn,decide_false,cond_false]),by omega,h1,hb,?_⟩
      rcases h2 with h2 | h2
      · exact Or.inl (by omega)
      · by_cases hz:hi=0
        · exact Or.inl hz
        · obtain rfl:lo=hi-1:=by omega
          rw [Int.sub_mul,Int.one_mul]at h2
          have:1*sp≤hi*sp:=Int.mul_le_mul_of_nonneg_right (by omega) (by omega)
          exact Or.inr ⟨h2,by omega⟩
    have w1:IntKind.wrap .i64 (lo+hi)=lo+hi:=wrap64_id (by omega) (by omega)
    have e1:Int.tdiv (lo+hi) 2=(lo+hi) / 2:=Int.tdiv_eq_ediv_of_nonneg (by omega)
    obtain ⟨h,hh⟩:∃h,(lo+hi) / 2=h:=⟨_,rfl⟩
    have hb2:lo<h∧h<hi∧0≤h:=by omega
    have w2:IntKind.wrap .i64 h=h:=wrap64_id (by omega) (by omega)
    have p0:0≤h*sp:=Int.mul_nonneg hb2.2.2 (by omega)
    have p1:h*sp≤hi*sp:=Int.mul_le_mul_of_nonneg_right (by omega) (by omega)
    have w3:IntKind.wrap .i64 (h*sp)=h*sp:=wrap64_id (by omega) (by omega)
    have p2:=mul_bd (x:=h*sp) (d:=h) (A:=500000000) (D:=500000000) (by omega) (by omega) hb2.2.2 (by omega)
    have w4:IntKind.wrap .i64 (h*sp*h)=h*sp*h:=wrap64_id (by omega) (by omega)
    have p3:=sq_bd (x:=h*sp) (M:=500000000) (by omega) (by omega)
    have e2:h*sp*h*sp=h*sp*(h*sp):=by rw [Int.mul_assoc (h*sp) h sp]
    have w5:IntKind.wrap .i64 (h*sp*h*sp)=h*sp*(h*sp):=by rw [e2];exact wrap64_id (by omega) (by omega)
    have q1:=sq_bd (x:=u) (M:=200000000) (by omega) (by omega)
    have q2:=sq_bd (x:=v) (M:=200000000) (by omega) (by omega)
    have wx:IntKind.wrap .i64 (u*u)=u*u:=wrap64_id (by omega) (by omega)
    have wy:IntKind.wrap .i64 (v*v)=v*v:=wrap64_id (by omega) (by omega)
    have wz:IntKind.wrap .i64 (u*u+v*v)=u*u+v*v:=wrap64_id (by omega) (by omega)
    by_cases hc:u*u+v*v≤h*sp*(h*sp)
    · obtain ⟨t,e3,e4⟩:=loop25 (a:=a) (b:=b) (c:=c) (d:=d) hu hv hS m lo h (by omega) h0 (by omega) (by omega) hc h2
      refine ⟨t,(loopR_next ?_).trans e3,e4⟩
      simp only [rd25_0,RT.val,mq,w0,hn,w1,e1,hh,w2,w3,w4,w5,wx,wy,wz,hc,decide_true,cond_true]
    · obtain ⟨t,e3,e4⟩:=loop25 (a:=a) (b:=b) (c:=c) (d:=d) hu hv hS m h hi (by omega) (by omega) (by omega) hb h1 (Or.inr (by omega))
      refine ⟨t,(loopR_next ?_).trans e3,e4⟩
      simp only [rd25_0,RT.val,mq,w0,hn,w1,e1,hh,w2,w3,w4,w5,wx,wy,wz,hc,decide_true,decide_false,cond_true,cond_false]
theorem F25_of {a b c d:Int}(ha:-100000000≤a∧a≤100000000) (hb:-100000000≤b∧b≤100000000) (hc:-100000000≤c∧c≤100000000) (hd:-100000000≤d∧d≤100000000) (hS:1≤sp∧sp≤1000000) :
    ∃t,F25_ok xl xh yl yh sz fc 0 fn oc 0 on_ bx b_y st sp fu lk tu a b c d=true∧F25_0 xl xh yl yh sz fc 0 fn oc 0 on_ bx b_y st sp fu lk tu a b c d=t∧Tick sp ((a-c)*(a-c)+(b-d)*(b-d)) t:=by
  have w1:IntKind.wrap .i64 (a-c)=a-c:=wrap64_id (by omega) (by omega)
  have w2:IntKind.wrap .i64 (b-d)=b-d:=wrap64_id (by omega) (by omega)
  have w3:IntKind.wrap .i64 (0-(a-c))=0-(a-c):=wrap64_id (by omega) (by omega)
  have w4:IntKind.wrap .i64 (0-(b-d))=0-(b-d):=wrap64_id (by omega) (by omega)
  obtain ⟨M,hM⟩:∃M,max (max (max (a-c) (0-(a-c))) (b-d)) (0-(b-d))=M:=⟨_,rfl⟩
  have bM:0≤M∧M≤200000000:=by omega
  have w5:IntKind.wrap .i64 (2*M)=2*M:=wrap64_id (by omega) (by omega)
  have e1:Int.tdiv (2*M) sp=(2*M) / sp:=Int.tdiv_eq_ediv_of_nonneg (by omega)
  obtain ⟨Q,hQ⟩:∃Q,(2*M) / sp=Q:=⟨_,rfl⟩
  have q0:0≤Q:=by rw [← hQ];exact Int.ediv_nonneg (by omega) (by omega)
  have q1:Q*sp≤2*M:=by rw [← hQ];exact Int.ediv_mul_le _ (by omega)
  have q2:2*M<(Q+1)*sp:=by rw [← hQ];exact Int.lt_ediv_add_one_mul_self _ (by omega)
  rw [Int.add_mul,Int.one_mul]at q2;have q3:Q*1≤Q*sp:=Int.mul_le_mul_of_nonneg_left hS.1 q0
  have w6:IntKind.wrap .i64 Q=Q:=wrap64_id (by omega) (by omega)
  have w7:IntKind.wrap .i64 (Q+2)=Q+2:=wrap64_id (by omega) (by omega)
  have hi:(Q+2)*sp=Q*sp+2*sp:=by rw [Int.add_mul]
  have s1:=sq_bd (x:=a-c) (M:=M) (by omega) (by omega)
  have s2:=sq_bd (x:=b-d) (M:=M) (by omega) (by omega)
  have s3:=sq_mono (a:=2*M) (b:=(Q+2)*sp) (by omega) (by omega)
  have s4:2*M*(2*M)=4*(M*M):=by rw [Int.mul_assoc 2 M,Int.mul_left_comm M 2 M];omega
  obtain ⟨t,e3,e4⟩:=loop25 (xl:=xl) (xh:=xh) (yl:=yl) (yh:=yh) (sz:=sz) (fc:=fc) (fn:=fn) (oc:=oc) (on_:=on_) (bx:=bx) (b_y:=b_y) (st:=st) (sp:=sp) (fu:=fu) (lk:=lk) (tu:=tu) (u:=a-c) (v:=b-d) (a:=a) (b:=b) (c:=c) (d:=d) (by omega) (by omega) hS (Q+3).toNat (-1) (Q+2) (by omega) (by omega) (by omega) (by omega) (by omega) (Or.inl rfl)
  have n0:¬sp=0:=by omega
  have q:F25 xl xh yl yh sz fc 0 fn oc 0 on_ bx b_y st sp fu lk tu a b c d=some ⟨t⟩:=by
    unfold F25 rt25;simp only [RT.val,mq,n0,w1,w2,w3,w4,hM,w5,e1,hQ,w6,w7,eqCode_self,L25_0_k0,Qk0,L25_0,e3,decide_false,Bool.not_false,cond_true]
  exact ⟨t,by simp only [F25_ok,q];rfl,by simp only [F25_0,q],e4⟩
theorem flight_same (gf:GL I5 5 fc fn)(go:GL S6 6 oc on_)(a b c d:Int) :
    F10_ok xl xh yl yh sz fc 0 fn oc 0 on_ bx b_y st sp fu lk tu a b c d=true∧F11_ok xl xh yl yh sz fc 0 fn oc 0 on_ bx b_y st sp fu lk tu a b c d=true ∧
    F10_0 xl xh yl yh sz fc 0 fn oc 0 on_ bx b_y st sp fu lk tu a b c d=F11_0 xl xh yl yh sz fc 0 fn oc 0 on_ bx b_y st sp fu lk tu a b c d∧F10_1 xl xh yl yh sz fc 0 fn oc 0 on_ bx b_y st sp fu lk tu a b c d=F11_1 xl xh yl yh sz fc 0 fn oc 0 on_ bx b_y st sp fu lk tu a b c d:=by
  obtain ⟨p1,p2⟩:=F18_of2 (xl:=xl) (xh:=xh) (yl:=yl) (yh:=yh) (sz:=sz) (bx:=bx) (b_y:=b_y) (st:=st) (sp:=sp) (fu:=fu) (lk:=lk) (tu:=tu) gf go;have k18:=F16_eq (xl:=xl) (xh:=xh) (yl:=yl) (yh:=yh) (sz:=sz) (bx:=bx) (b_y:=b_y) (st:=st) (sp:=sp) (fu:=fu) (lk:=lk) (tu:=tu) gf go
  by_cases h:(ckR xl xh yl yh sz fc fn oc on_ bx b_y st sp fu lk tu).2.2=0
  case neg =>
    have q:F10 xl xh yl yh sz fc 0 fn oc 0 on_ bx b_y st sp fu lk tu a b c d=some ⟨0,(ckR xl xh yl yh sz fc fn oc on_ bx b_y st sp fu lk tu).2.2⟩:=by
      unfold F10 rt10;simp only [RT.val,mq,F16_ok,F16_2,k18,h,Option.isSome_some,decide_false,Bool.not_false,cond_true]
    have r:F11 xl xh yl yh sz fc 0 fn oc 0 on_ bx b_y st sp fu lk tu a b c d=some ⟨0,(ckR xl xh yl yh sz fc fn oc on_ bx b_y st sp fu lk tu).2.2⟩:=by
      unfold F11 rt11;simp only [RT.val,mq,p1,p2,h,decide_false,Bool.not_false,cond_true,cond_false]
    refine ⟨by simp only [F10_ok,q];rfl,by simp only [F11_ok,r];rfl,by simp only [F10_0,F11_0,q,r],by simp only [F10_1,F11_1,q,r]⟩
  cases hab:plB a&&plB b with
  | false =>
    have q:F10 xl xh yl yh sz fc 0 fn oc 0 on_ bx b_y st sp fu lk tu a b c d=some ⟨0,7⟩:=by
      unfold F10 rt10;simp only [RT.val,mq,F16_ok,F16_2,k18,h,(F22_of _ _).1,(F22_of _ _).2,hab,Option.isSome_some,decide_true,Bool.not_true,Bool.not_false,cond_true,cond_false]
    have r:F11 xl xh yl yh sz fc 0 fn oc 0 on_ bx b_y st sp fu lk tu a b c d=some ⟨0,7⟩:=by
      unfold F11 rt11;simp only [RT.val,mq,p1,p2,h,(F24_of _).1,(F24_of _).2,decide_true,cond_true]
      revert hab
      cases plB a<;>cases plB b<;>intro hab<;>first | rfl | cases hab
    refine ⟨by simp only [F10_ok,q];rfl,by simp only [F11_ok,r];rfl,by simp only [F10_0,F11_0,q,r],by simp only [F10_1,F11_1,q,r]⟩
  | true =>
  cases hcd:plB c&&plB d with
  | false =>
    have q:F10 xl xh yl yh sz fc 0 fn oc 0 on_ bx b_y st sp fu lk tu a b c d=some ⟨0,7⟩:=by
      unfold F10 rt10;simp only [RT.val,mq,F16_ok,F16_2,k18,h,(F22_of _ _).1,(F22_of _ _).2,hab,hcd,Option.isSome_some,decide_true,Bool.not_true,Bool.not_false,cond_true,cond_false]
    have r:F11 xl xh yl yh sz fc 0 fn oc 0 on_ bx b_y st sp fu lk tu a b c d=some ⟨0,7⟩:=by
      unfold F11 rt11;simp only [RT.val,mq,p1,p2,h,(F24_of _).1,(F24_of _).2,decide_true,cond_true]
      revert hab hcd
      cases plB a<;>cases plB b<;>cases plB c<;>cases plB d<;>intro hab hcd<;>first | rfl | exact absurd hab (by decide) | exact absurd hcd (by decide)
    refine ⟨by simp only [F10_ok,q];rfl,by simp only [F11_ok,r];rfl,by simp only [F10_0,F11_0,q,r],by simp only [F10_1,F11_1,q,r]⟩
  | true =>
  obtain ⟨t,t1,t2,t3,t4⟩:=F10_good gf go h hab hcd;obtain ⟨k1,k2⟩:=pl_of hab;obtain ⟨k3,k4⟩:=pl_of hcd;have hsp:=sp_of2 h;obtain ⟨u,u1,u2,u3⟩:=F25_of (xl:=xl) (xh:=xh) (yl:=yl) (yh:=yh) (sz:=sz) (fc:=fc) (fn:=fn) (oc:=oc) (on_:=on_) (bx:=bx) (b_y:=b_y) (st:=st) (fu:=fu) (lk:=lk) (tu:=tu) k1 k2 k3 k4 hsp;obtain rfl:=Tick.uniq hsp.1 t4 u3;have hab':=hab;have hcd':=hcd;simp only [Bool.and_eq_true]at hab' hcd'
  have r:F11 xl xh yl yh sz fc 0 fn oc 0 on_ bx b_y st sp fu lk tu a b c d=some ⟨t,0⟩:=by
    unfold F11 rt11;simp only [RT.val,mq,p1,p2,h,(F24_of _).1,(F24_of _).2,hab'.1,hab'.2,hcd'.1,hcd'.2,u1,u2,decide_true,Bool.not_true,cond_true,cond_false]
  exact ⟨t1,by simp only [F11_ok,r];rfl,by rw [t3];simp only [F11_0,r],by rw [t2];simp only [F11_1,r]⟩
end
end
end Go.Proofs.YtoghoeebiddblaaGreat
namespace Go.Proofs.YtoghoeebiddblaaGreat
open Go.Gi Go.RowKit
noncomputable section
set_option maxRecDepth 100000
set_option maxHeartbeats 1000000
theorem true3:True3:=by
  intro xl xh yl yh sz fc fn oc on_ bx b_y st sp fu lk tu x y u v _ _ _ _ _ gf go _ _;have p:=F5_eq (xl:=xl) (xh:=xh) (yl:=yl) (yh:=yh) (sz:=sz) (bx:=bx) (b_y:=b_y) (st:=st) (sp:=sp) (fu:=fu) (lk:=lk) (tu:=tu) gf go;have q:=F6_eq (xl:=xl) (xh:=xh) (yl:=yl) (yh:=yh) (sz:=sz) (bx:=bx) (b_y:=b_y) (st:=st) (sp:=sp) (fu:=fu) (lk:=lk) (tu:=tu) gf go;have r:=F8_eq (xl:=xl) (xh:=xh) (yl:=yl) (yh:=yh) (sz:=sz) (bx:=bx) (b_y:=b_y) (st:=st) (sp:=sp) (fu:=fu) (lk:=lk) (tu:=tu) (x:=x) (y:=y) gf go;have s:=F9_eq (xl:=xl) (xh:=xh) (yl:=yl) (yh:=yh) (sz:=sz) (bx:=bx) (b_y:=b_y) (st:=st) (sp:=sp) (fu:=fu) (lk:=lk) (tu:=tu) (x:=x) (y:=y) gf go
  obtain ⟨f1,f2,f3,f4⟩:=flight_same (xl:=xl) (xh:=xh) (yl:=yl) (yh:=yh) (sz:=sz) (bx:=bx) (b_y:=b_y) (st:=st) (sp:=sp) (fu:=fu) (lk:=lk) (tu:=tu) gf go x y u v;unfold rt3
  by_cases h:(ckR xl xh yl yh sz fc fn oc on_ bx b_y st sp fu lk tu).2.2=0
  · rw [if_pos h]at p q r s
    obtain ⟨W,H,t⟩:=tsk_of h
    obtain ⟨c1,c2⟩:=F7_self (cels xl xh yl yh sz fc fn oc on_) (by have:=cels_len t;omega)
    simp only [RT.val,mq,F5_ok,F5_0,F5_1,F5_2,F5_3,F6_ok,F6_0,F6_1,F6_2,F6_3,F8_ok,F8_0,F8_1,F9_ok,F9_0,F9_1,p,q,r,s,c1,c2,f1,f2,f3,f4,Option.isSome_some,decide_true,Bool.not_true,cond_true,cond_false]
  · rw [if_neg h]at p q r s
    obtain ⟨c1,c2⟩:=F7_self [] (by simp only [List.length_nil];omega)
    have c1':F7_ok ⟨[]⟩ 0 0 ⟨[]⟩ 0 0=true:=c1;have c2':F7_0 ⟨[]⟩ 0 0 ⟨[]⟩ 0 0=true:=c2;simp only [RT.val,mq,F5_ok,F5_0,F5_1,F5_2,F5_3,F6_ok,F6_0,F6_1,F6_2,F6_3,F8_ok,F8_0,F8_1,F9_ok,F9_0,F9_1,p,q,r,s,c1',c2',f1,f2,f3,f4,Option.isSome_some,decide_true,Bool.not_true,cond_true,cond_false]
theorem recoverCellsProved:Rows.RecoverCellsSaid:=said3 true3
end
end Go.Proofs.YtoghoeebiddblaaGreat
