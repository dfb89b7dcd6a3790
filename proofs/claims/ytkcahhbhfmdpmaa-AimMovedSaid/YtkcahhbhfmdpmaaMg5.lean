/- Part 5 of the texts below the claim. Conditions: none. -/
import Derived.Test.YtkcahhbhfmdpmaaMg4
set_option linter.unusedVariables false
set_option linter.unusedSimpArgs false
namespace Go.Gi
open Go.RowKit
noncomputable section
def sLoudS (o:Oper):Bool :=
 match o.op with
 | .alloc _ | .box _ _ | .buildSlice _ _ _ | .store _ _ _ | .convert _ _ _ | .makeMap _ _ | .mapUpdate _ _ _ _ | .insert _ _ _ _ | .makeSlice _ _ _=>true
 | .call { callee:=.builtin b,.. }=>(match b with | .len | .cap | .max | .min=>false | _=>true)
 | .call _=>true
 | _=>false
def sDstOk1 (os:Array Oper)(clo:List Nat)(i j:Nat):Bool :=
 i == j||match os[i]?,os[j]? with
  | some a,some b=>(match a.dst with
   | some t=>(b.dst != some t)&&(!(looks os b).contains t||cl clo j i||cl clo i j)
   | none=>true)
  | _,_=>true
def sDstOk (os:Array Oper)(clo:List Nat):Bool:=(List.range os.size).all fun i=>(List.range os.size).all fun j=>sDstOk1 os clo i j
def sNeed1 (os:Array Oper)(clo:List Nat)(i j:Nat):Bool :=
 match os[i]?,os[j]? with
 | some a,some b=>sLoudS a&&(sLoudS b||memOp b.op)&&unord clo i j
 | _,_=>false
def sNeed (os:Array Oper)(clo:List Nat):List (Nat×Nat) :=
 (List.range os.size).flatMap fun i=>((List.range os.size).filter fun j=>sNeed1 os clo i j).map fun j=>(i,j)
def sDchkQ (P:Program)(os:Array Oper)(clo:List Nat)(recs:List Rec):Bool :=
 sDstOk os clo&&recs.all (fun r=>!r.loud||sLoudS r.o)&&(sNeed os clo).all fun x=>recs.all fun r=>!(r.i == x.1)||recs.all fun q=>!(q.i == x.2)||pairOk P os clo r q
theorem sDchkQ_ok {P:Program}{os:Array Oper}{clo:List Nat}{recs:List Rec}(ho:∀r∈recs,os[r.i]?=some r.o) (h:sDchkQ P os clo recs=true):dchk P os clo recs=true:=by
 simp only[sDchkQ,Bool.and_eq_true,List.all_eq_true]at h;obtain ⟨⟨h1,h2⟩,h3⟩:=h;simp only[dchk,List.all_eq_true];intro r hr q hq;have hri:=ho r hr;have hqi:=ho q hq
 have hrl:r.i<os.size:=(Array.getElem?_eq_some_iff.1 hri).1
 have hql:q.i<os.size:=(Array.getElem?_eq_some_iff.1 hqi).1
 by_cases hn:sNeed1 os clo r.i q.i=true
 ·have hm:(r.i,q.i)∈sNeed os clo:=by
   simp only[sNeed,List.mem_flatMap,List.mem_map,List.mem_filter,List.mem_range];exact ⟨r.i,hrl,q.i,⟨hql,hn⟩,rfl⟩
  have:=h3 _ hm r hr;simp only[beq_self_eq_true,Bool.not_true,Bool.false_or,List.all_eq_true]at this;have:=this q hq
  simpa using this
 ·have hd:sDstOk1 os clo r.i q.i=true:=by
   simp only[sDstOk,List.all_eq_true,List.mem_range]at h1;exact h1 r.i hrl q.i hql
  simp only[sDstOk1,hri,hqi]at hd;simp only[sNeed1,hri,hqi]at hn;unfold pairOk
  cases he:r.i == q.i with
  | true=>rfl
  | false =>
   rw[he,Bool.false_or]at hd;rw[Bool.false_or,Bool.and_eq_true]
   refine ⟨hd,?_⟩
   have hl1:=h2 r hr;have hl2:=h2 q hq
   cases hrL:r.loud with
   | false=>rfl
   | true =>
    simp only[hrL,Bool.not_true,Bool.false_or]at hl1;simp only[hl1,Bool.true_and]at hn
    cases hu:unord clo r.i q.i with
    | false=>simp
    | true =>
     simp only[hu,Bool.and_true,Bool.or_eq_true,not_or,Bool.not_eq_true]at hn
     cases hqL:q.loud with
     | true=>simp only[hqL,hn.1,Bool.not_true,Bool.or_false]at hl2;cases hl2
     | false=>simp [hn.2]
def veq0C (x y:Value)(k:Option Out):Option Out :=
 match x,y with
 | .bool a,.bool b=>cond (a == b) k none
 | .int p a,.int q b=>if p=q then cond (decide (a=b)) k none else none
 | .string a,.string b=>cond (decide (a=b)) k none
 | .pointer none,.pointer none=>k
 | .pointer (some a),.pointer (some b)=>cond (decide (a=b)) k none
 | .slice none l c,.slice none l' c'=>cond (decide (l=l')&&decide (c=c')) k none
 | .slice (some a) l c,.slice (some b) l' c'=>cond (decide (a=b)&&(decide (l=l')&&decide (c=c'))) k none
 | .map a,.map b=>cond (decide (a=b)) k none
 | .nilIface,.nilIface=>k
 | .nilFunc,.nilFunc=>k
 | .func (.via 0 ⟨[]⟩ 0 true) x ⟨[.slice (some ⟨p,o,none⟩) l c]⟩,.func (.via 0 ⟨[]⟩ 0 true) y ⟨[.slice (some ⟨p',o',none⟩) l' c']⟩=>cond (arrEq x y&&(decide (p=p')&&(decide (o=o')&&(decide (l=l')&&decide (c=c'))))) k none
 | .func (.via 0 ⟨[]⟩ 0 false) x ⟨[.pointer (some ⟨p,o,none⟩)]⟩,.func (.via 0 ⟨[]⟩ 0 false) y ⟨[.pointer (some ⟨p',o',none⟩)]⟩=>cond (arrEq x y&&(decide (p=p')&&decide (o=o'))) k none
 | _,_=>none
theorem veq0C_ok {x y:Value}{k:Option Out}{r:Out}(h:veq0C x y k=some r):veq0 x y=true∧k=some r:=by
 unfold veq0C at h
 split at h
 ·obtain ⟨h1,h2⟩:=cond_some h;exact ⟨by simpa [veq0] using h1,h2⟩
 ·split at h
  ·rename_i hk;obtain ⟨h1,h2⟩:=cond_some h;exact ⟨by simpa [veq0,hk] using h1,h2⟩
  ·cases h
 ·obtain ⟨h1,h2⟩:=cond_some h;exact ⟨by simpa [veq0] using h1,h2⟩
 ·exact ⟨rfl,h⟩
 ·obtain ⟨h1,h2⟩:=cond_some h;exact ⟨by simpa [veq0] using h1,h2⟩
 ·obtain ⟨h1,h2⟩:=cond_some h;exact ⟨by simpa [veq0] using h1,h2⟩
 ·obtain ⟨h1,h2⟩:=cond_some h
  simp only[Bool.and_eq_true,decide_eq_true_eq]at h1
  exact ⟨by simp [veq0,h1],h2⟩
 ·obtain ⟨h1,h2⟩:=cond_some h;exact ⟨by simpa [veq0] using h1,h2⟩
 ·exact ⟨rfl,h⟩
 ·exact ⟨rfl,h⟩
 ·obtain ⟨h1,h2⟩:=cond_some h;exact ⟨h1,h2⟩
 ·obtain ⟨h1,h2⟩:=cond_some h;exact ⟨h1,h2⟩
 ·cases h
def veqLC:List Value→List Value→Option Out→Option Out
 | [],[],k=>k
 | a::r,b::s,k=>veq0C a b (veqLC r s k)
 | _,_,_=>none
theorem veqLC_ok:∀{a b:List Value}{k:Option Out}{r:Out},veqLC a b k=some r→veqL a b=true∧k=some r
 | [],[],_,_,h=>⟨rfl,h⟩
 | [],_::_,_,_,h=>by cases h
 | _::_,[],_,_,h=>by cases h
 | a::l,b::m,k,r,h=>by
  obtain ⟨h1,h2⟩:=veq0C_ok (show veq0C a b (veqLC l m k)=some r from h)
  obtain ⟨h3,h4⟩:=veqLC_ok h2
  exact ⟨by simp [veqL,h1,h3],h4⟩
def veqC (x y:Value)(k:Option Out):Option Out :=
 match x,y with
 | .agg a,.agg b=>veqLC a.toList b.toList k
 | .func (.func f) a b,.func (.func g) c d=>if f=g then veqLC a.toList c.toList (veqLC b.toList d.toList k) else none
 | a,b=>veq0C a b k
theorem veqC_ok {x y:Value}{k:Option Out}{r:Out}(h:veqC x y k=some r):veq x y=true∧k=some r:=by
 unfold veqC at h
 split at h
 ·exact veqLC_ok h
 ·split at h
  ·rename_i hf
   obtain ⟨h1,h2⟩:=veqLC_ok h;obtain ⟨h3,h4⟩:=veqLC_ok h2
   exact ⟨by simp [veq,hf,h1,h3],h4⟩
  ·cases h
 ·rename_i h1 h2
  obtain ⟨h3,h4⟩:=veq0C_ok h
  refine ⟨?_,h4⟩
  unfold veq
  split
  ·exact (h1 _ _ rfl rfl).elim
  ·exact (h2 _ _ _ _ _ _ rfl rfl).elim
  ·exact h3
def sameC (P:Program)(T:List Value)(H:List Ob)(o:Oper)(v:Value)(k:Option Out):Option Out :=
 match symR P (evalT T) H o with
 | some (b,v')=>cond b (veqC v' v k) none
 | none=>match aread P (evalT T) H o with
  | some v'=>veqC v' v k
  | none=>none
theorem sameC_ok {P:Program}{T:List Value}{H:List Ob}{o:Oper}{v:Value}{k:Option Out}{r:Out}(h:sameC P T H o v k=some r):same (aread P (evalT T) H o) v=true∧k=some r:=by
 unfold sameC at h
 split at h
 ·rename_i b v' hs
  obtain ⟨h1,h2⟩:=cond_some h;obtain ⟨h3,h4⟩:=veqC_ok h2;rw[symR_ok hs h1];exact ⟨h3,h4⟩
 ·split at h
  ·rename_i v' ha
   rw[ha];exact veqC_ok h
  ·cases h
def dstP (os:Array Oper)(clo:List Nat)(r q:Rec):Bool :=
 match r.o.dst with
 | some t=>(q.o.dst != some t)&&(!(looks os q.o).contains t||cl clo q.i r.i||cl clo r.i q.i)
 | none=>true
def pairC (P:Program)(os:Array Oper)(clo:List Nat)(r q:Rec)(k:Option Out):Option Out :=
 if r.i == q.i then k else
 if dstP os clo r q then
  if r.loud&&unord clo r.i q.i then
   if q.loud then none
   else if memOp q.o.op&&wantedT os q.T q.o then sameC P q.T r.hb.bl q.o q.v (sameC P q.T r.ha.bl q.o q.v k)
   else k
  else k
 else none
theorem pairC_ok {P:Program}{os:Array Oper}{clo:List Nat}{r q:Rec}{k:Option Out}{x:Out}(h:pairC P os clo r q k=some x):pairOk P os clo r q=true∧k=some x:=by
 unfold pairC at h
 show (r.i == q.i||(dstP os clo r q&&(!r.loud||(!q.loud||!unord clo r.i q.i)&&(q.loud||!memOp q.o.op||!unord clo r.i q.i||!wantedT os q.T q.o ||
  (same (aread P (evalT q.T) r.hb.bl q.o) q.v&&same (aread P (evalT q.T) r.ha.bl q.o) q.v)))))=true∧_
 generalize he:(r.i == q.i)=e at h ⊢
 generalize hd:dstP os clo r q=d at h ⊢
 generalize hl:r.loud=l at h ⊢
 generalize hu:unord clo r.i q.i=u at h ⊢
 generalize hq:q.loud=ql at h ⊢
 generalize hm:memOp q.o.op=m at h ⊢
 generalize hw:wantedT os q.T q.o=wt at h ⊢
 cases e<;>cases d<;>cases l<;>cases u<;>cases ql<;>cases m<;>cases wt<;>first
  | (cases h;done)
  | exact ⟨rfl,h⟩
  | (obtain ⟨h6,h7⟩:=sameC_ok h
     obtain ⟨h8,h9⟩:=sameC_ok h7
     exact ⟨by rw[h6,h8];rfl,h9⟩)
def pairsC (P:Program)(os:Array Oper)(clo:List Nat)(r:Rec)(j:Nat):List Rec→Option Out→Option Out
 | [],k=>k
 | q::l,k=>if q.i == j then pairC P os clo r q (pairsC P os clo r j l k) else pairsC P os clo r j l k
theorem pairsC_ok {P:Program}{os:Array Oper}{clo:List Nat}{r:Rec}{j:Nat}:∀{l:List Rec}{k:Option Out}{x:Out},pairsC P os clo r j l k=some x →
  (∀q∈l,q.i == j→pairOk P os clo r q=true)∧k=some x
 | [],_,_,h=>⟨fun _ hq=>by simp at hq,h⟩
 | q::l,k,x,h=>by
  simp only[pairsC]at h
  split at h
  ·rename_i hq
   obtain ⟨h1,h2⟩:=pairC_ok h;obtain ⟨h3,h4⟩:=pairsC_ok h2
   refine ⟨fun q' hm he=>?_,h4⟩
   rcases List.mem_cons.1 hm with rfl | hm
   ·exact h1
   ·exact h3 q' hm he
  ·rename_i hq
   obtain ⟨h3,h4⟩:=pairsC_ok h
   refine ⟨fun q' hm he=>?_,h4⟩
   rcases List.mem_cons.1 hm with rfl | hm
   ·exact (hq he).elim
   ·exact h3 q' hm he
def rowsC (P:Program)(os:Array Oper)(clo:List Nat)(all:List Rec)(i j:Nat):List Rec→Option Out→Option Out
 | [],k=>k
 | r::l,k=>if r.i == i then pairsC P os clo r j all (rowsC P os clo all i j l k) else rowsC P os clo all i j l k
theorem rowsC_ok {P:Program}{os:Array Oper}{clo:List Nat}{all:List Rec}{i j:Nat}:∀{l:List Rec}{k:Option Out}{x:Out},rowsC P os clo all i j l k=some x →
  (∀r∈l,r.i == i→∀q∈all,q.i == j→pairOk P os clo r q=true)∧k=some x
 | [],_,_,h=>⟨fun _ hq=>by simp at hq,h⟩
 | q::l,k,x,h=>by
  simp only[rowsC]at h
  split at h
  ·rename_i hq
   obtain ⟨h1,h2⟩:=pairsC_ok h;obtain ⟨h3,h4⟩:=rowsC_ok h2
   refine ⟨fun q' hm he=>?_,h4⟩
   rcases List.mem_cons.1 hm with rfl | hm
   ·exact h1
   ·exact h3 q' hm he
  ·rename_i hq
   obtain ⟨h3,h4⟩:=rowsC_ok h
   refine ⟨fun q' hm he=>?_,h4⟩
   rcases List.mem_cons.1 hm with rfl | hm
   ·exact (hq he).elim
   ·exact h3 q' hm he
def needC (P:Program)(os:Array Oper)(clo:List Nat)(recs:List Rec):List (Nat×Nat)→Option Out→Option Out
 | [],k=>k
 | (i,j)::l,k=>rowsC P os clo recs i j recs (needC P os clo recs l k)
theorem needC_ok {P:Program}{os:Array Oper}{clo:List Nat}{recs:List Rec}:∀{l:List (Nat×Nat)}{k:Option Out}{x:Out},needC P os clo recs l k=some x →
  (∀p∈l,∀r∈recs,r.i == p.1→∀q∈recs,q.i == p.2→pairOk P os clo r q=true)∧k=some x
 | [],_,_,h=>⟨fun _ hq=>by simp at hq,h⟩
 | (i,j)::l,k,x,h=>by
  obtain ⟨h1,h2⟩:=rowsC_ok (show rowsC P os clo recs i j recs (needC P os clo recs l k)=some x from h)
  obtain ⟨h3,h4⟩:=needC_ok h2
  refine ⟨fun p hm=>?_,h4⟩
  rcases List.mem_cons.1 hm with rfl | hm
  ·exact h1
  ·exact h3 p hm
def chkC (P:Program)(os:Array Oper)(clo:List Nat)(recs:List Rec)(k:Option Out):Option Out :=
 if sDstOk os clo&&recs.all (fun r=>!r.loud||sLoudS r.o) then needC P os clo recs (sNeed os clo) k else none
theorem chkC_ok {P:Program}{os:Array Oper}{clo:List Nat}{recs:List Rec}{k:Option Out}{x:Out}(ho:∀r∈recs,os[r.i]?=some r.o) (h:chkC P os clo recs k=some x):dchk P os clo recs=true∧k=some x:=by
 unfold chkC at h
 split at h
 ·rename_i h1
  rw[Bool.and_eq_true]at h1;obtain ⟨h2,h3⟩:=needC_ok h
  refine ⟨sDchkQ_ok ho ?_,h3⟩
  unfold sDchkQ;rw[h1.1,h1.2];simp only[Bool.true_and,List.all_eq_true];intro p hp r hr
  cases e1:r.i == p.1 with
  | false=>rfl
  | true =>
   simp only[Bool.not_true,Bool.false_or,List.all_eq_true];intro q hq
   cases e2:q.i == p.2 with
   | false=>rfl
   | true=>simp only[Bool.not_true,Bool.false_or];exact h2 p hp r hr e1 q hq e2
 ·cases h
section
variable {P:Program}{self:SelfC}{sd:Self}
def opD (P:Program)(self:SelfC)(T:List Value)(h:Hp)(o:Oper)(k:Value→Hp→Bool→Option Out):Option Out :=
 match o.op with
 | .pick c a b=>if okO c&&okO a&&okO b then (match evalT T c with | .bool t=>cond t (k (evalT T a) h false) (k (evalT T b) h false) | _=>none) else none
 | _ =>
  match symR P (evalT T) h.bl o with
  | some (b,v)=>cond b (k v h false) none
  | none=>match aread P (evalT T) h.bl o with
   | some v=>k v h false
   | none=>loudC P (evalT T) h o {
    val:=fun v h'=>heapK h' fun h'=>k v h' true
    enter:=fun f args=>headsK args fun args=>self (.call f ⟨args⟩ h) fun | .ret v h'=>k v h' true | _=>none
    yield:=fun l args=>headsK args fun args=>self (.round l ⟨args⟩ h) fun | .ret v h'=>k v h' true | _=>none
    defer:=fun _=>none
    panic:=fun _=>none }
theorem opD_ok (hs:CpsOk self sd) {T:List Value}{h:Hp}{o:Oper}{k:Value→Hp→Bool→Option Out}{r:Out}(hc:opD P self T h o k=some r) :
  (∃v,aread P (evalT T) h.bl o=some v∧k v h false=some r)∨(aread P (evalT T) h.bl o=none∧∃v h',dloud P sd (evalT T) h o=some (v,h')∧k v h' true=some r):=by
 unfold opD at hc
 split at hc
 ·rename_i c a b ho
  split at hc
  ·rename_i hx
   split at hc
   ·rename_i t ht
    cases t with
    | true=>exact .inl ⟨evalT T a,by simp only[aread,ho,hx,if_true,ht],hc⟩
    | false=>exact .inl ⟨evalT T b,by simp only[aread,ho,hx,if_true,ht,Bool.false_eq_true,if_false],hc⟩
   ·cases hc
  ·cases hc
 ·split at hc
  ·rename_i b v hsy
   obtain ⟨h1,h2⟩:=cond_some hc;exact .inl ⟨v,symR_ok hsy h1,h2⟩
  ·split at hc
   ·rename_i v ha;exact .inl ⟨v,ha,hc⟩
   ·rename_i ha
    refine .inr ⟨ha,?_⟩
    obtain ⟨nx,h1,h2⟩:=loudC_ok hc;unfold dloud;rw[h1]
    cases nx with
    | val v hp=>simp only[Ends.on,heapK_eq]at h2;exact ⟨_,_,rfl,h2⟩
    | enter f args =>
     simp only[Ends.on,headsK_eq]at h2;obtain ⟨o',h3,h4⟩:=hs _ _ _ h2
     rw[show (⟨args.toList⟩:Array Value)=args from rfl]at h3
     simp only[h3]
     cases o' with
     | ret v hp=>exact ⟨_,_,rfl,h4⟩
     | _=>cases h4
    | yield l' args =>
     simp only[Ends.on,headsK_eq]at h2;obtain ⟨o',h3,h4⟩:=hs _ _ _ h2
     rw[show (⟨args.toList⟩:Array Value)=args from rfl]at h3
     simp only[h3]
     cases o' with
     | ret v hp=>exact ⟨_,_,rfl,h4⟩
     | _=>cases h4
    | defer d=>cases h2
    | panic v=>cases h2
    | recover=>cases h2
def drunC (P:Program)(self:SelfC)(os:Array Oper):List Nat→List Value→Hp→(List Rec→List Value→Hp→Option Out)→Option Out
 | [],T,h,k=>k [] T h
 | i::r,T,h,k =>
  match os[i]? with
  | none=>none
  | some o =>
   guardC os o T
    (fun T=>opD P self T h o fun v h' loud=>headK v fun v=>setK' T o.dst v fun T'=>drunC P self os r T' h' fun l T2 h2=>k (⟨i,o,T,v,h,h',loud⟩::l) T2 h2)
    (fun T=>setK' T o.dst undef fun T'=>drunC P self os r T' h fun l T2 h2=>k (⟨i,o,T,undef,h,h,false⟩::l) T2 h2)
theorem drunC_ok (hs:CpsOk self sd) {os:Array Oper}:∀{l:List Nat}{T:List Value}{h:Hp}{k:List Rec→List Value→Hp→Option Out}{r:Out},drunC P self os l T h k=some r →
  ∃recs T' h',drun P sd os l T h=some (recs,T',h')∧k recs T' h'=some r
 | [],T,h,k,r,hc=>⟨_,_,_,rfl,hc⟩
 | i::l,T,h,k,r,hc=>by
  simp only[drunC]at hc;simp only[drun]
  split at hc
  ·cases hc
  ·rename_i o hi
   rw[hi];simp only[forceV_eq,putK_eq,forceH_eq]
   rcases guardC_ok hc with ⟨hw,hc⟩ | ⟨hw,hc⟩
   ·rw[if_pos hw]
    rcases opD_ok hs hc with ⟨v,ha,hc⟩ | ⟨ha,v,h',hd,hc⟩
    ·rw[ha]
     simp only[headK_eq,setK'_eq]at hc;obtain ⟨recs,T',h',h1,h2⟩:=drunC_ok hs hc;simp only;rw[h1];exact ⟨_,_,_,rfl,h2⟩
    ·rw[ha]
     simp only[headK_eq,setK'_eq]at hc;obtain ⟨recs,T',h'',h1,h2⟩:=drunC_ok hs hc;simp only;rw[hd];simp only;rw[h1];exact ⟨_,_,_,rfl,h2⟩
   ·rw[if_neg (by rw[hw];intro h;cases h)]
    simp only[setK'_eq]at hc;obtain ⟨recs,T',h'',h1,h2⟩:=drunC_ok hs hc;rw[h1];exact ⟨_,_,_,rfl,h2⟩
def drawnC (P:Program)(self:SelfC)(os:Array Oper)(s:St)(k:Ex→St→Option Out):Option Out :=
 if planOk os (Region.linearise .any os 0) (mkClo os (Region.linearise .any os 0) (List.replicate os.size 0)) then
  drunC P self os (Region.linearise .any os 0) s.t s.h fun recs T h =>
   chkC P os (mkClo os (Region.linearise .any os 0) (List.replicate os.size 0)) recs (k .normal { t:=T,d:=s.d,h:=h })
 else none
theorem drawnC_ok (hs:CpsOk self sd) {rd:Option Nat}{id:Nat}{os:Array Oper}{s:St}{k:Ex→St→Option Out}{r:Out}(hc:drawnC P self os s k=some r) :
  ∃e s',drawn P sd rd id os s=some (.ex e s')∧k e s'=some r:=by
 unfold drawnC at hc;unfold drawn
 split at hc
 ·rename_i hp
  rw[if_pos hp];obtain ⟨recs,T,h,h1,h2⟩:=drunC_ok hs hc;rw[h1]
  obtain ⟨h3,h4⟩:=chkC_ok (fun r hm=>((drun_tr _ _ _ _ _ _ h1).1.recs r hm).1) h2
  simp only;rw[if_pos h3];exact ⟨_,_,rfl,h4⟩
 ·cases hc
end
def lenIs (l:List Value):Nat→Bool:=List.rec (motive:=fun _=>Nat→Bool) (fun n=>Nat.beq n 0) (fun _ _ ih n=>Nat.rec (motive:=fun _=>Bool) false (fun m _=>ih m) n) l
theorem lenIs_eq:∀(l:List Value) (n:Nat),lenIs l n=true→l.length=n
 | [],n,h=>(Nat.eq_of_beq_eq_true h).symm
 | _::_,0,h=>by cases h
 | _::r,n+1,h=>by rw[List.length_cons,lenIs_eq r n h]
def loudS (o:Oper):Bool :=
 match o.op with
 | .alloc _ | .box _ _ | .buildSlice _ _ _ | .store _ _ _ | .convert _ _ _ | .makeMap _ _ | .mapUpdate _ _ _ _ | .insert _ _ _ _ | .makeSlice _ _ _=>true
 | .call { callee:=.builtin b,.. }=>(match b with | .len | .cap | .max | .min=>false | _=>true)
 | .call _=>true
 | _=>false
end
end Go.Gi
namespace Go.Gi
open Go.RowKit
noncomputable section
variable {K:Nat→Prop}{w0 w:World} {φ:Phi}{H:List Ob}
theorem Inv.float (h:Inv K w0 φ H w)(o:Obj):Inv (fun b=>K b∨b=w.heap.size) (w.alloc o) φ H (w.alloc o):=by
 refine ⟨?_,h.sep,?_,fun _ _=>rfl,?_,Nat.le_refl _,rfl,rfl,rfl,h.top,?_,h.zsep,?_⟩
 ·intro b ob hb hl
  obtain ⟨B,base,tot,h1,h2⟩:=h.obs b ob hb hl;exact ⟨B,base,tot,h1,h2.keep (le_refl _) (Below.heap_alloc w o B (h2.lt hl))⟩
 ·intro b ob x hb hr hx hk
  rcases hk with hk | hk
  ·exact h.prot b ob x hb hr hx hk
  ·obtain ⟨B,base,tot,h1,h2⟩:=h.obs b ob hb (Ob.live_of_rw hr)
   rw[h1]at hx;cases hx;have:=h2.lt (Ob.live_of_rw hr);simp only at hk
   omega
 ·intro k hk
  have hs:(w.alloc o).heap.size=w.heap.size+1:=by simp
  rcases hk with hk | hk
  ·have:=h.klt k hk;have:=h.size;omega
  ·omega
 ·intro B o' hB
  have h1:=h.frz B o' hB
  exact (Below.heap_alloc w o B (Array.getElem?_eq_some_iff.1 h1).1).trans h1
 ·intro k hk
  rcases hk with hk | hk
  ·exact h.zk k hk
  ·cases hz:φ.z k with
   | none=>rfl
   | some o' =>
    have h1:=(Array.getElem?_eq_some_iff.1 (h.frz _ _ hz)).1
    omega
theorem Inv.back {K':Nat→Prop}{w1:World}(h:Inv K' w1 φ H w) (hK:∀b,K b→K' b∧w1.heap[b]?=w0.heap[b]?∧b<w0.heap.size) (hs:w0.heap.size≤w1.heap.size)
  (ho:w1.os=w0.os) (ht:w1.tape=w0.tape) (hu:w1.output=w0.output):Inv K w0 φ H w :=
 ⟨h.obs,h.sep,fun b ob x hb hr hx hk=>h.prot b ob x hb hr hx (hK _ hk).1,fun k hk=>(h.keep k (hK k hk).1).trans (hK k hk).2.1,fun k hk=>(hK k hk).2.2,
   Nat.le_trans hs h.size,h.os.trans ho,h.tape.trans ht,h.output.trans hu,h.top,h.frz,h.zsep,fun k hk=>h.zk k (hK k hk).1⟩
theorem Inv.land (h:Inv K w0 φ H w) {B:Nat}(hB:K B) {C c:Array Value}{el:TypeId}(hC:w0.heap[B]?=some (.cells C el (0,0))) (hc:VRs φ c C)
  (hro:∀(b:Nat) (ob:Ob) (x:Nat×Nat×Nat),H[b]?=some ob→ob.live=true→ob.rw=false→φ b=some x→x.1≠B) :
  Inv (fun b=>K b∧b≠B) w0 (up φ H.length (B,0,c.size)) (H++[.cells c false]) w:=by
 have hle:=le_up (x:=(B,0,c.size)) (h.top _ (Nat.le_refl _))
 have hnew:∀{b:Nat} {ob':Ob},(H++[.cells c false])[b]?=some ob'→(b<H.length∧H[b]?=some ob')∨(b=H.length∧ob'=.cells c false):=by
  intro b ob' hb
  rcases Nat.lt_or_ge b H.length with hlt | hge
  ·rw[List.getElem?_append_left hlt]at hb;exact .inl ⟨hlt,hb⟩
  ·rw[List.getElem?_append_right hge]at hb
   rcases Nat.eq_or_lt_of_le hge with e | hlt
   ·subst e;simp at hb;exact .inr ⟨rfl,hb.symm⟩
   ·rw[List.getElem?_eq_none (by simp;omega)]at hb;cases hb
 have hwB:w.heap[B]?=some (.cells C el (0,0)):=(h.keep B hB).trans hC
 have hother:∀{b:Nat} {ob':Ob} {x:Nat×Nat×Nat},b<H.length→H[b]?=some ob'→ob'.live=true→up φ H.length (B,0,c.size) b=some x→φ b=some x∧x.1≠B:=by
  intro b ob' x hlt hb hl hx
  rw[up_other φ _ (by omega)]at hx
  refine ⟨hx,?_⟩
  cases hr:ob'.rw with
  | false=>exact hro b ob' x hb hl hr hx
  | true=>intro e;exact h.prot b ob' x hb hr hx (by rw[e];exact hB)
 refine ⟨?_,?_,?_,fun k hk=>h.keep k hk.1,fun k hk=>h.klt k hk.1,h.size,h.os,h.tape,h.output,?_,h.frz,?_,fun k hk=>h.zk k hk.1⟩
 ·intro b ob' hb hl
  rcases hnew hb with ⟨hlt,hb'⟩ | ⟨rfl,rfl⟩
  ·obtain ⟨B',base,tot,h1,h2⟩:=h.obs b ob' hb' hl
   exact ⟨B',base,tot,hle _ _ h1,h2.keep hle rfl⟩
  ·refine ⟨B,0,c.size,up_same _ _ _,C,el,(0,0),hwB,fun i v hv=>?_,fun _=>⟨Nat.le_refl _,by rw[hc.size];omega,NF.zero _ _⟩⟩
   obtain ⟨v',hv',r⟩:=vrs_some hc hv
   exact ⟨v',by rw[Nat.zero_add];exact hv',r.mono hle⟩
 ·intro b b' ob1 ob2 x y hne hb hb' hrw hl hx hy
  rcases hnew hb with ⟨hlt,h1⟩ | ⟨rfl,rfl⟩
  ·obtain ⟨hx',hxB⟩:=hother hlt h1 (Ob.live_of_rw hrw) hx
   rcases hnew hb' with ⟨hlt',h2⟩ | ⟨rfl,rfl⟩
   ·exact h.sep b b' ob1 ob2 x y hne h1 h2 hrw hl hx' (hother hlt' h2 hl hy).1
   ·rw[up_same]at hy;cases hy;exact hxB
  ·rcases hnew hb' with ⟨hlt',h2⟩ | ⟨rfl,rfl⟩
   ·rw[up_same]at hx;cases hx
    exact fun e=>(hother hlt' h2 hl hy).2 e.symm
   ·exact absurd rfl hne
 ·intro b ob' x hb hrw hx hk
  rcases hnew hb with ⟨hlt,h1⟩ | ⟨rfl,rfl⟩
  ·exact h.prot b ob' x h1 hrw (hother hlt h1 (Ob.live_of_rw hrw) hx).1 hk.1
  ·rw[up_same]at hx;cases hx;exact hk.2 rfl
 ·intro b hb
  simp only[List.length_append,List.length_cons,List.length_nil]at hb
  rw[up_other φ _ (by omega)]
  exact h.top b (by omega)
 ·intro b ob' x hb hrw hx
  rcases hnew hb with ⟨hlt,h1⟩ | ⟨rfl,rfl⟩
  ·exact h.zsep b ob' x h1 hrw (hother hlt h1 (Ob.live_of_rw hrw) hx).1
  ·rw[up_same]at hx;cases hx;exact h.zk B hB
end
end Go.Gi
namespace Go.Gi
open Go.RowKit
noncomputable section
def isAl (o:Oper):Bool:=match o.op with | .alloc _=>o.dst.isSome | .buildSlice _ _ _=>o.dst.isSome | .makeSlice _ _ _=>o.dst.isSome | _=>false
def grAl (r:Rec):Bool:=match r.o.op with | .buildSlice _ _ ps=>ps.toList.all (fun x=>gr (evalT r.T x.2)) | _=>true
def isAlR (r:Rec):Bool:=isAl r.o&&grAl r
def pairF (P:Program)(os:Array Oper)(clo:List Nat)(late:Bool)(r q:Rec):Bool :=
 r.i == q.i ||
 ((match r.o.dst with
   | some t=>(q.o.dst != some t)&&(!(looks os q.o).contains t||cl clo q.i r.i||cl clo r.i q.i)
   | none=>true) &&
  (!r.loud||(!q.loud||!unord clo r.i q.i||isAlR (if late then q else r))&&(q.loud||!memOp q.o.op||!unord clo r.i q.i||!wantedT os q.T q.o||(same (aread P (evalT q.T) r.hb.bl q.o) q.v&&same (aread P (evalT q.T) r.ha.bl q.o) q.v))))
def floatOk (clo:List Nat):List Rec→List Rec→Bool
 | _,[]=>true
 | pre,r::l=>(!(r.loud&&isAlR r)||pre.all fun s=>!s.loud||cl clo r.i s.i||l.all fun q=>!cl clo q.i r.i||cl clo q.i s.i)&&floatOk clo (pre++[r]) l
def fchk (P:Program)(os:Array Oper)(clo:List Nat):List Rec→Bool
 | []=>true
 | r::l=>(l.all fun q=>pairF P os clo true r q&&pairF P os clo false q r)&&fchk P os clo l
structure PlanF (P:Program) (sf:Self) (os:Array Oper) (clo:List Nat) (recs:List Rec) (T0:List Value) (h0:Hp) (T1:List Value) (h1:Hp):Prop where
 tr:Tr P sf os recs T0 h0 T1 h1
 pw:recs.Pairwise (fun a b=>a.i≠b.i∧cl clo a.i b.i=false)
 pre:∀(pre:List Rec) (q:Rec) (post:List Rec),recs=pre++q::post→∀k,cl clo q.i k=true→∃r∈pre,r.i=k
 all:∀i,i<os.size→∃r∈recs,r.i=i
 clos:∀i,i<os.size→∀k,cl clo i k=true↔∃d∈((os[i]?).map depsOf).getD [],d=k∨cl clo d k=true
 lt:∀r∈recs,r.i<os.size
 pair:recs.Pairwise fun r q=>pairF P os clo true r q=true∧pairF P os clo false q r=true
 flo:∀(pre:List Rec) (r:Rec) (post:List Rec),recs=pre++r::post→r.loud=true→isAlR r=true→∀s∈pre,s.loud=true→∀q∈post,cl clo q.i r.i=true→cl clo q.i s.i=true
theorem fchk_spec {P:Program}{os:Array Oper}{clo:List Nat}:∀{l:List Rec},fchk P os clo l=true→l.Pairwise fun r q=>pairF P os clo true r q=true∧pairF P os clo false q r=true
 | [],_=>.nil
 | r::l,h=>by
  simp only[fchk,Bool.and_eq_true,List.all_eq_true]at h
  exact .cons (fun q hq=>h.1 q hq) (fchk_spec h.2)
theorem floatOk_spec {clo:List Nat}:∀{l pre:List Rec},floatOk clo pre l=true→∀(p:List Rec) (r:Rec) (post:List Rec),l=p++r::post→r.loud=true→isAlR r=true→∀s∈pre++p,s.loud=true →
  cl clo r.i s.i=true∨∀q∈post,cl clo q.i r.i=true→cl clo q.i s.i=true
 | [],_,_,p,r,post,e,_,_,_,_,_=>by simp at e
 | x::l,pre,h,p,r,post,e,hl,ha,s,hs,hsl=>by
  simp only[floatOk,Bool.and_eq_true]at h
  cases p with
  | nil =>
   simp only[List.nil_append,List.cons.injEq]at e;obtain ⟨rfl,rfl⟩:=e;rw[List.append_nil]at hs;have h1:=h.1;rw[hl,ha]at h1;simp only[Bool.and_self,Bool.not_true,Bool.false_or,List.all_eq_true]at h1;have:=h1 s hs;rw[hsl]at this;simp only[Bool.not_true,Bool.false_or,Bool.or_eq_true,List.all_eq_true,Bool.not_eq_true']at this
   rcases this with h2 | h2
   ·exact .inl h2
   ·refine .inr fun q hq hc=>?_
    rcases h2 q hq with h3 | h3
    ·rw[hc]at h3;cases h3
    ·exact h3
  | cons y p =>
   simp only[List.cons_append,List.cons.injEq]at e;obtain ⟨rfl,rfl⟩:=e
   exact floatOk_spec h.2 p r post rfl hl ha s (by simpa [List.append_assoc] using hs) hsl
theorem clo_trans {os:Array Oper}{clo:List Nat}(hc:∀i,i<os.size→∀k,cl clo i k=true↔∃d∈((os[i]?).map depsOf).getD [],d=k∨cl clo d k=true) {recs:List Rec}
  (hp:∀(pre:List Rec) (q:Rec) (post:List Rec),recs=pre++q::post→∀k,cl clo q.i k=true→∃r∈pre,r.i=k) (hlt:∀r∈recs,r.i<os.size) :
  ∀(n:Nat) (pre:List Rec) (q:Rec) (post:List Rec),pre.length≤n→recs=pre++q::post→∀j k,cl clo q.i j=true→cl clo j k=true→cl clo q.i k=true:=by
 intro n
 induction n with
 | zero =>
  intro pre q post hn e j k h1 _;obtain ⟨r,hr,_⟩:=hp pre q post e j h1;rw[List.length_eq_zero_iff.1 (Nat.le_zero.1 hn)]at hr;cases hr
 | succ n ih =>
  intro pre q post hn e j k h1 h2
  have hq:=hlt q (by rw[e];simp)
  obtain ⟨d,hd,h3⟩:=(hc q.i hq j).1 h1
  refine (hc q.i hq k).2 ⟨d,hd,.inr ?_⟩
  rcases h3 with rfl | h3
  ·exact h2
  ·obtain ⟨r,hr,rfl⟩:=hp pre q post e d ((hc q.i hq d).2 ⟨d,hd,.inl rfl⟩)
   obtain ⟨p1,p2,rfl⟩:=List.append_of_mem hr
   refine ih p1 r (p2++q::post) ?_ (by rw[e];simp) j k h3 h2
   simp only[List.length_append,List.length_cons]at hn
   omega
theorem planF_of {P:Program}{self:Self}{os:Array Oper}{order clo:List Nat}{recs:List Rec}{T0 T1:List Value}{h0 h1:Hp}
  (hp:planOk os order clo=true) (hr:drun P self os order T0 h0=some (recs,T1,h1)) (hc:fchk P os clo recs=true) (hf:floatOk clo [] recs=true):PlanF P self os clo recs T0 h0 T1 h1:=by
 simp only[planOk,Bool.and_eq_true,List.all_eq_true,List.mem_range,beq_iff_eq,decide_eq_true_eq,List.contains_iff_mem]at hp;obtain ⟨⟨⟨p1,p2⟩,p3⟩,p4⟩:=hp;obtain ⟨t1,rfl⟩:=drun_tr _ _ _ _ _ _ hr;obtain ⟨o1,o2,o3⟩:=orderOk_spec p2
 have hpre:∀(pre:List Rec) (q:Rec) (post:List Rec),recs=pre++q::post→∀k,cl clo q.i k=true→∃r∈pre,r.i=k:=by
  intro pre q post e k hk
  rcases o3 (pre.map (·.i)) q.i (post.map (·.i)) (by rw[e];simp) k hk with h | h
  ·simp at h
  ·obtain ⟨r,hr,e⟩:=List.mem_map.1 h
   exact ⟨r,hr,e⟩
 have hclos:∀i,i<os.size→∀k,cl clo i k=true↔∃d∈((os[i]?).map depsOf).getD [],d=k∨cl clo d k=true:=by
  intro i hi k;unfold cl;rw[p3 i hi,cloOf_bit];exact Iff.rfl
 have hlt:∀r∈recs,r.i<os.size:=fun r hr=>p4 r.i (List.mem_map.2 ⟨r,hr,rfl⟩)
 refine ⟨t1,?_,hpre,?_,hclos,hlt,fchk_spec hc,?_⟩
 ·rw[List.pairwise_map]at o2;exact o2
 ·intro i hi
  obtain ⟨r,hr,e⟩:=List.mem_map.1 (p1 i hi);exact ⟨r,hr,e⟩
 ·intro pre r post e hl ha s hs hsl q hq hcq
  rcases floatOk_spec hf pre r post e hl ha s (by simpa using hs) hsl with h | h
  ·obtain ⟨a,b,rfl⟩:=List.append_of_mem hq
   exact clo_trans hclos hpre hlt _ (pre++r::a) q b (Nat.le_refl _) (by rw[e];simp) r.i s.i hcq h
  ·exact h q hq hcq
section
variable {P:Program}{self:Self}{os:Array Oper}{clo:List Nat}{recs:List Rec}{T0 T1:List Value}{h0 h1:Hp}
theorem pw_all {α:Type}{R:α→α→Prop}:∀{l:List α},(∀a∈l,∀b∈l,R a b)→l.Pairwise R
 | [],_=>.nil
 | x::l,h=>.cons (fun b hb=>h x (by simp) b (by simp [hb])) (pw_all fun a ha b hb=>h a (by simp [ha]) b (by simp [hb]))
def Pref (recs:List Rec)(E:Nat→Bool):Prop:=recs.Pairwise fun a b=>a.loud=true→b.loud=true→E b.i=true→E a.i=true
theorem PlanF.good {pre post:List Rec}{q:Rec}(p:PlanF P self os clo recs T0 h0 T1 h1) (e:recs=pre++q::post):Good clo (before pre) q.i:=by
 refine ⟨?_,?_,?_⟩
 ·intro j k hj hk
  obtain ⟨r,hr,rfl⟩:=before_iff.1 hj;obtain ⟨p1,p2,rfl⟩:=List.append_of_mem hr
  obtain ⟨s,hs,rfl⟩:=p.pre p1 r (p2++q::post) (by rw[e];simp) k hk
  exact before_iff.2 ⟨s,by simp [hs],rfl⟩
 ·have:=p.pw
  rw[e,List.pairwise_append]at this
  cases hb:before pre q.i with
  | false=>rfl
  | true =>
   obtain ⟨r,hr,he⟩:=before_iff.1 hb
   exact absurd he (this.2.2 r hr q (by simp)).1
 ·intro k hk
  obtain ⟨s,hs,rfl⟩:=p.pre pre q post e k hk;exact before_iff.2 ⟨s,hs,rfl⟩
theorem PlanF.other {pre post:List Rec}{q:Rec}(p:PlanF P self os clo recs T0 h0 T1 h1) (e:recs=pre++q::post):(∀r∈pre,r.i≠q.i)∧(∀r∈post,q.i≠r.i)∧∀r∈pre,∀s∈post,r.i≠s.i:=by
 have:=p.pw;rw[e,List.pairwise_append,List.pairwise_cons]at this;obtain ⟨_,⟨h2,_⟩,h3⟩:=this
 exact ⟨fun r hr=>(h3 r hr q (by simp)).1,fun r hr=>(h2 r hr).1,fun r hr s hs=>(h3 r hr s (by simp [hs])).1⟩
theorem PlanF.atT {pre post:List Rec}{q:Rec}(p:PlanF P self os clo recs T0 h0 T1 h1) (e:recs=pre++q::post):TD (before pre) recs T0=q.T:=by
 obtain ⟨o1,o2,o3⟩:=p.other e;have ht:=p.tr;rw[e]at ht ⊢
 rw[ht.split.1,TD_append,TD_cons,(p.good e).2.1,TD_congr (D:=before pre) (D':=fun _=>true) T0 fun r hr=>before_iff.2 ⟨r,hr,rfl⟩]
 refine TD_none _ fun r hr=>?_
 cases hb:before pre r.i with
 | false=>rfl
 | true =>
  obtain ⟨s,hs,he⟩:=before_iff.1 hb;exact absurd he (o3 s hs r hr)
theorem PlanF.atH {pre post:List Rec}{q:Rec}(p:PlanF P self os clo recs T0 h0 T1 h1) (e:recs=pre++q::post):HD (before pre) recs h0=q.hb:=by
 obtain ⟨o1,o2,o3⟩:=p.other e;have ht:=p.tr;rw[e]at ht ⊢
 rw[ht.split.2,HD_append,HD_cons,(p.good e).2.1,HD_congr (D:=before pre) (D':=fun _=>true) h0 fun r hr _=>before_iff.2 ⟨r,hr,rfl⟩]
 refine HD_none _ fun r hr _=>?_
 cases hb:before pre r.i with
 | false=>rfl
 | true =>
  obtain ⟨s,hs,he⟩:=before_iff.1 hb;exact absurd he (o3 s hs r hr)
theorem PlanF.two {pre post:List Rec}{q r:Rec}(p:PlanF P self os clo recs T0 h0 T1 h1) (e:recs=pre++q::post) (hr:r∈recs):r=q∨(r∈pre∧pairF P os clo true r q=true)∨(r∈post∧pairF P os clo false r q=true):=by
 have:=p.pair;rw[e,List.pairwise_append,List.pairwise_cons]at this;rw[e]at hr
 rcases List.mem_append.1 hr with hr | hr
 ·exact .inr (.inl ⟨hr,(this.2.2 r hr q (by simp)).1⟩)
 ·rcases List.mem_cons.1 hr with rfl | hr
  ·exact .inl rfl
  ·exact .inr (.inr ⟨hr,(this.2.1.1 r hr).2⟩)
theorem PlanF.two' {pre post:List Rec}{q r:Rec}(p:PlanF P self os clo recs T0 h0 T1 h1) (e:recs=pre++q::post) (hr:r∈recs):r=q∨∃l,pairF P os clo l r q=true:=by
 rcases p.two e hr with h | ⟨_,h⟩ | ⟨_,h⟩
 ·exact .inl h
 ·exact .inr ⟨_,h⟩
 ·exact .inr ⟨_,h⟩
theorem PlanF.look {D:Nat→Bool}{pre post:List Rec}{q:Rec}(p:PlanF P self os clo recs T0 h0 T1 h1) (e:recs=pre++q::post) (hD:Good clo D q.i) {t:Tmp}(ht:t∈q.o.looksAt os):lget (TD D recs T0) t=lget q.T t:=by
 rw[← p.atT e]
 refine TD_get rfl rfl fun r hr hd=>?_
 rcases p.two' e hr with rfl | ⟨l,hp⟩
 ·rw[hD.2.1,(p.good e).2.1]
 simp only[pairF,hd,Bool.or_eq_true,beq_iff_eq,Bool.and_eq_true]at hp
 rcases hp with hp | hp
 ·rw[hp,hD.2.1,(p.good e).2.1]
 ·refine hD.agree (p.good e) ?_
  rcases hp.1.2 with (h | h) | h
  ·rw[show (looks os q.o).contains t=true from by rw[List.contains_iff_mem];exact ht]at h;cases h
  ·exact .inl h
  ·exact .inr h
theorem PlanF.nextT {D D':Nat→Bool}{pre post:List Rec}{q:Rec}(p:PlanF P self os clo recs T0 h0 T1 h1) (e:recs=pre++q::post) (hD:D q.i=false) (h1':D' q.i=true) (h2:∀j,j≠q.i→D' j=D j):TD D' recs T0=put (TD D recs T0) q.o.dst q.v:=by
 obtain ⟨o1,o2,o3⟩:=p.other e
 have hpair:∀r∈post,∀t,q.o.dst=some t→r.o.dst≠some t:=fun r hr t ht hrt=>by
  rcases p.two' e (r:=r) (by rw[e];simp [hr]) with rfl | ⟨l,hp⟩
  ·exact o2 r hr rfl
  ·simp only[pairF,hrt,Bool.or_eq_true,beq_iff_eq,Bool.and_eq_true]at hp
   rcases hp with hp | hp
   ·exact absurd hp.symm (o2 r hr)
   ·have:=hp.1.1
    simp [ht]at this
 rw[e,TD_append,TD_append,TD_cons,TD_cons,hD,h1',TD_congr (D:=D') (D':=D) T0 fun r hr=>h2 _ (o1 r hr),TD_congr (D:=D') (D':=D) _ fun r hr=>h2 _ (Ne.symm (o2 r hr))]
 simp only[if_true,Bool.false_eq_true,if_false];exact TD_put hpair
theorem PlanF.nextQuiet {D D':Nat→Bool}{q:Rec}(p:PlanF P self os clo recs T0 h0 T1 h1) (hq:q∈recs) (hl:q.loud=false) (h2:∀j,j≠q.i→D' j=D j):HD D' recs h0=HD D recs h0:=by
 obtain ⟨pre,post,e⟩:=List.append_of_mem hq;obtain ⟨o1,o2,o3⟩:=p.other e
 refine HD_congr _ fun r hr rl=>h2 _ fun he=>?_
 rw[e]at hr
 rcases List.mem_append.1 hr with hr | hr
 ·exact o1 r hr he
 ·rcases List.mem_cons.1 hr with rfl | hr
  ·rw[hl]at rl;cases rl
  ·exact o2 r hr he.symm
theorem Pref.post {E:Nat→Bool}(hp:Pref recs E) {pre post:List Rec}{q:Rec}(e:recs=pre++q::post) (hq:E q.i=false) (hl:q.loud=true):∀r∈post,r.loud=true→E r.i=false:=by
 intro r hr rl;unfold Pref at hp;rw[e,List.pairwise_append,List.pairwise_cons]at hp
 cases hc:E r.i with
 | false=>rfl
 | true=>rw[hp.2.1.1 r hr hl rl hc]at hq;cases hq
theorem PlanF.atLoud {E:Nat→Bool}{pre post:List Rec}{q:Rec}(p:PlanF P self os clo recs T0 h0 T1 h1) (e:recs=pre++q::post) (hp:Pref recs E) (hq:E q.i=false) (hl:q.loud=true) (hb:∀r∈pre,r.loud=true→E r.i=true):HD E recs h0=q.hb:=by
 obtain ⟨o1,o2,o3⟩:=p.other e;rw[← p.atH e]
 refine HD_congr _ fun r hr rl=>?_
 rw[e]at hr
 rcases List.mem_append.1 hr with hr | hr
 ·rw[hb r hr rl,before_iff.2 ⟨r,hr,rfl⟩]
 ·rcases List.mem_cons.1 hr with rfl | hr
  ·rw[hq,(p.good e).2.1]
  ·rw[hp.post e hq hl r hr rl]
   cases hc:before pre r.i with
   | false=>rfl
   | true =>
    obtain ⟨s,hs,he⟩:=before_iff.1 hc;exact absurd he (o3 s hs r hr)
theorem PlanF.nextLoud {E E':Nat→Bool}{pre post:List Rec}{q:Rec}(p:PlanF P self os clo recs T0 h0 T1 h1) (e:recs=pre++q::post) (hp:Pref recs E) (hq:E q.i=false) (hl:q.loud=true) (h1':E' q.i=true) (h2:∀j,j≠q.i→E' j=E j):HD E' recs h0=q.ha:=by
 obtain ⟨o1,o2,o3⟩:=p.other e
 have hpost:∀r∈post,r.loud=true→E' r.i=false:=fun r hr rl=>by
  rw[h2 _ (Ne.symm (o2 r hr))];exact hp.post e hq hl r hr rl
 rw[e,HD_append,HD_cons,h1',hl];exact HD_none _ hpost
theorem PlanF.read {E:Nat→Bool}{pre post:List Rec}{q:Rec}(p:PlanF P self os clo recs T0 h0 T1 h1) (e:recs=pre++q::post) (hD:Good clo E q.i) (hp:Pref recs E) (hl:q.loud=false) (hw:wantedT os q.T q.o=true) (ha:aread P (evalT q.T) q.hb.bl q.o=some q.v):aread P (evalT q.T) (HD E recs h0).bl q.o=some q.v:=by
 cases hm:memOp q.o.op with
 | false=>rw[aread_heap hm _ q.hb.bl];exact ha
 | true =>
  have hg:=p.good e;obtain ⟨o1,o2,o3⟩:=p.other e
  have hpw:recs.Pairwise (fun a b=>a.loud=true→b.loud=true→(E b.i=true→E a.i=true)∧(before pre b.i=true→before pre a.i=true)):=by
   have h2:recs.Pairwise fun a b=>before pre b.i=true→before pre a.i=true:=by
    rw[e,List.pairwise_append,List.pairwise_cons]
    have nb:∀r,r=q∨r∈post→before pre r.i=false:=fun r hr=>by
     cases hc:before pre r.i with
     | false=>rfl
     | true =>
      obtain ⟨s,hs,he⟩:=before_iff.1 hc
      rcases hr with rfl | hr
      ·exact absurd he (o1 s hs)
      ·exact absurd he (o3 s hs r hr)
    refine ⟨?_,⟨?_,?_⟩,?_⟩
    ·exact pw_all fun a ha b hb _=>before_iff.2 ⟨a,ha,rfl⟩
    ·intro r hr hb;rw[nb r (.inr hr)]at hb;cases hb
    ·exact pw_all fun a ha b hb' hb=>by rw[nb b (.inr hb')]at hb;cases hb
    ·intro a ha b _ _;exact before_iff.2 ⟨a,ha,rfl⟩
   exact (hp.and h2).imp fun ⟨h3,h4⟩ al bl=>⟨h3 al bl,h4⟩
  rcases HD_two (D:=E) (D':=before pre) p.tr hpw with h | ⟨r,hr,rl,hne,hh⟩
  ·rw[h,p.atH e];exact ha
  ·rcases p.two' e hr with rfl | ⟨l,hp⟩
   ·exact absurd (by rw[hD.2.1,hg.2.1]) hne
   simp only[pairF,Bool.or_eq_true,beq_iff_eq,Bool.and_eq_true]at hp
   rcases hp with hp | hp
   ·exact absurd (by rw[hp,hD.2.1,hg.2.1]) hne
   ·have hu:unord clo r.i q.i=true:=by
     cases hu:unord clo r.i q.i with
     | true=>rfl
     | false=>exact absurd (hD.agree hg (not_unord (by rw[hu];rfl)).symm) hne
    have h2:=hp.2;simp only[rl,hl,hm,hu,hw]at h2
    simp at h2
    rcases hh with hh | hh
    ·rw[hh];exact same_eq h2.2
    ·rw[hh];exact same_eq h2.1
end
def IsFl (recs:List Rec)(D E:Nat→Bool)(r:Rec):Prop:=r∈recs∧r.loud=true∧isAlR r=true∧D r.i=true∧E r.i=false
structure Kept (K:Nat→Prop) (w0 w:World):Prop where
 keep:∀k,K k→w.heap[k]?=w0.heap[k]?
 klt:∀k,K k→k<w0.heap.size
 size:w0.heap.size≤w.heap.size
 os:w.os=w0.os
 tape:w.tape=w0.tape
 output:w.output=w0.output
structure FS (P:Program) (clo:List Nat) (recs:List Rec) (T0:List Value) (h0:Hp) (K:Nat→Prop) (w0:World) (D E:Nat→Bool) (Bf:Nat→Nat) (φ:Phi) (T:List Value) (a:Act) (w:World):Prop where
 sub:∀i,E i=true→D i=true
 rest:∀r∈recs,D r.i=true→E r.i=false→r.loud=true∧isAlR r=true
 pref:Pref recs E
 shut:Shut clo D
 len:T.length=T0.length
 keepT:∀t,(∀r,IsFl recs D E r→r.o.dst≠some t)→lget T t=lget (TD E recs T0) t
 frame:VRs φ T.toArray a.tmps
 inv:Inv (fun k=>K k∨∃r,IsFl recs D E r∧Bf r.i=k) w φ (HD E recs h0).bl w
 kept:Kept K w0 w
 fl:∀r,IsFl recs D E r→¬K (Bf r.i)∧∃(C:Array Value) (el:TypeId) (t:Tmp),r.o.dst=some t∧w.heap[Bf r.i]?=some (.cells C el (0,0))∧∃v':Value,a.tmps[t]?=some v' ∧
  ∃c:Array Value,(∀ψ:Phi,ψ r.hb.bl.length=some (Bf r.i,0,c.size)→VR ψ r.v v')∧r.ha.bl=r.hb.bl++[.cells c false]∧∀ψ:Phi,VRs ψ c C
 inj:∀r s,IsFl recs D E r→IsFl recs D E s→Bf r.i=Bf s.i→r.i=s.i
 ro:∀r,IsFl recs D E r→∀(b:Nat) (ob:Ob) (x:Nat×Nat×Nat),(HD E recs h0).bl[b]?=some ob→ob.live=true→ob.rw=false→φ b=some x→x.1≠Bf r.i
theorem Inv.weaken {K K':Nat→Prop}{w w1:World} {φ:Phi}{H:List Ob}(h:Inv K' w1 φ H w) (hK:∀k,K k→K' k):Inv K w1 φ H w :=
 ⟨h.obs,h.sep,fun b ob x hb hr hx hk=>h.prot b ob x hb hr hx (hK _ hk),fun k hk=>h.keep k (hK k hk),fun k hk=>h.klt k (hK k hk),h.size,h.os,h.tape,h.output,h.top,h.frz,h.zsep,fun k hk=>h.zk k (hK k hk)⟩
theorem Inv.rebase {K:Nat→Prop}{w w1:World} {φ:Phi}{H:List Ob}(h:Inv K w1 φ H w):Inv K w φ H w :=
 ⟨h.obs,h.sep,h.prot,fun _ _=>rfl,fun k hk=>Nat.lt_of_lt_of_le (h.klt k hk) h.size,Nat.le_refl _,rfl,rfl,rfl,h.top,h.frz,h.zsep,h.zk⟩
theorem vrs_lset {φ:Phi}{T:List Value}{tm:Array Value}{t:Nat} {v v':Value}(h:VRs φ T.toArray tm) (ht:tm[t]?=some v') (hv:VR φ v v'):VRs φ (lset T t v).toArray tm:=by
 have:=h.set hv t;rw[lset_eq]
 have e:tm.setIfInBounds t v'=tm:=by
  apply Array.ext_getElem?
  intro i
  rw[Array.getElem?_setIfInBounds]
  split
  ·rename_i hi
   subst hi
   split
   ·exact ht.symm
   ·rename_i hge;rw[Array.getElem?_eq_none (by omega)]at ht;cases ht
  ·rfl
 rw[e]at this;exact this
section
variable {P:Program}{self:Self}{os:Array Oper}{clo:List Nat}{recs:List Rec}{T0 T1:List Value}{h0 h1:Hp}{K:Nat→Prop}{w0 w:World}{D E:Nat→Bool}{Bf:Nat→Nat} {φ:Phi}{T:List Value}{a:Act}
def add (E:Nat→Bool)(i:Nat):Nat→Bool:=fun j=>E j||j == i
theorem add_same (E:Nat→Bool)(i:Nat):add E i i=true:=by simp [add]
theorem add_ne (E:Nat→Bool) {i j:Nat}(h:j≠i):add E i j=E j:=by simp [add,h]
theorem mem_i {pre post:List Rec}{r x:Rec}(p:PlanF P self os clo recs T0 h0 T1 h1) (e:recs=pre++r::post) (hx:x∈recs) (hi:x.i=r.i):x=r:=by
 obtain ⟨o1,o2,_⟩:=p.other e;rw[e]at hx
 rcases List.mem_append.1 hx with hx | hx
 ·exact absurd hi (o1 x hx)
 ·rcases List.mem_cons.1 hx with h | hx
  ·exact h
  ·exact absurd hi.symm (o2 x hx)
theorem Pref.add {pre post:List Rec}{q:Rec}(hp:Pref recs E) (p:PlanF P self os clo recs T0 h0 T1 h1) (e:recs=pre++q::post) (hq:E q.i=false) (hb:q.loud=true→∀r∈pre,r.loud=true→E r.i=true):Pref recs (add E q.i):=by
 obtain ⟨o1,o2,o3⟩:=p.other e;unfold Pref at hp ⊢;rw[e,List.pairwise_append,List.pairwise_cons]at hp ⊢;obtain ⟨h1,⟨h2,h3⟩,h4⟩:=hp
 refine ⟨?_,⟨?_,?_⟩,?_⟩
 ·refine List.Pairwise.imp_of_mem ?_ h1
  intro x y hx hy h xl yl hy';rw[add_ne E (o1 y hy)]at hy';rw[add_ne E (o1 x hx)];exact h xl yl hy'
 ·intro r hr ql rl _
  exact add_same E q.i
 ·refine List.Pairwise.imp_of_mem ?_ h3
  intro x y hx hy h xl yl hy';rw[add_ne E (Ne.symm (o2 y hy))]at hy';rw[add_ne E (Ne.symm (o2 x hx))];exact h xl yl hy'
 ·intro x hx y hy xl yl hy'
  rw[add_ne E (o1 x hx)]
  rcases List.mem_cons.1 hy with rfl | hy
  ·exact hb yl x hx xl
  ·rw[add_ne E (Ne.symm (o2 y hy))]at hy'
   exact h4 x hx y (by simp [hy]) xl yl hy'
theorem FS.land (p:PlanF P self os clo recs T0 h0 T1 h1)(s:FS P clo recs T0 h0 K w0 D E Bf φ T a w) {pre post:List Rec}{r:Rec}(e:recs=pre++r::post) (hr:IsFl recs D E r) (hb:∀x∈pre,x.loud=true→E x.i=true) :
  ∃φ' T',le φ φ'∧FS P clo recs T0 h0 K w0 D (add E r.i) Bf φ' T' a w:=by
 obtain ⟨hm,hl,hal,hD,hE⟩:=hr;have hr:IsFl recs D E r:=⟨hm,hl,hal,hD,hE⟩;obtain ⟨hnK,C,el,t,hdst,hC,v',htm,c,hv,hha,hc⟩:=s.fl r hr;have hH:=p.atLoud e s.pref hE hl hb
 have hH':=p.nextLoud (E':=add E r.i) e s.pref hE hl (add_same E r.i) (fun j hj=>add_ne E hj)
 have hI:=s.inv;rw[hH]at hI
 have hl2:=Inv.land hI (B:=Bf r.i) (.inr ⟨r,hr,rfl⟩) hC (hc φ) (fun b ob x hb hlv hrw hx=>s.ro r hr b ob x (by rw[hH];exact hb) hlv hrw hx)
 have hle:le φ (up φ r.hb.bl.length (Bf r.i,0,c.size)):=le_up (hI.top _ (Nat.le_refl _))
 have hfl:∀x,IsFl recs D (add E r.i) x→IsFl recs D E x∧x.i≠r.i:=by
  rintro x ⟨x1,x2,x3,x4,x5⟩
  have hne:x.i≠r.i:=fun h=>by rw[h,add_same]at x5;cases x5
  rw[add_ne E hne]at x5;exact ⟨⟨x1,x2,x3,x4,x5⟩,hne⟩
 have nT:=p.nextT (D:=E) (D':=add E r.i) e hE (add_same E r.i) (fun j hj=>add_ne E hj)
 refine ⟨up φ r.hb.bl.length (Bf r.i,0,c.size),lset T t r.v,hle,?_,?_,s.pref.add p e hE (fun _=>hb),s.shut,?_,?_,?_,?_,s.kept,?_,?_,?_⟩
 ·intro i hi
  by_cases h:i=r.i
  ·subst h;exact hD
  ·rw[add_ne E h]at hi;exact s.sub i hi
 ·intro x hx hxD hxE
  have hne:x.i≠r.i:=fun h=>by rw[h,add_same]at hxE;cases hxE
  rw[add_ne E hne]at hxE;exact s.rest x hx hxD hxE
 ·rw[lset_length];exact s.len
 ·intro u hu
  rw[nT,hdst]
  show _=lget (lset (TD E recs T0) t r.v) u
  by_cases hut:t=u
  ·subst hut;exact lget_lset_congr (by rw[s.len,TD_length])
  ·rw[lget_lset_ne hut,lget_lset_ne hut]
   refine s.keepT u fun x hx=>?_
   by_cases hxr:x.i=r.i
   ·rw[mem_i p e hx.1 hxr,hdst];intro h;cases h;exact hut rfl
   ·exact hu x ⟨hx.1,hx.2.1,hx.2.2.1,hx.2.2.2.1,by rw[add_ne E hxr];exact hx.2.2.2.2⟩
 ·refine vrs_lset (fun i=>(s.frame i).mono fun _ _ h=>h.mono hle) htm ?_
  exact hv _ (up_same _ _ _)
 ·rw[hH',hha]
  refine hl2.weaken ?_
  rintro k (hk | ⟨x,hx,hk⟩)
  ·exact ⟨.inl hk,fun h=>hnK (h ▸ hk)⟩
  ·obtain ⟨hx',hne⟩:=hfl x hx
   refine ⟨.inr ⟨x,hx',hk⟩,fun h=>hne (s.inj x r hx' hr (hk.trans h))⟩
 ·intro x hx
  exact s.fl x (hfl x hx).1
 ·intro x y hx hy h
  exact s.inj x y (hfl x hx).1 (hfl y hy).1 h
 ·intro x hx b ob y hob hlv hrw hy
  obtain ⟨hx',hne⟩:=hfl x hx;rw[hH',hha]at hob
  rcases Nat.lt_or_ge b r.hb.bl.length with hlt | hge
  ·rw[List.getElem?_append_left hlt]at hob
   rw[up_other φ _ (by omega)]at hy
   exact s.ro x hx' b ob y (by rw[hH];exact hob) hlv hrw hy
  ·rw[List.getElem?_append_right hge]at hob
   rcases Nat.eq_or_lt_of_le hge with e2 | hlt
   ·rw[← e2]at hob;simp at hob;subst hob;cases hrw
   ·rw[List.getElem?_eq_none (by simp;omega)]at hob;cases hob
def Landed (recs:List Rec)(D E:Nat→Bool):Prop :=
 (∀x∈recs,x.loud=true→E x.i=true)∨∃pre s post,recs=pre++s::post∧s.loud=true∧D s.i=false∧∀x∈pre,x.loud=true→E x.i=true
theorem FS.landAll (p:PlanF P self os clo recs T0 h0 T1 h1):∀(post pre:List Rec) (E:Nat→Bool) (φ:Phi) (T:List Value),recs=pre++post→FS P clo recs T0 h0 K w0 D E Bf φ T a w→(∀x∈pre,x.loud=true→E x.i=true) →
  ∃E' φ' T',le φ φ'∧FS P clo recs T0 h0 K w0 D E' Bf φ' T' a w∧Landed recs D E'
 | [],pre,E,φ,T,e,s,hb=>⟨E,φ,T,le_refl φ,s,.inl fun x hx hl=>hb x (by rw[e]at hx;simpa using hx) hl⟩
 | r::post,pre,E,φ,T,e,s,hb=>by
  have e':recs=(pre++[r])++post:=by rw[e];simp
  have hm:r∈recs:=by rw[e];simp
  cases hl:r.loud with
  | false =>
   refine FS.landAll p post (pre++[r]) E φ T e' s ?_
   intro x hx xl
   rcases List.mem_append.1 hx with hx | hx
   ·exact hb x hx xl
   ·simp only[List.mem_cons,List.not_mem_nil,or_false]at hx;subst hx;rw[hl]at xl;cases xl
  | true =>
   cases hD:D r.i with
   | false=>exact ⟨E,φ,T,le_refl φ,s,.inr ⟨pre,r,post,e,hl,hD,hb⟩⟩
   | true =>
    cases hE:E r.i with
    | true =>
     refine FS.landAll p post (pre++[r]) E φ T e' s ?_
     intro x hx xl
     rcases List.mem_append.1 hx with hx | hx
     ·exact hb x hx xl
     ·simp only[List.mem_cons,List.not_mem_nil,or_false]at hx;subst hx;exact hE
    | false =>
     obtain ⟨φ1,T1',hle,s1⟩:=s.land p e ⟨hm,hl,(s.rest r hm hD hE).2,hD,hE⟩ hb
     obtain ⟨E2,φ2,T2,hle2,s2,hL⟩:=FS.landAll p post (pre++[r]) (add E r.i) φ1 T1' e' s1 (by
      intro x hx xl
      rcases List.mem_append.1 hx with hx | hx
      ·show (E x.i||_)=true;rw[hb x hx xl];rfl
      ·simp only[List.mem_cons,List.not_mem_nil,or_false]at hx;subst hx;exact add_same E _)
     exact ⟨E2,φ2,T2,le_trans hle hle2,s2,hL⟩
end
section
variable {P:Program}{self:Self}{os:Array Oper}{clo:List Nat}{recs:List Rec}{T0 T1:List Value}{h0 h1:Hp}{K:Nat→Prop}{w0 w:World}{D E:Nat→Bool}{Bf:Nat→Nat} {φ:Phi}{T:List Value}{a:Act}
theorem FS.noWait (p:PlanF P self os clo recs T0 h0 T1 h1)(hL:Landed recs D E) {q r:Rec}(hq:q∈recs) (hqD:∀k,cl clo q.i k=true→D k=true) (hr:IsFl recs D E r):cl clo q.i r.i=false:=by
 cases hc:cl clo q.i r.i with
 | false=>rfl
 | true =>
  exfalso
  rcases hL with hL | ⟨pre,s,post,e,sl,sD,hpre⟩
  ·have:=hL r hr.1 hr.2.1
   rw[hr.2.2.2.2]at this;cases this
  ·have hrp:r∈post:=by
    have:=hr.1;rw[e]at this
    rcases List.mem_append.1 this with h | h
    ·have:=hpre r h hr.2.1;rw[hr.2.2.2.2]at this;cases this
    ·rcases List.mem_cons.1 h with h | h
     ·subst h;have:=hr.2.2.2.1;rw[sD]at this;cases this
     ·exact h
   obtain ⟨b,c,rfl⟩:=List.append_of_mem hrp
   have e2:recs=(pre++s::b)++r::c:=by rw[e];simp
   have hqc:q∈c:=by
    have hq':=hq;rw[e2]at hq';have hpw:=p.pw;rw[e2,List.pairwise_append,List.pairwise_cons]at hpw
    rcases List.mem_append.1 hq' with h | h
    ·have:=(hpw.2.2 q h r (by simp)).2;rw[this]at hc;cases hc
    ·rcases List.mem_cons.1 h with h | h
     ·subst h
      obtain ⟨x,hx,hxi⟩:=p.pre _ q c e2 q.i hc
      exact absurd hxi (hpw.2.2 x hx q (by simp)).1
     ·exact h
   have:=p.flo _ r c e2 hr.2.1 hr.2.2.1 s (by simp) sl q hqc hc
   have:=hqD s.i this;rw[sD]at this;cases this
theorem FS.goodE (p:PlanF P self os clo recs T0 h0 T1 h1)(s:FS P clo recs T0 h0 K w0 D E Bf φ T a w)(hL:Landed recs D E)(hlt:∀i,D i=true→i<os.size) {q:Rec}(hq:q∈recs) (hg:Good clo D q.i):Good clo E q.i:=by
 have key:∀{x:Rec},x∈recs→(∀k,cl clo x.i k=true→D k=true)→∀k,cl clo x.i k=true→E k=true:=by
  intro x hx hxD k hk;have hkD:=hxD k hk;obtain ⟨r,hr,rfl⟩:=p.all k (hlt k hkD)
  cases hE:E r.i with
  | true=>rfl
  | false =>
   obtain ⟨h1,h2⟩:=s.rest r hr hkD hE;have:=FS.noWait p hL hx hxD ⟨hr,h1,h2,hkD,hE⟩;rw[hk]at this;cases this
 refine ⟨?_,?_,key hq hg.2.2⟩
 ·intro j k hj hk
  have hjD:=s.sub j hj;obtain ⟨x,hx,rfl⟩:=p.all j (hlt j hjD)
  exact key hx (fun k hk=>s.shut x.i k hjD hk) k hk
 ·cases hE:E q.i with
  | false=>rfl
  | true=>have:=s.sub _ hE;rw[hg.2.1]at this;cases this
theorem FS.slot (p:PlanF P self os clo recs T0 h0 T1 h1)(s:FS P clo recs T0 h0 K w0 D E Bf φ T a w)(hL:Landed recs D E) {pre post:List Rec}{q:Rec}(e:recs=pre++q::post) (hg:Good clo D q.i) (hE:Good clo E q.i) {t:Tmp}(ht:t∈q.o.looksAt os):lget T t=lget q.T t:=by
 rw[s.keepT t ?_]
 ·exact p.look e hE ht
 ·intro r hr hd
  rcases p.two' e hr.1 with rfl | ⟨l,hp⟩
  ·have:=hr.2.2.2.1;rw[hg.2.1]at this;cases this
  ·simp only[pairF,hd,Bool.or_eq_true,beq_iff_eq,Bool.and_eq_true]at hp
   rcases hp with hp | hp
   ·have:=hr.2.2.2.1;rw[hp,hg.2.1]at this;cases this
   ·rcases hp.1.2 with (h | h) | h
    ·rw[show (looks os q.o).contains t=true from by rw[List.contains_iff_mem];exact ht]at h;cases h
    ·have:=FS.noWait p hL (by rw[e];simp) hg.2.2 hr
     rw[h]at this;cases this
    ·have:=s.shut r.i q.i hr.2.2.2.1 h
     rw[hg.2.1]at this;cases this
theorem FS.ev (p:PlanF P self os clo recs T0 h0 T1 h1)(s:FS P clo recs T0 h0 K w0 D E Bf φ T a w)(hL:Landed recs D E) {pre post:List Rec}{q:Rec}(e:recs=pre++q::post) (hg:Good clo D q.i) (hE:Good clo E q.i):∀x∈q.o.op.operands,evalT T x=evalT q.T x:=by
 intro x hx
 cases x with
 | tmp t=>exact s.slot p hL e hg hE (List.mem_append_left _ (List.mem_filterMap.2 ⟨.tmp t,by simpa using hx,rfl⟩))
 | const v=>rfl
 | global g=>rfl
 | func f=>rfl
theorem FS.wants (p:PlanF P self os clo recs T0 h0 T1 h1)(s:FS P clo recs T0 h0 K w0 D E Bf φ T a w)(hL:Landed recs D E) {pre post:List Rec}{q:Rec}(e:recs=pre++q::post) (hg:Good clo D q.i) (hE:Good clo E q.i):wantedT os T q.o=wantedT os q.T q.o:=by
 unfold wantedT
 cases hgd:q.o.guard with
 | none=>rfl
 | some g =>
  obtain ⟨j,want⟩:=g;simp only
  cases hd:(os[j]?).bind (·.dst) with
  | none=>rfl
  | some d =>
   simp only
   rw[s.slot p hL e hg hE (t:=d) (List.mem_append_right _ (by simp [hgd,hd]))]
theorem FS.dst (p:PlanF P self os clo recs T0 h0 T1 h1) {pre post:List Rec}{q:Rec}(e:recs=pre++q::post) (hg:Good clo D q.i) {r:Rec}(hr:IsFl recs D E r) {t:Tmp}(hd:r.o.dst=some t):q.o.dst≠some t:=by
 intro h
 rcases p.two' e hr.1 with rfl | ⟨l,hp⟩
 ·have:=hr.2.2.2.1;rw[hg.2.1]at this;cases this
 ·simp only[pairF,hd,Bool.or_eq_true,beq_iff_eq,Bool.and_eq_true]at hp
  rcases hp with hp | hp
  ·have:=hr.2.2.2.1;rw[hp,hg.2.1]at this;cases this
  ·have:=hp.1.1;rw[h]at this;simp at this
theorem FS.next (p:PlanF P self os clo recs T0 h0 T1 h1)(s:FS P clo recs T0 h0 K w0 D E Bf φ T a w) {pre post:List Rec}{q:Rec}(e:recs=pre++q::post) (hg:Good clo D q.i) (hE:Good clo E q.i)
  (hb:q.loud=true→∀r∈pre,r.loud=true→E r.i=true) {D':Nat→Bool} (hD1:D' q.i=true) (hD2:∀j,j≠q.i→D' j=D j) (hsh:Shut clo D') {φ':Phi} {v':Value} {w':World} (hle:le φ φ') (hv:VR φ' q.v v')
  (hI:Inv (fun k=>K k∨∃r,IsFl recs D E r∧Bf r.i=k) w φ' (HD (add E q.i) recs h0).bl w') (hro:∀(b:Nat) (ob:Ob),(HD (add E q.i) recs h0).bl[b]?=some ob→ob.live=true→ob.rw=false→(HD E recs h0).bl[b]?=some ob) :
  FS P clo recs T0 h0 K w0 D' (add E q.i) Bf φ' (put T q.o.dst q.v) (a.put q.o.dst v') w':=by
 have hfl:∀x,IsFl recs D' (add E q.i) x→IsFl recs D E x∧x.i≠q.i:=by
  rintro x ⟨x1,x2,x3,x4,x5⟩
  have hne:x.i≠q.i:=fun h=>by rw[h,add_same]at x5;cases x5
  rw[add_ne E hne]at x5;rw[hD2 _ hne]at x4;exact ⟨⟨x1,x2,x3,x4,x5⟩,hne⟩
 have hfl':∀x,IsFl recs D E x→IsFl recs D' (add E q.i) x:=by
  rintro x ⟨x1,x2,x3,x4,x5⟩
  have hne:x.i≠q.i:=fun h=>by rw[h,hg.2.1]at x4;cases x4
  exact ⟨x1,x2,x3,by rw[hD2 _ hne];exact x4,by rw[add_ne E hne];exact x5⟩
 have nT:=p.nextT (D:=E) (D':=add E q.i) e hE.2.1 (add_same E q.i) (fun j hj=>add_ne E hj)
 have hkp:∀k,(K k∨∃r,IsFl recs D E r∧Bf r.i=k)→w'.heap[k]?=w.heap[k]?:=fun k hk=>hI.keep k hk
 refine ⟨?_,?_,s.pref.add p e hE.2.1 hb,hsh,?_,?_,vrs_put (fun i=>(s.frame i).mono fun _ _ h=>h.mono hle) hv _,?_,?_,?_,?_,?_⟩
 ·intro i hi
  by_cases h:i=q.i
  ·subst h;exact hD1
  ·rw[add_ne E h]at hi;rw[hD2 _ h];exact s.sub i hi
 ·intro x hx hxD hxE
  have hne:x.i≠q.i:=fun h=>by rw[h,add_same]at hxE;cases hxE
  rw[add_ne E hne]at hxE;rw[hD2 _ hne]at hxD;exact s.rest x hx hxD hxE
 ·rw[put_length];exact s.len
 ·intro u hu
  rw[nT]
  have hk:=s.keepT u fun x hx=>hu x (hfl' x hx)
  cases hd:q.o.dst with
  | none=>exact hk
  | some t =>
   show lget (lset T t q.v) u=lget (lset (TD E recs T0) t q.v) u
   by_cases hut:t=u
   ·subst hut;exact lget_lset_congr (by rw[s.len,TD_length])
   ·rw[lget_lset_ne hut,lget_lset_ne hut];exact hk
 ·refine hI.rebase.weaken ?_
  rintro k (hk | ⟨x,hx,hk⟩)
  ·exact .inl hk
  ·exact .inr ⟨x,(hfl x hx).1,hk⟩
 ·refine ⟨fun k hk=>(hkp k (.inl hk)).trans (s.kept.keep k hk),s.kept.klt,Nat.le_trans s.kept.size hI.size,hI.os.trans s.kept.os,hI.tape.trans s.kept.tape,hI.output.trans s.kept.output⟩
 ·intro x hx
  obtain ⟨hx',hne⟩:=hfl x hx;obtain ⟨k1,C,el,t,k2,k3,v9,k4,k5⟩:=s.fl x hx'
  refine ⟨k1,C,el,t,k2,(hkp _ (.inr ⟨x,hx',rfl⟩)).trans k3,v9,?_,k5⟩
  have hdn:=FS.dst p e hg hx' k2
  cases hd:q.o.dst with
  | none=>exact k4
  | some u =>
   show (a.tmps.setIfInBounds u v')[t]?=_
   rw[Array.getElem?_setIfInBounds_ne (by rw[hd]at hdn;intro h;exact hdn (by rw[h]))]
   exact k4
 ·intro x y hx hy h
  exact s.inj x y (hfl x hx).1 (hfl y hy).1 h
 ·intro x hx b ob y hob hlv hrw hy
  obtain ⟨hx',_⟩:=hfl x hx;have h1:=hro b ob hob hlv hrw;obtain ⟨B,bs,tot,h2,_⟩:=s.inv.obs b ob h1 hlv;have h3:=hle b _ h2;rw[hy]at h3
  cases h3
  exact s.ro x hx' b ob _ h1 hlv hrw h2
theorem FS.float (p:PlanF P self os clo recs T0 h0 T1 h1)(s:FS P clo recs T0 h0 K w0 D E Bf φ T a w) {pre post:List Rec}{q:Rec}(e:recs=pre++q::post) (hg:Good clo D q.i) (hql:q.loud=true) (hqa:isAlR q=true)
  {D':Nat→Bool} (hD1:D' q.i=true) (hD2:∀j,j≠q.i→D' j=D j) (hsh:Shut clo D') {C:Array Value} {el:TypeId} {t:Tmp} (hdst:q.o.dst=some t) (hlt:t<T.length)
  {c:Array Value} {mk:Nat→Value} (hmk:∀B,notB (mk B)=true) (hv:∀(ψ:Phi) (B:Nat),ψ q.hb.bl.length=some (B,0,c.size)→VR ψ q.v (mk B)) (hha:q.ha.bl=q.hb.bl++[.cells c false]) (hc:∀ψ:Phi,VRs ψ c C) :
  FS P clo recs T0 h0 K w0 D' E (fun i=>if i=q.i then w.heap.size else Bf i) φ (put T q.o.dst undef) (a.put q.o.dst (mk w.heap.size)) (w.alloc (.cells C el (0,0))):=by
 have hm:q∈recs:=by rw[e];simp
 have hqE:E q.i=false:=by
  cases h:E q.i with
  | false=>rfl
  | true=>have:=s.sub _ h;rw[hg.2.1]at this;cases this
 have hnew:∀x,IsFl recs D' E x→x=q∨(IsFl recs D E x∧x.i≠q.i):=by
  rintro x ⟨x1,x2,x3,x4,x5⟩
  by_cases h:x.i=q.i
  ·exact .inl (mem_i p e x1 h)
  ·rw[hD2 _ h]at x4;exact .inr ⟨⟨x1,x2,x3,x4,x5⟩,h⟩
 have hold:∀x,IsFl recs D E x→IsFl recs D' E x∧x.i≠q.i:=by
  rintro x ⟨x1,x2,x3,x4,x5⟩
  have hne:x.i≠q.i:=fun h=>by rw[h,hg.2.1]at x4;cases x4
  exact ⟨⟨x1,x2,x3,by rw[hD2 _ hne];exact x4,x5⟩,hne⟩
 have hqf:IsFl recs D' E q:=⟨hm,hql,hqa,hD1,hqE⟩
 have hwsz:∀k,(K k∨∃r,IsFl recs D E r∧Bf r.i=k)→k<w.heap.size:=fun k hk=>s.inv.klt k hk
 have hwk:∀k,k<w.heap.size→(w.alloc (.cells C el (0,0))).heap[k]?=w.heap[k]?:=fun k hk=>Below.heap_alloc w _ k hk
 have hsz:(w.alloc (.cells C el (0,0))).heap.size=w.heap.size+1:=by simp
 refine ⟨?_,?_,s.pref,hsh,by rw[put_length];exact s.len,?_,vrs_put s.frame (.top _ (hmk _)) _,?_,?_,?_,?_,?_⟩
 ·intro i hi
  by_cases h:i=q.i
  ·subst h;exact hD1
  ·rw[hD2 _ h];exact s.sub i hi
 ·intro x hx hxD hxE
  by_cases h:x.i=q.i
  ·rw[mem_i p e hx h];exact ⟨hql,hqa⟩
  ·rw[hD2 _ h]at hxD;exact s.rest x hx hxD hxE
 ·intro u hu
  have hut:t≠u:=fun h=>hu q hqf (by rw[hdst,h])
  rw[hdst]
  show lget (lset T t undef) u=_
  rw[lget_lset_ne hut]
  exact s.keepT u fun x hx=>hu x (hold x hx).1
 ·refine (s.inv.float _).weaken ?_
  rintro k (hk | ⟨x,hx,hk⟩)
  ·exact .inl (.inl hk)
  ·rcases hnew x hx with rfl | ⟨hx',hne⟩
   ·exact .inr (by rw[← hk,if_pos rfl])
   ·exact .inl (.inr ⟨x,hx',by rw[if_neg hne]at hk;exact hk⟩)
 ·refine ⟨fun k hk=>(hwk k (hwsz k (.inl hk))).trans (s.kept.keep k hk),s.kept.klt,by have:=s.kept.size;omega,s.kept.os,s.kept.tape,s.kept.output⟩
 ·intro x hx
  rcases hnew x hx with rfl | ⟨hx',hne⟩
  ·refine ⟨fun hk=>?_,C,el,t,hdst,?_,mk w.heap.size,?_,c,fun ψ hψ=>hv ψ _ (by simpa using hψ),hha,hc⟩
   ·simp only[if_true]at hk;have:=hwsz _ (.inl hk);omega
   ·simp only[if_true];exact World.alloc_heap_new w _
   ·rw[hdst]
    show (a.tmps.setIfInBounds t _)[t]?=_
    rw[Array.getElem?_setIfInBounds_self_of_lt]
    have h9:a.tmps.size=T.length:=by simpa using s.frame.size.symm
    rw[h9];exact hlt
  ·obtain ⟨k1,C',el',t',k2,k3,v9,k4,k5⟩:=s.fl x hx'
   simp only[if_neg hne]
   refine ⟨k1,C',el',t',k2,(hwk _ (hwsz _ (.inr ⟨x,hx',rfl⟩))).trans k3,v9,?_,k5⟩
   have hdn:=FS.dst p e hg hx' k2;rw[hdst]at hdn ⊢
   show (a.tmps.setIfInBounds t _)[t']?=_
   rw[Array.getElem?_setIfInBounds_ne (fun h=>hdn (by rw[h]))]
   exact k4
 ·intro x y hx hy h
  rcases hnew x hx with rfl | ⟨hx',hnx⟩<;>rcases hnew y hy with rfl | ⟨hy',hny⟩
  ·rfl
  ·simp only[if_true,if_neg hny]at h
   have:=hwsz _ (.inr ⟨y,hy',rfl⟩);omega
  ·simp only[if_true,if_neg hnx]at h
   have:=hwsz _ (.inr ⟨x,hx',rfl⟩);omega
  ·simp only[if_neg hnx,if_neg hny]at h
   exact s.inj x y hx' hy' h
 ·intro x hx b ob y hob hlv hrw hy
  rcases hnew x hx with rfl | ⟨hx',hne⟩
  ·simp only[if_true]
   obtain ⟨B,bs,tot,h2,h3⟩:=s.inv.obs b ob hob hlv;rw[hy]at h2;cases h2;have:=h3.lt hlv;intro h;simp only at h;omega
  ·simp only[if_neg hne]
   exact s.ro x hx' b ob y hob hlv hrw hy
end
section
variable {P:Program}{self:Self}{os:Array Oper}{clo:List Nat}{recs:List Rec}{T0 T1:List Value}{h0 h1:Hp}
theorem PlanF.ready {listed:Array Bool}{i:Nat}(p:PlanF P self os clo recs T0 h0 T1 h1) (hs:Shut clo fun j=>listed.getD j false) (hz:listed.size=os.size) (hi:i∈Region.ready .any os listed) :
  i<os.size∧Good clo (fun j=>listed.getD j false) i:=by
 rw[mem_ready]at hi;obtain ⟨hu,o,ho,hall⟩:=hi
 have hlt:i<os.size:=(Array.getElem?_eq_some_iff.1 ho).1
 refine ⟨hlt,hs,?_,?_⟩
 ·have:i<listed.size:=by omega
  simp only[Array.getD_eq_getD_getElem?,Array.getElem?_eq_getElem this,Option.getD_some]at hu ⊢
  exact hu
 ·intro k hk
  obtain ⟨d,hd,h⟩:=(p.clos i hlt k).1 hk;rw[ho]at hd;simp only[Option.map_some,Option.getD_some,depsOf,List.mem_map,List.mem_filter,Array.mem_toList_iff]at hd;obtain ⟨e,⟨he,hb⟩,rfl⟩:=hd;have hl:=hall e he hb
  rcases h with rfl | h
  ·exact hl
  ·exact hs _ _ hl h
theorem PlanF.done {listed:Array Bool}(p:PlanF P self os clo recs T0 h0 T1 h1) (hz:listed.size=os.size) (hr:Region.ready .any os listed=[]):∀(pre post:List Rec),recs=pre++post→∀r∈pre,listed.getD r.i false=true:=by
 intro pre
 induction hn:pre.length generalizing pre with
 | zero=>intro post e r hr;rw[List.length_eq_zero_iff]at hn;subst hn;cases hr
 | succ n ih =>
  intro post e r hrm
  rcases List.eq_nil_or_concat pre with rfl | ⟨pre',q,rfl⟩
  ·cases hrm
  rw[List.concat_eq_append]at *;simp only[List.length_append,List.length_cons,List.length_nil,Nat.zero_add,Nat.add_right_cancel_iff]at hn
  have e':recs=pre'++q::post:=by rw[e];simp
  have hpre:=ih pre' hn (q::post) e'
  rcases List.mem_append.1 hrm with hrm | hrm
  ·exact hpre r hrm
  ·simp only[List.mem_cons,List.not_mem_nil,or_false]at hrm
   subst hrm
   cases hl:listed.getD r.i false with
   | true=>rfl
   | false =>
    have hm:r∈recs:=by rw[e'];simp
    have hlt:=p.lt r hm
    have:r.i∈Region.ready .any os listed:=by
     rw[mem_ready]
     refine ⟨?_,r.o,(p.tr.recs r hm).1,?_⟩
     ·have:r.i<listed.size:=by omega
      simp only[Array.getD_eq_getD_getElem?,Array.getElem?_eq_getElem this,Option.getD_some]at hl ⊢
      exact hl
     ·intro ed hed hb
      obtain ⟨s,hs,he⟩:=p.pre pre' r post e' ed.on ((p.clos r.i hlt ed.on).2 ⟨ed.on,by
       rw[(p.tr.recs r hm).1];simp only[Option.map_some,Option.getD_some,depsOf,List.mem_map,List.mem_filter,Array.mem_toList_iff]
       exact ⟨ed,⟨hed,hb⟩,rfl⟩,.inl rfl⟩)
      rw[← he];exact hpre s hs
    rw[hr]at this;cases this
theorem list_ext_lget {l m:List Value}(h:l.length=m.length) (hg:∀t,lget l t=lget m t):l=m:=by
 apply List.ext_getElem h
 intro i h1 h2;have:=hg i
 rw[lget_eq,lget_eq,Array.getD_eq_getD_getElem?,Array.getD_eq_getD_getElem?,List.getElem?_toArray,List.getElem?_toArray,List.getElem?_eq_getElem h1,List.getElem?_eq_getElem h2]at this
 exact this
theorem al_rec {r:Rec}(h:RecOk P self os r) (hl:r.loud=true) (ha:isAlR r=true) :
  wantedT os r.T r.o=true∧(∀c,r.o.op≠.defer c)∧∃(d:Tmp) (c:Array Value) (el:TypeId) (mk:Nat→Value),r.o.dst=some d∧r.ha.bl=r.hb.bl++[.cells c false]∧(∀ψ:Phi,VRs ψ c c)∧(∀B,notB (mk B)=true) ∧
   (∀(ψ:Phi) (B:Nat),ψ r.hb.bl.length=some (B,0,c.size)→VR ψ r.v (mk B))∧∀(φ:Phi) (a:Act) (w:World),(∀x∈r.o.op.operands,okO x=true→VR φ (evalT r.T x) (a.eval x))→(execOp a.eval r.o).run P w=.ok (.value (mk w.heap.size)) (w.alloc (.cells c el)):=by
 rcases h with ⟨_,_,_,h⟩ | ⟨_,_,_,h⟩ | ⟨hw,_,h,_⟩
 ·rw[hl]at h;cases h
 ·rw[hl]at h;cases h
 ·refine ⟨hw,?_⟩
  unfold isAlR at ha;rw[Bool.and_eq_true]at ha;obtain ⟨ha,hgA⟩:=ha;unfold isAl at ha
  split at ha
  ·rename_i t ho
   refine ⟨fun c hc=>(by rw[ho]at hc;cases hc),?_⟩
   obtain ⟨d,hd⟩:=Option.isSome_iff_exists.1 ha;unfold dloud aloud at h;rw[ho]at h;simp only at h
   cases hz:lAlloc P r.hb t with
   | none=>rw[hz]at h;cases h
   | some x =>
    obtain ⟨v,h'⟩:=x;rw[hz]at h;simp only[Option.map_some,Option.some.injEq,Prod.mk.injEq]at h;unfold lAlloc at hz
    split at hz
    ·rename_i z hzb
     simp only[Option.some.injEq,Prod.mk.injEq]at hz;obtain ⟨rfl,rfl⟩:=hz
     refine ⟨d,z.cells,t,fun B=>.pointer (some ⟨B,0,none⟩),hd,?_,fun ψ=>VR.cells (gA_refl (run_zero hzb default).2) (gA_notT (run_zero hzb default).2),fun _=>rfl,fun ψ B hψ=>?_,fun φ a w hx=>?_⟩
     ·rw[← h.2];rfl
     ·rw[← h.1]
      have:=VR.ptr (φ:=ψ) (b:=r.hb.bl.length) (off:=0) hψ
      simpa using this
     ·simp only[execOp,ho,Instr.alloc,Sem.run_bind,(run_zero hzb w).1,Result.andThen_ok]
      rfl
    ·cases hz
  ·rename_i t len ps ho
   refine ⟨fun c hc=>(by rw[ho]at hc;cases hc),?_⟩
   obtain ⟨d,hd⟩:=Option.isSome_iff_exists.1 ha
   have hcs:∀x∈ps.toList,gr (evalT r.T x.2)=true:=by
    unfold grAl at hgA;rw[ho]at hgA
    simpa only [List.all_eq_true] using hgA
   unfold dloud aloud at h;rw[ho]at h;simp only at h
   split at h
   ·rename_i v' h'' hh
    split at hh
    ·rename_i hok
     rw[Option.map_eq_some_iff]at hh;obtain ⟨⟨v,h'⟩,hz,hh⟩:=hh;simp only[Nx.val.injEq]at hh;obtain ⟨rfl,rfl⟩:=hh;simp only[Option.some.injEq,Prod.mk.injEq]at h;obtain ⟨e1,e2⟩:=h
     have hev:∀f:Operand→Value,(∀x∈ps.toList,f x.2=evalT r.T x.2)→(ps.map fun (i,x)=>(i,f x)).toList=ps.toList.map fun (i,x)=>(i,evalT r.T x):=by
      intro f hf;rw[Array.toList_map]
      refine List.map_congr_left fun x hx=>?_
      have:=hf x hx;obtain ⟨i,x⟩:=x;simp only at this ⊢;rw[this]
     have hpt:∀ψ:Phi,Parts ψ (ps.toList.map fun (i,x)=>(i,evalT r.T x)) (ps.toList.map fun (i,x)=>(i,evalT r.T x)):=by
      intro ψ
      refine parts_ground ?_ hok
      intro x hx;exact gr_refl (hcs x hx)
     obtain ⟨cells,e,n,rfl,rfl,hsz,hv,hrun⟩:=lBuildSlice_run hz hpt
     refine ⟨d,cells,e,fun B=>.slice (some ⟨B,0,none⟩) len len,hd,?_,hv,fun _=>rfl,fun ψ B hψ=>?_,fun φ a w hx=>?_⟩
     ·rw[← e2];rfl
     ·rw[← e1]
      have:=VR.slice (φ:=ψ) (b:=r.hb.bl.length) (off:=0) (len:=len) (cap':=len) (sz:=n) hψ (Nat.le_refl _) (by omega)
      simpa using this
     ·have hfa:∀x∈ps.toList,a.eval x.2=evalT r.T x.2:=by
       intro x hx';rw[List.all_eq_true]at hok;have hk:=hok x hx';rw[Bool.and_eq_true]at hk
       exact gr_eq (hcs x hx') (hx x.2 (by rw[ho];simp only[Op.operands];exact List.mem_toArray.2 (List.mem_map.2 ⟨x,hx',rfl⟩)) hk.1)
      have:=hrun (ps.map fun (i,x)=>(i,a.eval x)) w (hev _ hfa)
      simp only[execOp,ho,Sem.run_bind,this,Result.andThen_ok]
      rfl
    ·cases hh
   ·rename_i hh
    split at hh
    ·rw[Option.map_eq_some_iff]at hh
     obtain ⟨⟨v,h'⟩,hz,hh⟩:=hh
     cases hh
    ·cases hh
   ·rename_i hh
    split at hh
    ·rw[Option.map_eq_some_iff]at hh
     obtain ⟨⟨v,h'⟩,hz,hh⟩:=hh
     cases hh
    ·cases hh
   ·cases h
  ·rename_i t lo ca ho
   refine ⟨fun c hc=>(by rw[ho]at hc;cases hc),?_⟩
   obtain ⟨d,hd⟩:=Option.isSome_iff_exists.1 ha;unfold dloud aloud at h;rw[ho]at h;simp only at h
   split at h
   ·rename_i v' h'' hh
    split at hh
    ·rename_i hok
     rw[Bool.and_eq_true]at hok;rw[Option.map_eq_some_iff]at hh;obtain ⟨⟨v,h'⟩,hz,hh⟩:=hh;simp only[Nx.val.injEq]at hh;obtain ⟨rfl,rfl⟩:=hh;simp only[Option.some.injEq,Prod.mk.injEq]at h;obtain ⟨e1,e2⟩:=h;obtain ⟨cells,e,n,m,rfl,rfl,hsz,hv,hrun⟩:=lMakeSlice_run hz
     refine ⟨d,cells,e,fun B=>.slice (some ⟨B,0,none⟩) n n,hd,?_,hv,fun _=>rfl,fun ψ B hψ=>?_,fun φ a w hx=>?_⟩
     ·rw[← e2];rfl
     ·rw[← e1]
      have:=VR.slice (φ:=ψ) (b:=r.hb.bl.length) (off:=0) (len:=n) (cap':=n) (sz:=m) hψ (Nat.le_refl _) (by omega)
      simpa using this
     ·have:=hrun φ (a.eval lo) (a.eval ca) w (hx lo (by rw[ho];simp [Op.operands]) hok.1) (hx ca (by rw[ho];simp [Op.operands]) hok.2)
      simp only[execOp,ho,Sem.run_bind,this,Result.andThen_ok]
      rfl
    ·cases hh
   ·rename_i hh
    split at hh
    ·rw[Option.map_eq_some_iff]at hh
     obtain ⟨⟨v,h'⟩,hz,hh⟩:=hh
     cases hh
    ·cases hh
   ·rename_i hh
    split at hh
    ·rw[Option.map_eq_some_iff]at hh
     obtain ⟨⟨v,h'⟩,hz,hh⟩:=hh
     cases hh
    ·cases hh
   ·cases h
  ·cases ha
theorem PlanF.run (hN:NoNG P)(hs:SelfOk P self)(p:PlanF P self os clo recs T0 h0 T1 h1)(hb:h0.base≤h0.bl.length)(hdl:∀r∈recs,r.loud=true→isAlR r=true→∀t,r.o.dst=some t→t<T0.length)
  {rd:Option Nat} {d:List Deferred} {K:Nat→Prop} {w0:World} {F:Fence} {n:Nat} {Q:Exit→Act→World→Prop} :
  ∀(fuel:Nat) (listed:Array Bool) (U:List Nat) (E:Nat→Bool) (Bf:Nat→Nat) (φ:Phi) (T:List Value) (a:Act) (w:World),listed.size=os.size →
   (∀i,i<os.size→listed.getD i false=false→i∈U)→U.length≤fuel →
   FS P clo recs T0 h0 K w0 (fun j=>listed.getD j false) E Bf φ T a w→DRs φ d a.defers→FenceOk φ rd F →
   (∀x a w',CodeR K w0 φ .normal ⟨T1,d,h1⟩ x a w'→Q x a w')→wpAnyIn F n P .any os Q fuel listed a w:=by
 intro fuel
 have fin:∀(listed:Array Bool) (E:Nat→Bool) (Bf:Nat→Nat) (φ:Phi) (T:List Value) (a:Act) (w:World),listed.size=os.size →
   FS P clo recs T0 h0 K w0 (fun j=>listed.getD j false) E Bf φ T a w→DRs φ d a.defers →
   (∀x a w',CodeR K w0 φ .normal ⟨T1,d,h1⟩ x a w'→Q x a w')→Region.ready .any os listed=[]→Q .normal a w:=by
  intro listed E Bf φ T a w hz s hd hQ hr
  have hall:=p.done hz hr recs [] (by simp)
  obtain ⟨E,φ',T,hle,s,hL⟩:=FS.landAll p recs [] E φ T rfl s (by simp)
  have hE:∀r∈recs,E r.i=true:=by
   intro r hr
   cases hc:E r.i with
   | true=>rfl
   | false =>
    obtain ⟨h1,h2⟩:=s.rest r hr (hall r hr) hc
    rcases hL with hL | ⟨pre,x,post,e,_,hx,_⟩
    ·rw[hL r hr h1]at hc;cases hc
    ·have:=hall x (by rw[e];simp)
     simp only at hx;rw[hx]at this;cases this
  obtain ⟨l1,l2⟩:=p.tr.last
  have hT:T=T1:=by
   rw[l1,← TD_congr (D:=E) (D':=fun _=>true) T0 fun r hr=>hE r hr]
   refine list_ext_lget (by rw[s.len,TD_length]) fun t=>s.keepT t fun r hr=>?_
   have:=hE r hr.1;rw[hr.2.2.2.2]at this;cases this
  have hH:HD E recs h0=h1:=by rw[l2];exact HD_congr h0 fun r hr _=>hE r hr
  subst hT;have hI:=s.inv;rw[hH]at hI
  refine hQ _ _ _ ⟨φ',hle,.normal,s.frame,hd.mono hle,?_⟩
  exact hI.back (K:=K) (w0:=w0) (fun k hk=>⟨.inl hk,s.kept.keep k hk,s.kept.klt k hk⟩) s.kept.size s.kept.os s.kept.tape s.kept.output
 induction fuel with
 | zero =>
  intro listed U E Bf φ T a w hz hU hf s hd hF hQ
  have hn:Region.ready .any os listed=[]:=by
   rw[List.eq_nil_iff_forall_not_mem];intro i hi;obtain ⟨hlt,_,hg,_⟩:=p.ready s.shut hz hi;have:=hU i hlt hg;rw[List.length_eq_zero_iff.1 (Nat.le_zero.1 hf)]at this
   cases this
  exact ⟨hn,fin listed E Bf φ T a w hz s hd hQ hn⟩
 | succ fuel ih =>
  intro listed U E Bf φ T a w hz hU hf s hd hF hQ
  refine ⟨fin listed E Bf φ T a w hz s hd hQ,?_⟩
  intro i hi
  obtain ⟨E,φ1,T,hle1,s,hL⟩:=FS.landAll p recs [] E φ T rfl s (by simp)
  replace hd:=hd.mono hle1;replace hF:=hF.mono hle1
  replace hQ:∀x a w',CodeR K w0 φ1 .normal ⟨T1,d,h1⟩ x a w'→Q x a w':=fun x a w' hc=>hQ x a w' (hc.mono hle1)
  clear hle1;obtain ⟨hlt,hg⟩:=p.ready s.shut hz hi;obtain ⟨q,hq,rfl⟩:=p.all i hlt;obtain ⟨pre,post,e⟩:=List.append_of_mem hq;obtain ⟨ho,hrec⟩:=p.tr.recs q hq
  have hlt':q.i<listed.size:=by omega
  have hDlt:∀i,listed.getD i false=true→i<os.size:=by
   intro i hi
   rcases Nat.lt_or_ge i listed.size with h | h
   ·omega
   ·simp [Array.getD_eq_getD_getElem?,Array.getElem?_eq_none h]at hi
  have hgE:=s.goodE p hL hDlt hq hg
  have d1:(listed.setIfInBounds q.i true).getD q.i false=true:=by simp [hlt']
  have d2:∀j,j≠q.i→(listed.setIfInBounds q.i true).getD j false=listed.getD j false:=fun j hj=>getD_set_ne false (Ne.symm hj)
  have hsh':Shut clo fun j=>(listed.setIfInBounds q.i true).getD j false:=by
   intro j k hj hk
   by_cases hjq:j=q.i
   ·subst hjq
    exact getD_set_true (hg.2.2 k hk)
   ·simp only[d2 j hjq]at hj
    exact getD_set_true (s.shut j k hj hk)
  have goOn:∀(E':Nat→Bool) (Bf':Nat→Nat) (φ':Phi) (T':List Value) (a':Act) (w':World),le φ1 φ'→FS P clo recs T0 h0 K w0 (fun j=>(listed.setIfInBounds q.i true).getD j false) E' Bf' φ' T' a' w'→DRs φ' d a'.defers →
    wpAnyIn F n P .any os Q fuel (listed.setIfInBounds q.i true) a' w':=by
   intro E' Bf' φ' T' a' w' hle s' hd'
   refine ih _ (U.erase q.i) E' Bf' φ' T' a' w' (by simp [hz]) ?_ ?_ s' hd' (hF.mono hle) (fun x a w'' hc=>hQ x a w'' (hc.mono hle))
   ·intro j hj hl
    have hne:j≠q.i:=fun he=>by rw[he,d1]at hl;cases hl
    rw[d2 j hne]at hl;exact (List.mem_erase_of_ne hne).2 (hU j hj hl)
   ·have:=List.length_erase_of_mem (hU q.i hlt hg.2.1)
    omega
  have hwe:=s.wants p hL e hg hgE;have hev:=s.ev p hL e hg hgE;simp only[wpOpIn,ho];rw[wanted_eq s.frame,hwe]
  have quiet:∀(v':Value),q.loud=false→VR φ1 q.v v'→FS P clo recs T0 h0 K w0 (fun j=>(listed.setIfInBounds q.i true).getD j false) (add E q.i) Bf φ1 (put T q.o.dst q.v) (a.put q.o.dst v') w:=by
   intro v' hl hv
   have hH:=p.nextQuiet (D:=E) (D':=add E q.i) hq hl (fun j hj=>add_ne E hj)
   exact s.next p e hg hgE (fun h=>by rw[hl]at h;cases h) d1 d2 hsh' (le_refl φ1) hv (by rw[hH];exact s.inv) (fun b ob h1 _ _=>by rw[hH]at h1;exact h1)
  rcases hrec with ⟨r1,r2,r3,r4⟩ | ⟨r1,r2,r3,r4⟩ | ⟨r1,r2,r3,r4⟩
  ·rw[if_neg (by rw[r1];simp)]
   refine ⟨fun f _=>hF.fn f,?_⟩
   exact goOn _ _ _ _ _ _ (le_refl φ1) (quiet undef r4 (by rw[r2];exact VR.undef φ1)) (by rw[put_defers];exact hd)
  ·rw[if_pos r1]
   refine ⟨fun f _=>hF.fn f,?_⟩
   have ha:=p.read e hgE s.pref r4 r1 r2;rw[← aread_congr hev]at ha
   have hnd:∀c,q.o.op≠.defer c:=fun c hc=>by
    unfold aread at ha;rw[hc]at ha
    simp at ha
   obtain ⟨v',hr,hv⟩:=aread_sound s.inv (evs_t s.frame) ha;rw[sem_plain (.inl hnd),hr]
   exact goOn _ _ _ _ _ _ (le_refl φ1) (quiet v' r4 hv) (by rw[put_defers];exact hd)
  ·rw[if_pos r1]
   refine ⟨fun f _=>hF.fn f,?_⟩
   by_cases hpre:∀r∈pre,r.loud=true→E r.i=true
   ·have hH:=p.atLoud e s.pref hgE.2.1 r4 hpre
    have hH':=p.nextLoud (E':=add E q.i) e s.pref hgE.2.1 r4 (add_same E q.i) (fun j hj=>add_ne E hj)
    have hI:=s.inv;rw[hH]at hI;have hqb:q.hb.base≤q.hb.bl.length:=(p.tr.pres hs hb).2 q hq;have hpres:=(p.tr.recs q hq).2.pres hs hqb
    have step:∀(φ':Phi) (v':Value) (w':World),le φ1 φ'→VR φ' q.v v'→Inv (fun k=>K k∨∃r,IsFl recs (fun j=>listed.getD j false) E r∧Bf r.i=k) w φ' q.ha.bl w' →
      wpAnyIn F n P .any os Q fuel (listed.setIfInBounds q.i true) (a.put q.o.dst v') w':=by
     intro φ' v' w' hle hv hI'
     refine goOn _ _ φ' _ _ w' hle (s.next p e hg hgE (fun _=>hpre) d1 d2 hsh' hle hv (by rw[hH'];exact hI') (fun b ob h1 h2 h3=>?_)) (by rw[put_defers];exact hd.mono hle)
     rw[hH']at h1;rw[hH];exact hpres.ro b ob h1 h2 h3
    rw[← aread_congr hev]at r2;rw[← dloud_congr hev]at r3
    have hop:∀nx,aloud P (evalT T) q.hb q.o=some nx→aop P (evalT T) q.hb q.o=some nx:=fun nx hh=>by unfold aop;rw[r2];exact hh
    rcases dloud_nx r3 with h | ⟨f,args,h,hc⟩ | ⟨l,args,h,hc⟩
    ·have ha:=hop _ h
     have hnd:∀c,q.o.op≠.defer c:=fun c hc=>by obtain ⟨d,hd⟩:=aop_defer hc ha;cases hd
     obtain ⟨_,φ',v',w',hr,hle,hv,hI'⟩:=aop_sound hN hqb hI (evs_t s.frame) ha;rw[sem_plain (.inl hnd)];have hrest:=step φ' v' w' hle hv hI'
     rcases hr with hr | ⟨hr,rfl⟩
     ·rw[hr];exact hrest
     ·rw[hr];exact hrest
    ·have ha:=hop _ h
     have hnd:∀c,q.o.op≠.defer c:=fun c hc=>by obtain ⟨d,hd⟩:=aop_defer hc ha;cases hd
     obtain ⟨_,args',hr,hargs⟩:=aop_sound hN hqb hI (evs_t s.frame) ha;obtain ⟨hp1,hcc⟩:=hs _ _ hc hqb;rw[sem_plain (.inl hnd),hr]
     refine ⟨hF.depth n,(hF.calls (hcc _ w φ1 w args' (n-1) hI hargs)).mono ?_⟩
     intro en w' hen
     cases en with
     | returned v' =>
      obtain ⟨φ',hle,hv,hI'⟩:=hen;exact step φ' v' w' hle hv hI'
     | panicked ch=>exact hen.elim
     | outgrown=>exact hen.elim
    ·have ha:=hop _ h
     have hnd:∀c,q.o.op≠.defer c:=fun c hc=>by obtain ⟨d,hd⟩:=aop_defer hc ha;cases hd
     obtain ⟨B,tb,args',hφ,hr,hargs⟩:=aop_sound hN hqb hI (evs_t s.frame) ha;obtain ⟨hp1,hcc⟩:=hs _ _ hc hqb;obtain ⟨fn,tm,as,bd,hy,hround⟩:=hcc _ w φ1 w args' B tb (n-1) hI hargs hφ;rw[sem_plain (.inl hnd),hr,hy]
     refine ⟨hF.depth n,(hF.round hround).mono ?_⟩
     intro en w' hen
     cases en with
     | returned v' =>
      obtain ⟨φ',hle,hv,hI'⟩:=hen;exact step φ' v' w' hle hv hI'
     | panicked ch=>exact hen.elim
     | outgrown=>exact hen.elim
   ·
    have hal:isAlR q=true:=by
     cases hal:isAlR q with
     | true=>rfl
     | false =>
      refine absurd (fun r hr hrl=>?_) hpre
      rcases p.two e (r:=r) (by rw[e];simp [hr]) with rfl | ⟨_,hp⟩ | ⟨hrp,_⟩
      ·exact absurd rfl ((p.other e).1 r hr)
      ·simp only[pairF,hrl,r4,hal,if_true,Bool.or_eq_true,beq_iff_eq,Bool.and_eq_true]at hp
       rcases hp with hp | hp
       ·exact absurd hp ((p.other e).1 r hr)
       ·have h2:=hp.2
        simp at h2
        have hpw:=p.pw;rw[e,List.pairwise_append]at hpw
        have h3:=(hpw.2.2 r hr q (by simp)).2
        rcases not_unord (clo:=clo) (i:=r.i) (j:=q.i) (by rw[h2];rfl) with h4 | h4
        ·rw[h3]at h4;cases h4
        ·exact hgE.2.2 r.i h4
      ·exact absurd rfl ((p.other e).2.2 r hr r hrp)
    obtain ⟨_,hnd,dd,c,el,mk,hdst,hha,hc,hmk,hv,hrun⟩:=al_rec (p.tr.recs q hq).2 r4 hal
    rw[sem_plain (.inl hnd),hrun φ1 a w (fun x hx hk=>by rw[← hev x hx];exact evs_t s.frame x hk)]
    have hlen:=s.len
    refine goOn _ _ φ1 _ _ _ (le_refl φ1) (s.float p e hg r4 hal d1 d2 hsh' hdst (by rw[hlen];exact hdl q hq r4 hal dd hdst) hmk hv hha (C:=c) (el:=el) hc) (by rw[put_defers];exact hd)
end
def lateGo (os:Array Oper):Nat→List Nat→List Nat→List Nat
 | 0,_,acc=>acc.reverse
 | n+1,left,acc =>
  match left.filter fun i=>(((os[i]?).map depsOf).getD []).all fun d=>!left.contains d with
  | []=>acc.reverse
  | r =>
   match r.find? fun i=>match os[i]? with | some o=>!isAl o | none=>true with
   | some i=>lateGo os n (left.erase i) (i::acc)
   | none=>(match r with | i::_=>lateGo os n (left.erase i) (i::acc) | []=>acc.reverse)
def late (os:Array Oper):List Nat:=lateGo os os.size (List.range os.size) []
def drawnF (P:Program)(self:Self)(_:Option Nat)(_:Nat)(os:Array Oper)(s:St):Option Out :=
 if planOk os (late os) (mkClo os (late os) (List.replicate os.size 0)) then
  match drun P self os (late os) s.t s.h with
  | some (recs,T,h)=>if fchk P os (mkClo os (late os) (List.replicate os.size 0)) recs&&(floatOk (mkClo os (late os) (List.replicate os.size 0)) [] recs&&recs.all fun r=>!(r.loud&&isAlR r)||r.o.dst.all fun t=>decide (t<s.t.length))
   then some (.ex .normal { s with t:=T,h:=h }) else none
  | none=>none
 else none
theorem drawnF_ok {P:Program}(hN:NoNG P) (hm:P.follows .mixedOrders=true):DrawnOk P drawnF:=by
 intro self hs rd id os s o h;unfold drawnF at h
 split at h
 case isFalse=>cases h
 rename_i hp
 split at h
 case h_2=>cases h
 rename_i recs T h1 hr
 split at h
 case isFalse=>cases h
 rename_i hc;simp only[Option.some.injEq]at h;subst h;simp only[Bool.and_eq_true]at hc;have p:=planF_of hp hr hc.1 hc.2.1
 have hdl:∀r∈recs,r.loud=true→isAlR r=true→∀t,r.o.dst=some t→t<s.t.length:=by
  intro r hr hl ha t ht;have:=hc.2.2;rw[List.all_eq_true]at this;have:=this r hr;rw[hl,ha,ht]at this
  simpa using this
 intro hb
 refine ⟨(p.tr.pres hs hb).1,?_⟩
 intro K w0 φ w a F n hI ht hd hF
 refine wpIn_region_any hm ?_
 have h0:∀j,(Array.replicate os.size false).getD j false=false:=fun j=>by
  simp only[Array.getD_eq_getD_getElem?,Array.getElem?_replicate]
  split<;>rfl
 have hnf:∀r,¬IsFl recs (fun j=>(Array.replicate os.size false).getD j false) (fun _=>false) r:=fun r hr=>by have:=hr.2.2.2.1;simp only[h0]at this;cases this
 have hI':=hI.drew
 refine p.run hN hs hb hdl os.size _ (List.range os.size) (fun _=>false) (fun _=>0) φ s.t a _ (by simp) ?_ (by simp) ?_ hd hF (fun x a w' hc=>hc)
 ·intro i hi _;exact List.mem_range.2 hi
 ·refine ⟨fun i hi=>by (cases hi),fun r _ hD=>by (simp only[h0]at hD;cases hD),pw_all fun _ _ _ _ _ _ h=>by (cases h),fun j k hj=>by (simp only[h0]at hj;cases hj),rfl,fun t _=>?_,ht,?_,?_,fun r hr=>(hnf r hr).elim,fun r _ hr=>(hnf r hr).elim,fun r hr=>(hnf r hr).elim⟩
  ·rw[TD_none _ fun r _=>rfl]
  ·rw[HD_none _ fun r _ _=>rfl]
   refine hI'.rebase.weaken ?_
   rintro k (hk | ⟨r,hr,_⟩)
   ·exact hk
   ·exact (hnf r hr).elim
  ·exact ⟨hI'.keep,hI'.klt,hI'.size,hI'.os,hI'.tape,hI'.output⟩
def floaty (os:Array Oper)(clo:List Nat):Bool :=
 (List.range os.size).any fun i=>match os[i]? with
  | some o=>isAl o&&(List.range os.size).any fun j=>match os[j]? with
   | some q=>!(i == j)&&(loudS q&&unord clo i j)
   | none=>false
  | none=>false
def pairFC (P:Program)(os:Array Oper)(clo:List Nat)(late:Bool)(r q:Rec)(k:Option Out):Option Out :=
 if r.i == q.i then k else
 if dstP os clo r q then
  if r.loud&&unord clo r.i q.i then
   if q.loud then (if isAlR (if late then q else r) then k else none)
   else if memOp q.o.op&&wantedT os q.T q.o then sameC P q.T r.hb.bl q.o q.v (sameC P q.T r.ha.bl q.o q.v k)
   else k
  else k
 else none
theorem pairF_eq (P:Program)(os:Array Oper)(clo:List Nat)(late:Bool)(r q:Rec):pairF P os clo late r q=(r.i == q.i||(dstP os clo r q &&
  (!r.loud||(!q.loud||!unord clo r.i q.i||isAlR (if late then q else r))&&(q.loud||!memOp q.o.op||!unord clo r.i q.i||!wantedT os q.T q.o||(same (aread P (evalT q.T) r.hb.bl q.o) q.v&&same (aread P (evalT q.T) r.ha.bl q.o) q.v))))):=rfl
theorem pairFC_ok {P:Program}{os:Array Oper}{clo:List Nat}{late:Bool}{r q:Rec}{k:Option Out}{x:Out}(h:pairFC P os clo late r q k=some x):pairF P os clo late r q=true∧k=some x:=by
 rw[pairF_eq];unfold pairFC at h
 generalize hal:isAlR (if late then q else r)=al at h ⊢
 cases he:r.i == q.i with
 | true=>rw[he]at h;exact ⟨rfl,by simpa using h⟩
 | false =>
  rw[he]at h;rw[Bool.false_or]
  cases hd:dstP os clo r q with
  | false=>rw[hd]at h;simp at h
  | true =>
   rw[hd]at h
   cases hl:r.loud with
   | false=>rw[hl]at h;exact ⟨rfl,by simpa using h⟩
   | true =>
    rw[hl]at h
    cases hu:unord clo r.i q.i with
    | false =>
     rw[hu]at h
     refine ⟨?_,by simpa using h⟩
     cases q.loud<;>simp
    | true =>
     rw[hu]at h
     cases hq:q.loud with
     | true =>
      rw[hq]at h
      cases al with
      | true=>exact ⟨rfl,by simpa using h⟩
      | false=>simp at h
     | false =>
      rw[hq]at h
      cases hm:memOp q.o.op with
      | false=>rw[hm]at h;exact ⟨rfl,by simpa using h⟩
      | true =>
       rw[hm]at h
       cases hw:wantedT os q.T q.o with
       | false=>rw[hw]at h;exact ⟨rfl,by simpa using h⟩
       | true =>
        rw[hw]at h;simp only[Bool.and_self,if_true,Bool.false_eq_true,if_false]at h;obtain ⟨s1,h2⟩:=sameC_ok h;obtain ⟨s2,h3⟩:=sameC_ok h2;rw[s1,s2];exact ⟨rfl,h3⟩
def rowFC (P:Program)(os:Array Oper)(clo:List Nat)(r:Rec):List Rec→Option Out→Option Out
 | [],k=>k
 | q::l,k=>pairFC P os clo true r q (pairFC P os clo false q r (rowFC P os clo r l k))
theorem rowFC_ok {P:Program}{os:Array Oper}{clo:List Nat}{r:Rec}:∀{l:List Rec}{k:Option Out}{x:Out},rowFC P os clo r l k=some x→(l.all fun q=>pairF P os clo true r q&&pairF P os clo false q r)=true∧k=some x
 | [],k,x,h=>⟨rfl,h⟩
 | q::l,k,x,h=>by
  obtain ⟨h1,h2⟩:=pairFC_ok (show pairFC P os clo true r q (pairFC P os clo false q r (rowFC P os clo r l k))=some x from h)
  obtain ⟨h3,h4⟩:=pairFC_ok h2;obtain ⟨h5,h6⟩:=rowFC_ok h4
  exact ⟨by rw[List.all_cons,h1,h3,h5];rfl,h6⟩
def fchkC (P:Program)(os:Array Oper)(clo:List Nat):List Rec→Option Out→Option Out
 | [],k=>k
 | r::l,k=>rowFC P os clo r l (fchkC P os clo l k)
theorem fchkC_ok {P:Program}{os:Array Oper}{clo:List Nat}:∀{l:List Rec}{k:Option Out}{x:Out},fchkC P os clo l k=some x→fchk P os clo l=true∧k=some x
 | [],k,x,h=>⟨rfl,h⟩
 | r::l,k,x,h=>by
  obtain ⟨h1,h2⟩:=rowFC_ok (show rowFC P os clo r l (fchkC P os clo l k)=some x from h)
  obtain ⟨h3,h4⟩:=fchkC_ok h2
  exact ⟨by rw[fchk,h1,h3];rfl,h4⟩
def drawnX (P:Program)(self:Self)(rd:Option Nat)(id:Nat)(os:Array Oper)(s:St):Option Out :=
 match floaty os (mkClo os (Region.linearise .any os 0) (List.replicate os.size 0)) with
 | true=>drawnF P self rd id os s
 | false=>drawn P self rd id os s
theorem drawnX_ok {P:Program}(hN:NoNG P) (hm:P.follows .mixedOrders=true):DrawnOk P drawnX:=by
 intro self hs rd id os s o h;unfold drawnX at h
 split at h
 ·exact drawnF_ok hN hm self hs rd id os s o h
 ·exact drawn_ok hN hm self hs rd id os s o h
section
variable {P:Program}{self:SelfC}{sd:Self}
def drawnFC (P:Program)(self:SelfC)(os:Array Oper)(s:St)(k:Ex→St→Option Out):Option Out :=
 if planOk os (late os) (mkClo os (late os) (List.replicate os.size 0)) then
  drunC P self os (late os) s.t s.h fun recs T h =>
   if floatOk (mkClo os (late os) (List.replicate os.size 0)) [] recs&&recs.all fun r=>!(r.loud&&isAlR r)||r.o.dst.all fun t=>decide (t<s.t.length) then
    fchkC P os (mkClo os (late os) (List.replicate os.size 0)) recs (k .normal { t:=T,d:=s.d,h:=h })
   else none
 else none
theorem drawnFC_ok (hs:CpsOk self sd) {rd:Option Nat}{id:Nat}{os:Array Oper}{s:St}{k:Ex→St→Option Out}{r:Out}(hc:drawnFC P self os s k=some r) :
  ∃e s',drawnF P sd rd id os s=some (.ex e s')∧k e s'=some r:=by
 unfold drawnFC at hc;unfold drawnF
 split at hc
 ·rename_i hp
  rw[if_pos hp];obtain ⟨recs,T,h,h1,h2⟩:=drunC_ok hs hc;rw[h1]
  split at h2
  ·rename_i hf
   obtain ⟨h3,h4⟩:=fchkC_ok h2;simp only
   rw[if_pos (by rw[h3,hf];rfl)]
   exact ⟨_,_,rfl,h4⟩
  ·cases h2
 ·cases hc
def drawnXC (P:Program)(self:SelfC)(os:Array Oper)(s:St)(k:Ex→St→Option Out):Option Out :=
 match floaty os (mkClo os (Region.linearise .any os 0) (List.replicate os.size 0)) with
 | true=>drawnFC P self os s k
 | false=>drawnC P self os s k
theorem drawnXC_ok (hs:CpsOk self sd) {rd:Option Nat}{id:Nat}{os:Array Oper}{s:St}{k:Ex→St→Option Out}{r:Out}(hc:drawnXC P self os s k=some r) :
  ∃e s',drawnX P sd rd id os s=some (.ex e s')∧k e s'=some r:=by
 unfold drawnXC at hc;unfold drawnX
 split at hc
 ·rename_i h
  exact drawnFC_ok hs hc
 ·rename_i h
  exact drawnC_ok hs hc
end
end
end Go.Gi
