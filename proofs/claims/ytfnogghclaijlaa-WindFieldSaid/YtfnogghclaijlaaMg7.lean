/- Part 7 of the texts below the claim. Conditions: none. -/
import Derived.Deep.Slices
import Derived.Test.YtfnogghclaijlaaMg5
import Derived.Test.YtfnogghclaijlaaMg6
set_option linter.unusedVariables false
set_option linter.unusedSimpArgs false
namespace Go.Gi
open Go.RowKit
noncomputable section
def okLeaf:Leaf→Value→Prop
  | .int q,v=>∃n,v=.int q n∧(Lit.int q n).wf=true
  | .bool,v=>∃b,v=.bool b
  | .str,v=>∃s,v=.string s∧s.size≤maxLen
  | .lst,_=>False
  | .any,_=>False
def offsOk (P:Program)(d:Nat):Nat→List Field→Bool
  | _,[]=>true
  | o,f::r=>((f.offset == o)&&(P.cellsOf f.type == (leaves P false d f.type).length))&&offsOk P d (o+(leaves P false d f.type).length) r
def flatT (P:Program):Nat→TypeId→Bool
  | 0,_=>false
  | d+1,t =>
    match P.underlying t with
    | some .bool | some (.int _) | some .string=>true
    | some (.struct fs)=>((P.cellsOf t == (leaves P false (d+1) t).length)&&offsOk P d 0 fs.toList)&&fs.toList.all fun f=>flatT P d f.type
    | _=>false
inductive All2 {α β:Type} (R:α→β→Prop):List α→List β→Prop
  | nil:All2 R [] []
  | cons {a:α} {b:β} {l:List α} {m:List β} (h:R a b) (r:All2 R l m):All2 R (a::l) (b::m)
theorem All2.append {α β:Type}{R:α→β→Prop} {l l':List α} {m m':List β}(h:All2 R l m) (h':All2 R l' m'):All2 R (l++l') (m++m'):=by
  induction h with
  | nil=>exact h'
  | cons h _ ih=>exact .cons h ih
theorem All2.len {α β:Type}{R:α→β→Prop}{l:List α}{m:List β}(h:All2 R l m):m.length=l.length:=by
  induction h with
  | nil=>rfl
  | cons _ _ ih=>simp [ih]
theorem All2.get {α β:Type}{R:α→β→Prop}{l:List α}{m:List β}(h:All2 R l m):∀{j:Nat}{a:α},l[j]?=some a→∃b,m[j]?=some b∧R a b:=by
  induction h with
  | nil=>intro j a h;simp at h
  | cons h _ ih =>
    intro j a hj
    cases j with
    | zero=>simp only [List.getElem?_cons_zero,Option.some.injEq]at hj;subst hj;exact ⟨_,rfl,h⟩
    | succ j=>simp only [List.getElem?_cons_succ]at hj ⊢;exact ih hj
section
variable {H:Type}{enc:TypeId×Value→H}{P:Program}{w:World}{base:Nat}{spare:Nat→Bool}{held:Bool}
theorem mapM_all {α β:Type}{f:α→Option β}:∀{l:List α}{r:List β},l.mapM f=some r→∀a∈l,∃b,f a=some b
  | [],_,_,a,ha=>by simp at ha
  | x::l,r,h,a,ha=>by
    rw [List.mapM_cons]at h
    cases hx:f x with
    | none=>rw [hx]at h;cases h
    | some y =>
      rw [hx]at h
      cases hl:l.mapM f with
      | none=>rw [hl]at h;cases h
      | some ys =>
        rcases List.mem_cons.1 ha with rfl | ha
        · exact ⟨y,hx⟩
        · exact mapM_all hl a ha
theorem okLeaf_g0 {l:Leaf}{v:Value}(h:okLeaf l v):g0 v=true:=by
  cases l with
  | int q=>obtain ⟨n,rfl,_⟩:=h;rfl
  | bool=>obtain ⟨b,rfl⟩:=h;rfl
  | str=>obtain ⟨s,rfl,_⟩:=h;rfl
  | lst=>exact h.elim
  | any=>exact h.elim
theorem okLeaf_rd {l:Leaf}{c:Array Value}{i:Nat}{v:Value}(hc:c[i]?=some v) (h:okLeaf l v):(rdLeaf c l i).1=true:=by
  have hl:lget c.toList i=v:=by rw [lget_eq,Array.toArray_toList,Array.getD_eq_getD_getElem?,hc];rfl
  cases l with
  | int q=>obtain ⟨n,rfl,_⟩:=h;simp [rdLeaf,isInt,hl]
  | bool=>obtain ⟨b,rfl⟩:=h;simp [rdLeaf,isBool,hl]
  | str=>obtain ⟨s,rfl,_⟩:=h;simp [rdLeaf,isStr,hl]
  | lst=>exact h.elim
  | any=>exact h.elim
theorem rdOk_of {c:Array Value}:∀{L:List Leaf}{x:Nat},(∀(j:Nat) (l:Leaf),L[j]?=some l→∃v,c[x+j]?=some v∧okLeaf l v)→rdOk c L x=true
  | [],_,_=>rfl
  | l::L,x,h=>by
    obtain ⟨v,h1,h2⟩:=h 0 l rfl
    simp only [rdOk,Bool.and_eq_true]
    refine ⟨okLeaf_rd h1 h2,rdOk_of fun j l' hj=>?_⟩
    obtain ⟨v',h3,h4⟩:=h (j+1) l' (by simpa using hj)
    exact ⟨v',by rw [show x+1+j=x+(j+1) by omega];exact h3,h4⟩
def GoodL (L:List Leaf)(c:Array Value)(off n:Nat):Prop:=c.toList.all g0=true∧∀k,k<n→rdOk c L (off+k*L.length)=true
theorem cell_some {a:Addr}{v:Value}(h:w.cell? a=some v):a.spot=none∧∃C el fr,w.heap[a.block]?=some (.cells C el fr)∧C[a.off]?=some v:=by
  unfold World.cell? at h
  split at h
  · rename_i C el fr hh
    split at h
    · cases h
    · rename_i hs
      exact ⟨by simpa using hs,C,el,fr,hh,h⟩
  · cases h
theorem add_at (B off k:Nat):(⟨B,off,none⟩:Addr).add k=⟨B,off+k,none⟩:=by
  unfold Addr.add
  split<;>simp_all
end
end
end Go.Gi
namespace Go.Proofs.Ytfnogghclaijlaa.Old
open Go.Gi Go.RowKit
noncomputable section
abbrev L7:List Leaf:=[.str,.int .i64,.int .i64,.int .i64,.int .i64,.int .i64,.int .i64]
abbrev L5:List Leaf:=[.int .i64,.int .i64,.int .i64,.int .i64,.int .i64]
abbrev L1:List Leaf:=[.int .i64]
def sEq (a b:ByteArray):Bool:=a.toList == b.toList
def twP (c:Array Value)(off:Nat)(s:ByteArray)(k:Nat):Bool:=sEq (getStr c (off+k*7)) s
def twB (c:Array Value)(off:Nat)(s:ByteArray)(m i:Nat):Bool:=(fst (twP c off s) m i).isSome
def inB (n lo hi:Int):Bool:=decide (lo≤n)&&decide (n≤hi)
def srcE (c:Array Value)(off i:Nat):Int :=
  if nm (getStr c (off+i*7))=false then 6
  else if twB c off (getStr c (off+i*7)) i 0=true then 5
  else if inB (getInt c (off+i*7+1)) 1 3=false then 2
  else if inB (getInt c (off+i*7+2)) 0 5000=false∨inB (getInt c (off+i*7+3)) 0 6000=false∨inB (getInt c (off+i*7+4)) 1 60000=false∨inB (getInt c (off+i*7+5)) 0 99999999=false ∨
    inB (getInt c (off+i*7+6)) 0 99999999=false∨getInt c (off+i*7+6)<getInt c (off+i*7+5) then 7 else 0
end
end Go.Proofs.Ytfnogghclaijlaa.Old
namespace Go.Proofs.Ytfnogghclaijlaa.Old
open Go.Gi Go.RowKit
noncomputable section
set_option maxRecDepth 100000
theorem keptSelf {n:Nat}:∀{l:List Ob},l.all (obSc n)=true→ObsKept n l l
  | [],_=>.nil
  | o::l,h=>by
    simp only [List.all_cons,Bool.and_eq_true]at h
    exact .cons (by cases o<;>simp [obKept,h.1]) (keptSelf h.2)
theorem slice_sc {n m:Nat}{b:Option Addr}{l z:Nat}(h:sc1 n (.slice b l z)=true) (hm:n≤m):sc1 m (.slice b l z)=true:=by
  cases b with
  | none=>exact h
  | some x =>
    simp only [sc1,sc0,decide_eq_true_eq]at h ⊢
    omega
theorem int_sc (n:Nat)(q:IntKind)(k:Int):sc1 n (.int q k)=true:=rfl
theorem at0_sc {n off l z:Nat}(h:0<n):sc1 n (.slice (some ⟨0,off,none⟩) l z)=true:=by simp [sc1,sc0,h]
def SliceL (L:List Leaf)(a:Option Addr)(n sz:Nat)(H:List Ob):Prop:=n=0∨∃b off,a=some ⟨b,off,none⟩∧sz=L.length∧isCells H b=true∧GoodL L (cellsAt H b) off n
def blkOf (a:Option Addr):Nat:=match a with
  | some x=>x.block
  | none=>0
def atB (k:Nat)(a:Option Addr):Option Addr:=match a with
  | some x=>some ⟨k,x.off,x.spot⟩
  | none=>none
theorem atB_ren {ρ:Nat→Nat}{k:Nat}{a:Option Addr}(h:ρ k=blkOf a):renA ρ (atB k a)=a:=by
  cases a with
  | none=>rfl
  | some x=>obtain ⟨b,o,s⟩:=x;simp only [atB,renA,h];rfl
def NilOk (a:Option Addr)(l z:Nat):Prop:=a=none→l=0∧z=0
theorem atB_sc {n k l z:Nat}{a:Option Addr}(h:k<n) (h0:NilOk a l z):sc1 n (.slice (atB k a) l z)=true:=by
  cases a with
  | none=>obtain ⟨rfl,rfl⟩:=h0 rfl;rfl
  | some x=>simp [atB,sc1,sc0,h]
theorem atB_okR {n k l z:Nat}{a:Option Addr}(h:k<n):okR0 n (.slice (atB k a) l z)=true:=by
  cases a with
  | none=>rfl
  | some x=>simp [atB,okR0,okA,Nat.blt_eq,h]
section
variable {P:Program}{f:FuncId}{args args1:Array Value}{v:Value}{h:Hp}
def ObAt (o:Ob)(b:Nat)(H:List Ob):Prop:=o=.dead∨∃c,o=.cells c true∧c.toList.all g0=true∧∃ro,H[b]?=some (.cells c ro)
theorem frame3 {o0 o1 o2:Ob}(b0 b1 b2:Nat) (hf:Fact P (.call f args1 ⟨[o0,o1,o2],3,[]⟩) (.ret v ⟨[o0,o1,o2],3,[]⟩)) (hv:gr v=true) (h0:ObAt o0 b0 h.bl) (h1:ObAt o1 b1 h.bl) (h2:ObAt o2 b2 h.bl)
    (ha:args=args1.map (ren1 fun i=>if i=0 then b0 else if i=1 then b1 else b2)) (hok:args1.toList.all (okR1 3)=true):Fact P (.call f args h) (.ret v h):=by
  have key:∀{o:Ob} {b:Nat},ObAt o b h.bl→o=.dead∨∃c,o=.cells c true∧c.toList.all gA=true∧∃ro,h.bl[b]?=some (.cells c ro):=by
    rintro o b (h | ⟨c,h1,h2,h3⟩)
    · exact .inl h
    · exact .inr ⟨c,h1,all_gA h2,h3⟩
  refine hf.frame (fun i=>if i=0 then b0 else if i=1 then b1 else b2) (Nat.le_refl 3) hv (fun i ob hi=>?_) ha hok
  cases i with
  | zero=>simp only [List.getElem?_cons_zero,Option.some.injEq]at hi;subst hi;exact key h0
  | succ i=>cases i with
    | zero=>simp only [List.getElem?_cons_succ,List.getElem?_cons_zero,Option.some.injEq]at hi;subst hi;exact key h1
    | succ i=>cases i with
      | zero=>simp only [List.getElem?_cons_succ,List.getElem?_cons_zero,Option.some.injEq]at hi;subst hi;exact key h2
      | succ i=>simp at hi
end
theorem cond_hd {α:Type}{b:Bool}{x y z:α}(h1:b=true→x=z) (h2:b=false→y=z):cond b x y=z:=by
  cases b with
  | true=>exact h1 rfl
  | false=>exact h2 rfl
end
end Go.Proofs.Ytfnogghclaijlaa.Old
namespace Go.Proofs.Ytfnogghclaijlaa.Old
open Go.Gi Go.RowKit
noncomputable section
def sdP (c:Array Value)(off:Nat)(x0 x1 x2:Int)(k:Nat):Bool :=
  decide (getInt c (off+k*5)=x0)&&(decide (getInt c (off+k*5+1)=x1)&&decide (getInt c (off+k*5+2)=x2))
def sdB (c:Array Value)(off:Nat)(x0 x1 x2:Int)(m k:Nat):Bool:=(fst (sdP c off x0 x1 x2) m k).isSome
def lastS (c:Array Value)(off:Nat)(x0:Int):Nat→Nat→Int→Int
  | 0,_,l=>l
  | m+1,k,l=>lastS c off x0 m (k+1) (if getInt c (off+k*5)=x0 then k else l)
end
end Go.Proofs.Ytfnogghclaijlaa.Old
namespace Go.Proofs.Ytfnogghclaijlaa.Old
open Go.Gi Go.RowKit
noncomputable section
set_option maxRecDepth 100000
theorem allsc {n:Nat}{c:Array Value}(h:c.toList.all g0=true):c.toList.all (sc1 n)=true:=by rw [List.all_eq_true]at h ⊢;exact fun x hx=>sc1_g0 (h x hx)
theorem at1_sc {n off l z:Nat}(h:1<n):sc1 n (.slice (some ⟨1,off,none⟩) l z)=true:=by simp [sc1,sc0,h]
def sdE (c0:Array Value)(off0 n:Nat)(c:Array Value)(off i:Nat):Int :=
  if inB (getInt c (off+i*5)) 0 ((n:Int)-1)=false then 4
  else if inB (getInt c (off+i*5+1)) 0 100000=false ∨
    inB (getInt c (off+i*5+2)) (getInt c0 (off0+(getInt c (off+i*5)).toNat*7+5)) (getInt c0 (off0+(getInt c (off+i*5)).toNat*7+6))=false ∨
    inB (getInt c (off+i*5+3)) (-20000) 20000=false∨inB (getInt c (off+i*5+4)) (-20000) 20000=false then 7
  else if sdB c off (getInt c (off+i*5)) (getInt c (off+i*5+1)) (getInt c (off+i*5+2)) i 0=true then 5
  else if getInt c0 (off0+(getInt c (off+i*5)).toNat*7+1)=2∧0≤lastS c off (getInt c (off+i*5)) i 0 (-1) ∧
    (getInt c (off+i*5+1)<getInt c (off+(lastS c off (getInt c (off+i*5)) i 0 (-1)).toNat*5+1) ∨
     getInt c (off+i*5+2)<getInt c (off+(lastS c off (getInt c (off+i*5)) i 0 (-1)).toNat*5+2)) then 2 else 0
end
end Go.Proofs.Ytfnogghclaijlaa.Old
namespace Go.Proofs.Ytfnogghclaijlaa.Old
open Go.Gi Go.RowKit
noncomputable section
def fB (p:Nat→Bool)(m k:Nat):Bool:=(fst p m k).isSome
def fI (p:Nat→Bool)(m k:Nat):Nat:=(fst p m k).getD 0
theorem fB_hit {p:Nat→Bool}{m i:Nat}(h:p i=true):fB p (m+1) i=true:=by simp [fB,fst_hit h]
theorem fI_hit {p:Nat→Bool}{m i:Nat}(h:p i=true):fI p (m+1) i=i:=by simp [fI,fst_hit h]
def srE (a:Option Addr)(H:List Ob)(k:Nat):Int:=srcE (arrOf a H) (offOf a) k
def srP (a:Option Addr)(H:List Ob)(k:Nat):Bool:=!decide (srE a H k=0)
def soE (a b:Option Addr)(n:Nat)(H:List Ob)(k:Nat):Int:=sdE (arrOf a H) (offOf a) n (arrOf b H) (offOf b) k
def soP (a b:Option Addr)(n:Nat)(H:List Ob)(k:Nat):Bool:=!decide (soE a b n H k=0)
def tmE (c:Array Value)(off k:Nat):Int :=
  if inB (getInt c (off+k)) 1 100000000=false then 7 else if 0<k∧getInt c (off+k)≤getInt c (off+(k-1)) then 2 else 0
def tmP (c:Array Value)(off k:Nat):Bool:=!decide (tmE c off k=0)
def grOb (o:Ob):Prop:=o=.dead∨∃c,o=.cells c true∧c.toList.all g0=true
end
end Go.Proofs.Ytfnogghclaijlaa.Old
namespace Go.Proofs.Ytfnogghclaijlaa.Old
open Go.Gi Go.RowKit
noncomputable section
set_option maxRecDepth 100000
theorem obSc_cells (n:Nat)(c:Array Value)(r:Bool):obSc n (.cells c r)=c.toList.all (sc1 n):=rfl
theorem nilOk_of {n l z:Nat}{a:Option Addr}(h:sc1 n (.slice a l z)=true):NilOk a l z:=by
  rintro rfl
  simp only [sc1,sc0,g0,Bool.and_eq_true,beq_iff_eq]at h
  exact h
theorem grOb_sc {n:Nat}{o:Ob}(h:grOb o):obSc n o=true:=by
  rcases h with rfl | ⟨c,rfl,h⟩
  · rfl
  · exact allsc h
theorem at2_sc {n off l z:Nat}(h:2<n):sc1 n (.slice (some ⟨2,off,none⟩) l z)=true:=by simp [sc1,sc0,h]
theorem isInt1 {c:Array Value}{off x:Nat}(h:rdOk c L1 (off+x*1)=true):isInt .i64 c (off+x)=true:=by
  rw [Nat.mul_one]at h
  simp only [rdOk,rdLeaf,Bool.and_eq_true]at h
  exact h.1
theorem nth3 {o0 o1 o2:Ob}(X:List Ob):∀{b:Nat},b<3→nthO (o0::o1::o2::X) b=nthO [o0,o1,o2] b
  | 0,_=>rfl
  | 1,_=>rfl
  | 2,_=>rfl
  | b+3,h=>absurd h (by omega)
theorem arr3 {o0 o1 o2:Ob}{X:List Ob}{a:Option Addr}{l z:Nat}(h:sc1 3 (.slice a l z)=true):arrOf a (o0::o1::o2::X)=arrOf a [o0,o1,o2]:=by
  cases a with
  | none=>rfl
  | some x =>
    simp only [sc1,sc0,decide_eq_true_eq]at h
    simp only [arrOf,cellsAt,nth3 X h]
theorem sliceL3 {L:List Leaf}{o0 o1 o2:Ob}{X:List Ob}{a:Option Addr} {l z n z':Nat}(h:sc1 3 (.slice a l z)=true) (hs:SliceL L a n z' [o0,o1,o2]):SliceL L a n z' (o0::o1::o2::X):=by
  rcases hs with rfl | ⟨b,off,rfl,rfl,hc,hg⟩
  · exact .inl rfl
  · simp only [sc1,sc0,decide_eq_true_eq]at h
    exact .inr ⟨b,off,rfl,rfl,by simpa only [isCells,nth3 X h] using hc,by simpa only [cellsAt,nth3 X h] using hg⟩
def ckR (a b d:Option Addr)(n n2 n3:Nat)(age shear:Int)(H:List Ob):Int×Int×Int :=
  if 6<n∨60<n2∨n3<1∨20<n3 then (1,0,3)
  else if fB (srP a H) n 0=true then (2,Int.ofNat (fI (srP a H) n 0),srE a H (fI (srP a H) n 0))
  else if fB (soP a b n H) n2 0=true then (3,Int.ofNat (fI (soP a b n H) n2 0),soE a b n H (fI (soP a b n H) n2 0))
  else if fB (tmP (arrOf d H) (offOf d)) n3 0=true then (4,Int.ofNat (fI (tmP (arrOf d H) (offOf d)) n3 0),tmE (arrOf d H) (offOf d) (fI (tmP (arrOf d H) (offOf d)) n3 0))
  else if inB age 0 1000=false∨inB shear 0 1000=false then (5,0,7) else (0,0,0)
def c21 (a b d:Option Addr)(n z n2 z2 n3 z3:Nat)(H:List Ob):Bool:=dec (SliceL L7 a n z H∧SliceL L5 b n2 z2 H∧SliceL L1 d n3 z3 H∧NilOk a n z∧NilOk b n2 z2∧NilOk d n3 z3)
def p21 (f:Nat):Ans
  | .call g ⟨[.agg ⟨[.slice a n z,.slice b n2 z2,.slice d n3 z3,.int .i64 age,.int .i64 shear]⟩]⟩ h=>(match Nat.beq g f with
    | true=>some (.br (c21 a b d n z n2 z2 n3 z3 h.bl) (.leaf (.ret (.tuple ⟨[.int .i64 (ckR a b d n n2 n3 age shear h.bl).1,.int .i64 (ckR a b d n n2 n3 age shear h.bl).2.1,.int .i64 (ckR a b d n n2 n3 age shear h.bl).2.2]⟩) h)) .no)
    | false=>none)
  | _=>none
theorem sdE_zero (c0:Array Value)(off0:Nat)(c:Array Value)(off i:Nat):sdE c0 off0 0 c off i=4:=by
  unfold sdE
  rw [if_pos]
  unfold inB
  simp only [Bool.and_eq_false_iff,decide_eq_false_iff_not]
  omega
theorem ckR_congr {a b d a' b' d':Option Addr}{n n2 n3:Nat}{age shear:Int} {H H':List Ob}(hA:n=0∨arrOf a' H'=arrOf a H) (hB:n2=0∨arrOf b' H'=arrOf b H) (hD:arrOf d' H'=arrOf d H)
    (oA:offOf a'=offOf a) (oB:offOf b'=offOf b) (oD:offOf d'=offOf d):ckR a' b' d' n n2 n3 age shear H'=ckR a b d n n2 n3 age shear H:=by
  have f0:∀p,fB p 0 0=false:=fun _=>rfl
  unfold ckR
  rw [hD,oD]
  have key:n2=0∨soE a' b' n H'=soE a b n H:=by
    rcases hB with h | hB
    · exact .inl h
    · refine .inr (funext fun k=>?_)
      unfold soE
      rcases hA with rfl | hA
      · rw [sdE_zero,sdE_zero]
      · rw [hA,hB,oA,oB]
  have key2:n=0∨srE a' H'=srE a H:=by
    rcases hA with h | hA
    · exact .inl h
    · refine .inr (funext fun k=>?_)
      unfold srE
      rw [hA,oA]
  have kp:n2=0∨soP a' b' n H'=soP a b n H:=by
    rcases key with h | h
    · exact .inl h
    · refine .inr (funext fun k=>?_)
      unfold soP;rw [h]
  have kp2:n=0∨srP a' H'=srP a H:=by
    rcases key2 with h | h
    · exact .inl h
    · refine .inr (funext fun k=>?_)
      unfold srP;rw [h]
  rcases key2 with rfl | h2
  · simp only [f0,Bool.false_eq_true,if_false]
    rcases key with rfl | h1
    · simp only [f0,Bool.false_eq_true,if_false]
    · rcases kp with rfl | h3
      · simp only [f0,Bool.false_eq_true,if_false]
      · rw [h1,h3]
  · rcases kp2 with rfl | h4
    · simp only [f0,Bool.false_eq_true,if_false]
      rcases key with rfl | h1
      · simp only [f0,Bool.false_eq_true,if_false]
      · rcases kp with rfl | h3
        · simp only [f0,Bool.false_eq_true,if_false]
        · rw [h1,h3]
    · rw [h2,h4]
      rcases key with rfl | h1
      · simp only [f0,Bool.false_eq_true,if_false]
      · rcases kp with rfl | h3
        · simp only [f0,Bool.false_eq_true,if_false]
        · rw [h1,h3]
theorem offOf_atB (k:Nat)(a:Option Addr):offOf (atB k a)=offOf a:=by cases a<;>rfl
end
end Go.Proofs.Ytfnogghclaijlaa.Old
namespace Go.Proofs.Ytfnogghclaijlaa.Old
open Go.Gi Go.RowKit
noncomputable section
def exS (c:Array Value)(off:Nat)(x0:Int):Nat→Bool
  | 0=>false
  | m+1=>if getInt c (off+m*5)=x0 then true else exS c off x0 m
def flS (c:Array Value)(off:Nat)(x0 x1 x2:Int):Nat→Bool
  | 0=>false
  | m+1=>if getInt c (off+m*5)=x0 then decide (x1<getInt c (off+m*5+1))||decide (x2<getInt c (off+m*5+2)) else flS c off x0 x1 x2 m
def ok106 (off:Nat)(c:Array Value)(n:Nat)(i:Int):Bool:=dec (GoodL L5 c off n∧-1≤i∧i<n∧n≤60)
def sh106:Shape
  | .code none (.loop code) ⟨t,[],⟨.cells c true::.cells ⟨[.int .i64 x0,.int .i64 x1,.int .i64 x2,.int .i64 x3,.int .i64 x4]⟩ false::G,1,[]⟩⟩ =>
    match Nat.beq (firstReg code) 2,lget t 0,lget t 3,lget t 5 with
    | true,.slice (some ⟨0,off,none⟩) n 5,.pointer (some ⟨1,0,none⟩),.int .i64 i=>some fun j =>
      .br (eqCode code (theLoop Try.prog 106 0)) (.br (Nat.beq t.length 35) (.br (ok106 off c n i) (.br (exS c off x0 (Int.toNat (i+1)))
          (loopEnd 35 .ret [(4,.bool (flS c off x0 x1 x2 (Int.toNat (i+1))))] ⟨.cells c true::.cells ⟨[.int .i64 x0,.int .i64 x1,.int .i64 x2,.int .i64 x3,.int .i64 x4]⟩ false::G,1,[]⟩ j)
          (loopEnd 35 (.exit 0) [] ⟨.cells c true::.cells ⟨[.int .i64 x0,.int .i64 x1,.int .i64 x2,.int .i64 x3,.int .i64 x4]⟩ false::G,1,[]⟩ j)) .no) .no) .no
    | _,_,_,_=>none
  | _=>none
def mes106:Task→Nat
  | .code _ _ s=>match lget s.t 5 with
    | .int _ i=>Int.toNat (i+1)
    | _=>0
  | _=>0
def pick106:Ex→List Nat
  | .ret=>[4]
  | _=>[]
end
end Go.Proofs.Ytfnogghclaijlaa.Old
namespace Go.Proofs.Ytfnogghclaijlaa.Old
open Go.Gi Go.RowKit
noncomputable section
set_option maxRecDepth 100000
theorem tree106 (J:Task→List Value)(off:Nat)(c:Array Value)(n:Nat)(i x0 x1 x2 x3 x4:Int)(M:Nat)(y:List Value) :
    evS Try.prog (((sh106.ans J).below mes106 M).or (fun _=>none)) 60 (.code none (.loop (theLoop Try.prog 106 0)) ⟨sets (junkF 35 y) [(0,.slice (some ⟨0,off,none⟩) n 5),(3,pp 1),(5,.int .i64 i)],[],⟨[.cells c true,.cells ⟨[.int .i64 x0,.int .i64 x1,.int .i64 x2,.int .i64 x3,.int .i64 x4]⟩ false],1,[]⟩⟩) (sumK 2 35 pick106) =
    cond (decide ((0:Int)≤i)) (cond (and (decide ((0:Int)≤i)) (decide (i<(Int.ofNat n)))) (cond (and true (rdOk c [(Leaf.int .i64),(Leaf.int .i64),(Leaf.int .i64),(Leaf.int .i64),(Leaf.int .i64)] (off+((Int.toNat i)*5)))) (cond (decide ((getInt c (off+((Int.toNat i)*5)))=x0)) (cond (decide (x1<(getInt c ((off+((Int.toNat i)*5))+1)))) (some (Out.ex Ex.ret (St.mk [(.bool true)] [] (Hp.mk [(Ob.cells c true),(Ob.cells ⟨[(.int .i64 x0),(.int .i64 x1),(.int .i64 x2),(.int .i64 x3),(.int .i64 x4)]⟩ false)] 35 [])))) (some (Out.ex Ex.ret (St.mk [(.bool (decide (x2<(getInt c (((off+((Int.toNat i)*5))+1)+1)))))] [] (Hp.mk [(Ob.cells c true),(Ob.cells ⟨[(.int .i64 x0),(.int .i64 x1),(.int .i64 x2),(.int .i64 x3),(.int .i64 x4)]⟩ false)] 35 []))))) (cond (Nat.blt (Int.toNat ((IntKind.wrap .i64 (i-(1:Int)))+(1:Int))) M) (cond (eqCode (theLoop Try.prog 106 0) (theLoop Try.prog 106 0)) (cond (ok106 off c n (IntKind.wrap .i64 (i-(1:Int))))
 (cond (exS c off x0 (Int.toNat ((IntKind.wrap .i64 (i-(1:Int)))+(1:Int)))) (some (Out.ex Ex.ret (St.mk [(.bool (flS c off x0 x1 x2 (Int.toNat ((IntKind.wrap .i64 (i-(1:Int)))+(1:Int)))))] [] (Hp.mk [(Ob.cells c true),(Ob.cells ⟨[(.int .i64 x0),(.int .i64 x1),(.int .i64 x2),(.int .i64 x3),(.int .i64 x4)]⟩ false)] 35 [])))) (some (Out.ex (Ex.exit 0) (St.mk [] [] (Hp.mk [(Ob.cells c true),(Ob.cells ⟨[(.int .i64 x0),(.int .i64 x1),(.int .i64 x2),(.int .i64 x3),(.int .i64 x4)]⟩ false)] 35 [])))))
 none)
 none)
 none))
 none)
 none) (some (Out.ex (Ex.exit 0) (St.mk [] [] (Hp.mk [(Ob.cells c true),(Ob.cells ⟨[(.int .i64 x0),(.int .i64 x1),(.int .i64 x2),(.int .i64 x3),(.int .i64 x4)]⟩ false)] 35 [])))):=by kernel_rfl
theorem tree106c (J:Task→List Value)(off:Nat)(c:Array Value)(n:Nat)(x0 x1 x2 x3 x4:Int) :
    evC Try.prog (sh106.ans J).c 60 (.call 106 ⟨[.slice (some ⟨0,off,none⟩) n 5,.agg ⟨[.int .i64 x0,.int .i64 x1,.int .i64 x2,.int .i64 x3,.int .i64 x4]⟩]⟩ ⟨[.cells c true],1,[]⟩) some =
    cond (eqCode (theLoop Try.prog 106 0) (theLoop Try.prog 106 0)) (cond (ok106 off c n (IntKind.wrap .i64 ((Int.ofNat n)-(1:Int)))) (cond (exS c off x0 (Int.toNat ((IntKind.wrap .i64 ((Int.ofNat n)-(1:Int)))+(1:Int)))) (some (Out.ret (.bool (flS c off x0 x1 x2 (Int.toNat ((IntKind.wrap .i64 ((Int.ofNat n)-(1:Int)))+(1:Int))))) (Hp.mk [(Ob.cells c true)] 1 []))) (some (Out.ret (.bool false) (Hp.mk [(Ob.cells c true)] 1 []))))
 none)
 none:=by kernel_rfl
theorem tree106z (a:Option Addr)(z:Nat)(x0 x1 x2 x3 x4:Int) :
    evC Try.prog (Ans.c fun _=>none) 60 (.call 106 ⟨[.slice a 0 z,.agg ⟨[.int .i64 x0,.int .i64 x1,.int .i64 x2,.int .i64 x3,.int .i64 x4]⟩]⟩ ⟨[.dead],1,[]⟩) some =
    some (Out.ret (Value.bool false) (Hp.mk [Ob.dead] 1 [])):=by kernel_rfl
theorem flS_false {c:Array Value}{off:Nat}{x0 x1 x2:Int}:∀{m:Nat},exS c off x0 m=false→flS c off x0 x1 x2 m=false
  | 0,_=>rfl
  | m+1,h=>by
    simp only [exS]at h
    simp only [flS]
    split at h
    · cases h
    · rename_i hx;rw [if_neg hx];exact flS_false h
theorem known106:∃J,Known Try.prog (sh106.ans J):=by
  refine Known.junk (Known.nothing _) mes106 sh106 ?_
  intro J t f hs hkn
  unfold sh106 at hs
  split at hs
  case h_2=>cases hs
  rename_i code t c x0 x1 x2 x3 x4 G
  split at hs
  case h_2=>cases hs
  rename_i off n i er e0 e3 e5
  simp only [Option.some.injEq]at hs
  subst hs
  refine ex_guard fun h1=>ex_guard fun h2=>ex_guard fun h3=>?_
  obtain rfl:=eqCode_eq h1
  have hl:t.length=35:=Nat.eq_of_beq_eq_true h2
  obtain ⟨hg,hi1,hin,hn⟩:=dec_iff.1 h3
  have q1:=allsc (n:=2) hg.1
  have hsc2:(([.cells c true,.cells ⟨[.int .i64 x0,.int .i64 x1,.int .i64 x2,.int .i64 x3,.int .i64 x4]⟩ false]:List Ob).all (obSc ([.cells c true,.cells ⟨[.int .i64 x0,.int .i64 x1,.int .i64 x2,.int .i64 x3,.int .i64 x4]⟩ false]:List Ob).length))=true:=by
    simp [obSc_cells,q1,int_sc]
  have hk2:=keptSelf hsc2
  have use:=fun e' vs hev he hvs=>hkn.loopLeaf (G:=G) noNG mixed (n:=60) (N0:=35) (N:=35) (live:=[(0,.slice (some ⟨0,off,none⟩) n 5),(3,pp 1),(5,.int .i64 i)])
    (H0:=[.cells c true,.cells ⟨[.int .i64 x0,.int .i64 x1,.int .i64 x2,.int .i64 x3,.int .i64 x4]⟩ false]) (pick:=pick106) (e:=e') (vs:=vs)
    (base:=1) (wr:=[]) (wr1:=[]) (c:=theLoop Try.prog 106 0) (t:=t) hev hl (by
      intro kv hm
      simp only [List.mem_cons,List.not_mem_nil,or_false]at hm
      rcases hm with rfl | rfl | rfl
      · exact ⟨e0,rfl,rfl⟩
      · exact ⟨e3,rfl,rfl⟩
      · exact ⟨e5,rfl,rfl⟩) (by simp) hsc2 hk2 he hvs
  simp only [List.length_cons,List.length_nil,Nat.zero_add,Nat.reduceAdd]at use
  rw [tree106]at use
  simp only [Int.ofNat_eq_natCast,Int.toNat_natCast]at use ⊢
  by_cases hi0:0≤i
  · obtain ⟨m,rfl⟩:=Int.eq_ofNat_of_zero_le hi0
    have hw:IntKind.i64.wrap ((m:Int)-1)=(m:Int)-1:=wrap64_id (by omega) (by omega)
    have hm1:Int.toNat ((m:Int)+1)=m+1:=by omega
    have hm2:Int.toNat ((m:Int)-1+1)=m:=by omega
    have hme:Nat.blt m (mes106 (.code none (.loop (theLoop Try.prog 106 0)) ⟨t,[],⟨.cells c true::.cells ⟨[.int .i64 x0,.int .i64 x1,.int .i64 x2,.int .i64 x3,.int .i64 x4]⟩ false::G,1,[]⟩⟩))=true:=by
      simp only [mes106,e5,hm1,Nat.blt_eq];omega
    have hok:ok106 off c n ((m:Int)-1)=true:=dec_iff.2 ⟨hg,by omega,by omega,hn⟩
    have x0':=hg.2 m (by omega)
    simp only [show L5.length=5 from rfl]at x0'
    have hkn2:(m:Int)<n:=hin
    rw [hm1]
    simp only [hw,Int.toNat_natCast,hm2,hi0,hkn2,decide_true,cond_true,Bool.true_and,Bool.and_self,eqCode_self,hme,hok,x0']at use
    by_cases hx:getInt c (off+m*5)=x0
    · have e1:exS c off x0 (m+1)=true:=by simp [exS,hx]
      have e2:flS c off x0 x1 x2 (m+1)=(decide (x1<getInt c (off+m*5+1))||decide (x2<getInt c (off+m*5+2))):=by simp [flS,hx]
      rw [e1,e2]
      refine use .ret [.bool (decide (x1<getInt c (off+m*5+1))||decide (x2<getInt c (off+m*5+2)))] ?_ rfl rfl
      simp only [hx,decide_true,cond_true]
      by_cases h4:x1<getInt c (off+m*5+1)
      · simp only [h4,decide_true,cond_true,Bool.true_or]
      · simp only [h4,decide_false,cond_false,Bool.false_or]
    · have e1:exS c off x0 (m+1)=exS c off x0 m:=by simp [exS,hx]
      have e2:flS c off x0 x1 x2 (m+1)=flS c off x0 x1 x2 m:=by simp [flS,hx]
      rw [e1,e2]
      cases hb:exS c off x0 m with
      | true =>
        rw [hb]at use
        refine use .ret [.bool (flS c off x0 x1 x2 m)] ?_ rfl rfl
        simp only [hx,decide_false,cond_false,cond_true]
      | false =>
        rw [hb]at use
        refine use (.exit 0) [] ?_ rfl rfl
        simp only [hx,decide_false,cond_false,cond_true]
  · have hm1:Int.toNat (i+1)=0:=by omega
    rw [hm1]
    refine use (.exit 0) [] ?_ rfl rfl
    simp only [hi0,decide_false,cond_false]
def c106 (a:Option Addr)(n z:Nat)(H:List Ob):Bool:=dec (SliceL L5 a n z H∧n≤60)
def p106:Ans
  | .call 106 ⟨[.slice a n z,.agg ⟨[.int .i64 x0,.int .i64 x1,.int .i64 x2,.int .i64 x3,.int .i64 x4]⟩]⟩ h =>
    some (.br (c106 a n z h.bl) (.leaf (.ret (.bool (flS (arrOf a h.bl) (offOf a) x0 x1 x2 n)) h)) .no)
  | _=>none
theorem known106c:Known Try.prog p106:=by
  obtain ⟨J,hJ⟩:=known106
  intro t xx o h ho
  unfold p106 at h
  split at h
  case h_2=>cases h
  rename_i a n z x0 x1 x2 x3 x4 hp
  simp only [Option.some.injEq]at h
  subst h
  simp only [AT.out]at ho
  obtain ⟨hok,ho⟩:=cond_some ho
  simp only [Option.some.injEq]at ho
  subst ho
  obtain ⟨hs,hn⟩:=dec_iff.1 hok
  rcases hs with rfl | ⟨b,off,rfl,rfl,hc,hgood⟩
  · have e:flS (arrOf a hp.bl) (offOf a) x0 x1 x2 0=false:=rfl
    rw [e]
    have eo:okR0 1 (.slice (atB 0 a) 0 z)=true:=atB_okR (by decide)
    refine frame0 (args1:=⟨[.slice (atB 0 a) 0 z,.agg ⟨[.int .i64 x0,.int .i64 x1,.int .i64 x2,.int .i64 x3,.int .i64 x4]⟩]⟩) (blkOf a) ((Known.nothing _).fact noNG mixed (tree106z (atB 0 a) z x0 x1 x2 x3 x4)) rfl ?_ ?_
    · simp only [List.map_toArray,List.map_cons,List.map_nil,ren1,ren0]
      rw [atB_ren (by simp)]
    · simp only [List.all_cons,List.all_nil,okR1,eo];rfl
  · refine frame1 (args1:=⟨[.slice (some ⟨0,off,none⟩) n 5,.agg ⟨[.int .i64 x0,.int .i64 x1,.int .i64 x2,.int .i64 x3,.int .i64 x4]⟩]⟩) b (hJ.fact noNG mixed (n:=60) ?_) rfl hgood.1 (cells_ok hc) (by simp [ren1,ren0,renA]) rfl
    rw [tree106c]
    have hw:IntKind.i64.wrap ((n:Int)-1)=(n:Int)-1:=wrap64_id (by omega) (by omega)
    have hm:Int.toNat ((n:Int)-1+1)=n:=by omega
    have hk:ok106 off (cellsAt hp.bl b) n ((n:Int)-1)=true:=dec_iff.2 ⟨hgood,by omega,by omega,hn⟩
    simp only [Int.ofNat_eq_natCast,hw,hm,hk,eqCode_self,cond_true,arrOf,offOf]
    cases hb:exS (cellsAt hp.bl b) off x0 n with
    | true=>rfl
    | false=>rw [flS_false hb];rfl
end
end Go.Proofs.Ytfnogghclaijlaa.Old
namespace Go.Proofs.Ytfnogghclaijlaa.Old
open Go.Gi Go.RowKit
noncomputable section
abbrev Es:=List (Value×Value)
def mkV (s:ByteArray)(a b c:Int):Value:=.agg ⟨[.string s,.int .i64 a,.int .i64 b,.int .i64 c]⟩
def isMk (k:Value):Prop:=∃s a b c,k=mkV s a b c
def TakenM (es:Es):Prop:=∀e∈es,isMk e.1∧e.2=.bool true
def keysM (es:Es):List Value:=es.map (·.1)
def tkL (es:Es)(k:Value):Bool:=dec (k∈keysM es)
def tkU (es:Es)(k:Value):Es:=es++[(k,.bool true)]
def rgE (c:Array Value)(x:Nat):Int :=
  if inB (getInt c (x+1)) 1 3=false then 2
  else if inB (getInt c (x+2)) 0 5000=false∨inB (getInt c (x+3)) 0 6000=false∨inB (getInt c (x+4)) 1 60000=false∨inB (getInt c (x+5)) 0 99999999=false ∨
    inB (getInt c (x+6)) 0 99999999=false∨getInt c (x+6)<getInt c (x+5) then 7 else 0
def nmK (c:Array Value)(x:Nat):Value:=mkV (getStr c x) 0 0 0
def seE (c:Array Value)(x:Nat)(es:Es):Int:=if nm (getStr c x)=false then 6 else if tkL es (nmK c x)=true then 5 else rgE c x
def seM (c:Array Value)(x:Nat)(es:Es):Es:=if nm (getStr c x)=false then es else if tkL es (nmK c x)=true then es else tkU es (nmK c x)
structure Sa where
  bad:Bool
  ix:Nat
  err:Int
  es:Es
def saR (c:Array Value)(off:Nat):Nat→Nat→Es→Sa
  | 0,_,es=>⟨false,0,0,es⟩
  | m+1,k,es=>if seE c (off+k*7) es=0 then saR c off m (k+1) (seM c (off+k*7) es) else ⟨true,k,seE c (off+k*7) es,seM c (off+k*7) es⟩
def saB (c:Array Value)(off m k:Nat)(es:Es):Bool:=(saR c off m k es).bad
def saI (c:Array Value)(off m k:Nat)(es:Es):Nat:=(saR c off m k es).ix
def saE (c:Array Value)(off m k:Nat)(es:Es):Int:=(saR c off m k es).err
def saM (c:Array Value)(off m k:Nat)(es:Es):Es:=(saR c off m k es).es
def okM (es:Es):Bool:=dec (TakenM es)
def okA20 (c:Array Value)(off n:Nat)(b d:Option Addr)(n2 z2 n3 z3:Nat)(o1 o2:Ob)(m k:Int) (off' n':Nat):Bool :=
  dec (off'=off∧n'=n∧GoodL L7 c off n∧sc1 3 (.slice b n2 z2)=true∧sc1 3 (.slice d n3 z3)=true∧grOb o1∧grOb o2∧n≤6∧m=n∧0≤k)
def sh20a:Shape
  | .code none (.loop code) ⟨t,[],⟨.cells c true::o1::o2::.cells ⟨[.slice (some ⟨0,off,none⟩) n 7,.slice b n2 z2,.slice d n3 z3,.int .i64 age,.int .i64 shear]⟩ false::.map es::G,3,[]⟩⟩ =>
    match Nat.beq (firstReg code) 5,lget t 1,lget t 5,lget t 39,lget t 40,lget t 41 with
    | true,.pointer (some ⟨3,0,none⟩),.map (some 4),.slice (some ⟨0,off',none⟩) n' 7,.int .i64 m,.int .i64 k=>some fun j => (.br (eqCode code (theLoop Try.prog 20 0)) (.br (Nat.beq t.length 96) (.br (okA20 c off n b d n2 z2 n3 z3 o1 o2 m k off' n') (.br (okM es) (.br (saB c off (n-k.toNat) k.toNat es)
          (loopEnd 96 .ret [(2,.int .i64 2),(3,.int .i64 (Int.ofNat (saI c off (n-k.toNat) k.toNat es))),(4,.int .i64 (saE c off (n-k.toNat) k.toNat es))]
            ⟨.cells c true::o1::o2::.cells ⟨[.slice (some ⟨0,off,none⟩) n 7,.slice b n2 z2,.slice d n3 z3,.int .i64 age,.int .i64 shear]⟩ false::.map (saM c off (n-k.toNat) k.toNat es)::G,3,[]⟩ j)
          (loopEnd 96 (.exit 0) [(1,pp 3),(5,.map (some 4))]
            ⟨.cells c true::o1::o2::.cells ⟨[.slice (some ⟨0,off,none⟩) n 7,.slice b n2 z2,.slice d n3 z3,.int .i64 age,.int .i64 shear]⟩ false::.map (saM c off (n-k.toNat) k.toNat es)::G,3,[]⟩ j)) .no) .no) .no) .no)
    | _,_,_,_,_,_=>none
  | _=>none
def mes20a:Task→Nat
  | .code _ _ s=>match lget s.t 40,lget s.t 41 with
    | .int _ n,.int _ i=>Nat.sub n.toNat i.toNat
    | _,_=>0
  | _=>0
def pick20 (l:List Nat):Ex→List Nat
  | .ret=>[2,3,4]
  | _=>l
end
end Go.Proofs.Ytfnogghclaijlaa.Old
namespace Go.Proofs.Ytfnogghclaijlaa.Old
open Go.Gi Go.RowKit
noncomputable section
set_option maxRecDepth 100000
def mkF : Array Field:=⟨[⟨"name",9,0,false,"","hangfire/wind",0⟩,⟨"source",3,1,false,"","hangfire/wind",16⟩,⟨"tick",3,2,false,"","hangfire/wind",24⟩,⟨"height",3,3,false,"","hangfire/wind",32⟩]⟩
theorem und161:Try.prog.underlying 161=some (.struct mkF):=by kernel_rfl
theorem und105:Try.prog.underlying 105=some (.map 161 4):=by kernel_rfl
theorem und9:Try.prog.underlying 9=some .string:=by kernel_rfl
theorem und3:Try.prog.underlying 3=some (.int .i64):=by kernel_rfl
theorem stood161:Try.prog.stoodInHeld 161=false:=by kernel_rfl
theorem prog_run (P:Program):pureRun P program=some P:=rfl
theorem part0 (s:ByteArray)(a b c:Int):pureRun Try.prog (part 9 ⟨[.string s,.int .i64 a,.int .i64 b,.int .i64 c]⟩ 0)=some (.string s):=by kernel_rfl
theorem part1 (s:ByteArray)(a b c:Int):pureRun Try.prog (part 3 ⟨[.string s,.int .i64 a,.int .i64 b,.int .i64 c]⟩ 1)=some (.int .i64 a):=by kernel_rfl
theorem part2 (s:ByteArray)(a b c:Int):pureRun Try.prog (part 3 ⟨[.string s,.int .i64 a,.int .i64 b,.int .i64 c]⟩ 2)=some (.int .i64 b):=by kernel_rfl
theorem part3 (s:ByteArray)(a b c:Int):pureRun Try.prog (part 3 ⟨[.string s,.int .i64 a,.int .i64 b,.int .i64 c]⟩ 3)=some (.int .i64 c):=by kernel_rfl
theorem eqMark1 (d:Nat) (s s':ByteArray) (a b c a' b' c':Int):pureRun Try.prog (Op.equalIn ((d+1)+1) 161 (mkV s a b c) (mkV s' a' b' c'))=some (s == s'&&(a == a'&&(b == b'&&c == c'))):=by
  have e0:=equalIn_string (P:=Try.prog) d und9 s s'
  have e1:=equalIn_int (P:=Try.prog) d und3 .i64 a a'
  have e2:=equalIn_int (P:=Try.prog) d und3 .i64 b b'
  have e3:=equalIn_int (P:=Try.prog) d und3 .i64 c c'
  generalize hd:d+1=d1 at e0 e1 e2 e3 ⊢
  rw [Op.equalIn]
  rw [pureRun_bind,pure_underlying und161,Option.bind_some]
  simp only [mkV]
  rw [pureRun_bind,prog_run,Option.bind_some,stood161]
  simp only [Bool.false_eq_true,if_false]
  rw [pureRun_bind]
  simp only [mkF,← Array.forIn_toList,List.forIn_cons,List.forIn_nil,pureRun_bind,Option.bind_some,part0,part1,part2,part3,e0,e1,e2,e3]
  have n0 : (("name" : String) ≠ "_") = True:=by simp
  have n1 : (("source" : String) ≠ "_") = True:=by simp
  have n2 : (("tick" : String) ≠ "_") = True:=by simp
  have n3 : (("height" : String) ≠ "_") = True:=by simp
  simp only [n0,n1,n2,n3,if_true,pureRun_bind,part0,part1,part2,part3,Option.bind_some,e0,e1,e2,e3]
  generalize (s == s')=p0
  generalize (a == a')=p1 at e1 ⊢
  generalize (b == b')=p2 at e2 ⊢
  generalize (c == c')=p3 at e3 ⊢
  have S:∀{α:Type} (x:α),pureRun Try.prog (pure x)=some x:=fun _=>rfl
  cases p0 with
  | false=>rfl
  | true =>
    simp only [Bool.not_true,Bool.false_eq_true,if_false,S,Option.bind_some,pureRun_bind,part1,part2,part3,e1]
    cases p1 with
    | false=>rfl
    | true =>
      simp only [Bool.not_true,Bool.false_eq_true,if_false,S,Option.bind_some,pureRun_bind,part1,part2,part3,e2]
      cases p2 with
      | false=>rfl
      | true =>
        simp only [Bool.not_true,Bool.false_eq_true,if_false,S,Option.bind_some,pureRun_bind,part1,part2,part3,e3]
        cases p3<;>rfl
theorem ba_eq (s s':ByteArray):(s == s')=true↔s=s':=by
  cases s with | mk d=>cases s' with | mk d' =>
  show (d == d')=true↔_
  rw [beq_iff_eq,ByteArray.mk.injEq]
theorem eqMark (s s':ByteArray) (a b c a' b' c':Int):pureRun Try.prog (Op.equal 161 (mkV s a b c) (mkV s' a' b' c'))=some (dec (mkV s' a' b' c'=mkV s a b c)):=by
  have h:=eqMark1 9998 s s' a b c a' b' c'
  refine Eq.trans h ?_
  congr 1
  rw [Bool.eq_iff_iff]
  simp only [Bool.and_eq_true,ba_eq,beq_iff_eq,dec_iff,mkV,Value.agg.injEq,Array.mk.injEq,List.cons.injEq,Value.string.injEq,Value.int.injEq,true_and,and_true]
  constructor
  · rintro ⟨rfl,rfl,rfl,rfl⟩;simp
  · rintro ⟨rfl,rfl,rfl,rfl⟩;simp
theorem find_mark {k:Value}(hk:isMk k):∀(l:List Value) (i:Nat),(∀x∈l,isMk x) →
    (k∈l∧∃j,aFind Try.prog 161 k l i=some (some (i+j))∧j<l.length)∨(k ∉ l∧aFind Try.prog 161 k l i=some none)
  | [],i,_=>.inr ⟨by simp,rfl⟩
  | x::r,i,h=>by
    obtain ⟨s,a,b,c,rfl⟩:=hk
    obtain ⟨s',a',b',c',hx⟩:=h x (List.mem_cons_self ..)
    subst hx
    have e:=eqMark s s' a b c a' b' c'
    simp only [aFind,e]
    by_cases hq:mkV s' a' b' c'=mkV s a b c
    · have hd:dec (mkV s' a' b' c'=mkV s a b c)=true:=dec_iff.2 hq
      rw [hd]
      rw [hq]
      exact .inl ⟨List.mem_cons_self ..,0,rfl,by simp⟩
    · have hd:dec (mkV s' a' b' c'=mkV s a b c)=false:=by cases h:dec (mkV s' a' b' c'=mkV s a b c) with | true=>exact absurd (dec_iff.1 h) hq | false=>rfl
      rw [hd]
      simp only
      rcases find_mark ⟨s,a,b,c,rfl⟩ r (i+1) (fun x hx=>h x (List.mem_cons_of_mem _ hx)) with ⟨h1,j,h2,h3⟩ | ⟨h1,h2⟩
      · exact .inl ⟨List.mem_cons_of_mem _ h1,j+1,by rw [h2];congr 2;omega,by simp;omega⟩
      · exact .inr ⟨by simp only [List.mem_cons,not_or];exact ⟨fun h=>hq h.symm,h1⟩,h2⟩
theorem check_mark {k:Value}(hk:isMk k) (e:Bool):pureRun Try.prog (Instr.checkKey e 10000 161 k)=some ():=by
  obtain ⟨s,a,b,c,rfl⟩:=hk
  cases e<;>kernel_rfl
theorem gr_mark {k:Value}(hk:isMk k):gr k=true:=by
  obtain ⟨s,a,b,c,rfl⟩:=hk
  rfl
theorem zero4:zeroB Try.prog 4=some (.bool false):=by kernel_rfl
theorem lkL_mark {k:Value}{es:Es}(hk:isMk k) (he:TakenM es):lkL Try.prog 105 k es=some (.bool (dec (k∈keysM es))):=by
  unfold lkL
  rw [und105]
  simp only [gr_mark hk,check_mark hk,und161,Option.isSome_some,and_self,if_true]
  have hm:∀x∈keysM es,isMk x:=by
    intro x hx
    simp only [keysM,List.mem_map]at hx
    obtain ⟨e,h1,rfl⟩:=hx
    exact (he e h1).1
  rcases find_mark hk (keysM es) 0 hm with ⟨h1,j,h2,h3⟩ | ⟨h1,h2⟩
  · rw [show es.map (·.1)=keysM es from rfl,h2]
    simp only [Nat.zero_add]
    have hj:j<es.length:=by simpa [keysM] using h3
    rw [List.getElem?_eq_getElem hj]
    have:=(he _ (List.getElem_mem hj)).2
    have hd:dec (k∈keysM es)=true:=dec_iff.2 h1
    simp only [this,hd]
  · rw [show es.map (·.1)=keysM es from rfl,h2]
    have hd:dec (k∈keysM es)=false:=by cases h:dec (k∈keysM es) with | true=>exact absurd (dec_iff.1 h) h1 | false=>rfl
    simp only [zero4,hd]
theorem upL_mark {k:Value}{es:Es}(hk:isMk k) (he:TakenM es) (hn:k ∉ keysM es):upL Try.prog 105 k (.bool true) es=some (es++[(k,.bool true)]):=by
  unfold upL
  rw [und105]
  simp only [gr_mark hk,check_mark hk,und161,Option.isSome_some,and_self,if_true]
  have hm:∀x∈keysM es,isMk x:=by
    intro x hx
    simp only [keysM,List.mem_map]at hx
    obtain ⟨e,h1,rfl⟩:=hx
    exact (he e h1).1
  rcases find_mark hk (keysM es) 0 hm with ⟨h1,_⟩ | ⟨h1,h2⟩
  · exact absurd h1 hn
  · rw [show es.map (·.1)=keysM es from rfl,h2]
theorem tree20a (J:Task→List Value)(c:Array Value)(off:Nat)(o1 o2:Ob)(b d:Option Addr)(n n2 z2 n3 z3:Nat)(es:Es)(m k age shear:Int)(M:Nat)(y:List Value) :
    evS Try.prog (((sh20a.ans J).below mes20a M).or (p22 22)) 60 (.code none (.loop (theLoop Try.prog 20 0)) ⟨sets (junkF 96 y) [(1,pp 3),(5,.map (some 4)),(39,.slice (some ⟨0,off,none⟩) n 7),(40,.int .i64 m),(41,.int .i64 k)],[],⟨[.cells c true,o1,o2,.cells ⟨[.slice (some ⟨0,off,none⟩) n 7,.slice b n2 z2,.slice d n3 z3,.int .i64 age,.int .i64 shear]⟩ false,.map es],3,[]⟩⟩) (sumK 5 96 (pick20 [1,5])) =
    cond (decide (k<m)) (cond (and (decide ((0:Int)≤k)) (decide (k<(Int.ofNat n)))) (cond (and true (rdOk c [Leaf.str,(Leaf.int .i64),(Leaf.int .i64),(Leaf.int .i64),(Leaf.int .i64),(Leaf.int .i64),(Leaf.int .i64)] (off+((Int.toNat k)*7)))) (cond (not (nm (getStr c (off+((Int.toNat k)*7))))) (some (Out.ex Ex.ret (St.mk [(.int .i64 (2:Int)),(.int .i64 k),(.int .i64 (6:Int))] [] (Hp.mk [(Ob.cells c true),o1,o2,(Ob.cells ⟨[(.slice (some (Addr.mk 0 off none)) n 7),(.slice b n2 z2),(.slice d n3 z3),(.int .i64 age),(.int .i64 shear)]⟩ false),(Ob.map es)] 96 [])))) (cond (lkIs Try.prog 105 (.agg ⟨[(.string (getStr c (off+((Int.toNat k)*7)))),(.int .i64 (0:Int)),(.int .i64 (0:Int)),(.int .i64 (0:Int))]⟩) es) (cond (lkOf Try.prog 105 (.agg ⟨[(.string (getStr c (off+((Int.toNat k)*7)))),(.int .i64 (0:Int)),(.int .i64 (0:Int)),(.int .i64 (0:Int))]⟩) es)
 (some (Out.ex Ex.ret (St.mk [(.int .i64 (2:Int)),(.int .i64 k),(.int .i64 (5:Int))] [] (Hp.mk [(Ob.cells c true),o1,o2,(Ob.cells ⟨[(.slice (some (Addr.mk 0 off none)) n 7),(.slice b n2 z2),(.slice d n3 z3),(.int .i64 age),(.int .i64 shear)]⟩ false),(Ob.map es)] 96 [])))) (cond (upIs Try.prog 105 (.agg ⟨[(.string (getStr c (off+((Int.toNat k)*7)))),(.int .i64 (0:Int)),(.int .i64 (0:Int)),(.int .i64 (0:Int))]⟩) (.bool true) es) (cond (mapSc ((((((1+1)+1)+1)+1)+1)+1) (upOf Try.prog 105 (.agg ⟨[(.string (getStr c (off+((Int.toNat k)*7)))),(.int .i64 (0:Int)),(.int .i64 (0:Int)),(.int .i64 (0:Int))]⟩) (.bool true) es)) (cond (not (decide ((getInt c ((off+((Int.toNat k)*7))+1))=(1:Int)))) (cond (not (decide ((getInt c ((off+((Int.toNat k)*7))+1))=(2:Int)))) (cond (not (decide ((getInt c ((off+((Int.toNat k)*7))+1))=(3:Int))))
 (cond (mapSc (((((1+1)+1)+1)+1)+1) (upOf Try.prog 105 (.agg ⟨[(.string (getStr c (off+((Int.toNat k)*7)))),(.int .i64 (0:Int)),(.int .i64 (0:Int)),(.int .i64 (0:Int))]⟩) (.bool true) es)) (some (Out.ex Ex.ret (St.mk [(.int .i64 (2:Int)),(.int .i64 k),(.int .i64 (2:Int))] [] (Hp.mk [(Ob.cells c true),o1,o2,(Ob.cells ⟨[(.slice (some (Addr.mk 0 off none)) n 7),(.slice b n2 z2),(.slice d n3 z3),(.int .i64 age),(.int .i64 shear)]⟩ false),(Ob.map (upOf Try.prog 105 (.agg ⟨[(.string (getStr c (off+((Int.toNat k)*7)))),(.int .i64 (0:Int)),(.int .i64 (0:Int)),(.int .i64 (0:Int))]⟩) (.bool true) es))] 96 []))))
 none) (cond (decide ((getInt c (((off+((Int.toNat k)*7))+1)+1))<(0:Int))) (cond (mapSc (((((1+1)+1)+1)+1)+1) (upOf Try.prog 105 (.agg ⟨[(.string (getStr c (off+((Int.toNat k)*7)))),(.int .i64 (0:Int)),(.int .i64 (0:Int)),(.int .i64 (0:Int))]⟩) (.bool true) es)) (some (Out.ex Ex.ret (St.mk [(.int .i64 (2:Int)),(.int .i64 k),(.int .i64 (7:Int))] [] (Hp.mk [(Ob.cells c true),o1,o2,(Ob.cells ⟨[(.slice (some (Addr.mk 0 off none)) n 7),(.slice b n2 z2),(.slice d n3 z3),(.int .i64 age),(.int .i64 shear)]⟩ false),(Ob.map (upOf Try.prog 105 (.agg ⟨[(.string (getStr c (off+((Int.toNat k)*7)))),(.int .i64 (0:Int)),(.int .i64 (0:Int)),(.int .i64 (0:Int))]⟩) (.bool true) es))] 96 []))))
 none) (cond (decide ((5000:Int)<(getInt c (((off+((Int.toNat k)*7))+1)+1)))) (cond (mapSc (((((1+1)+1)+1)+1)+1) (upOf Try.prog 105 (.agg ⟨[(.string (getStr c (off+((Int.toNat k)*7)))),(.int .i64 (0:Int)),(.int .i64 (0:Int)),(.int .i64 (0:Int))]⟩) (.bool true) es)) (some (Out.ex Ex.ret (St.mk [(.int .i64 (2:Int)),(.int .i64 k),(.int .i64 (7:Int))] [] (Hp.mk [(Ob.cells c true),o1,o2,(Ob.cells ⟨[(.slice (some (Addr.mk 0 off none)) n 7),(.slice b n2 z2),(.slice d n3 z3),(.int .i64 age),(.int .i64 shear)]⟩ false),(Ob.map (upOf Try.prog 105 (.agg ⟨[(.string (getStr c (off+((Int.toNat k)*7)))),(.int .i64 (0:Int)),(.int .i64 (0:Int)),(.int .i64 (0:Int))]⟩) (.bool true) es))] 96 []))))
 none) (cond (decide ((getInt c ((((off+((Int.toNat k)*7))+1)+1)+1))<(0:Int))) (cond (mapSc (((((1+1)+1)+1)+1)+1) (upOf Try.prog 105 (.agg ⟨[(.string (getStr c (off+((Int.toNat k)*7)))),(.int .i64 (0:Int)),(.int .i64 (0:Int)),(.int .i64 (0:Int))]⟩) (.bool true) es)) (some (Out.ex Ex.ret (St.mk [(.int .i64 (2:Int)),(.int .i64 k),(.int .i64 (7:Int))] [] (Hp.mk [(Ob.cells c true),o1,o2,(Ob.cells ⟨[(.slice (some (Addr.mk 0 off none)) n 7),(.slice b n2 z2),(.slice d n3 z3),(.int .i64 age),(.int .i64 shear)]⟩ false),(Ob.map (upOf Try.prog 105 (.agg ⟨[(.string (getStr c (off+((Int.toNat k)*7)))),(.int .i64 (0:Int)),(.int .i64 (0:Int)),(.int .i64 (0:Int))]⟩) (.bool true) es))] 96 []))))
 none) (cond (decide ((6000:Int)<(getInt c ((((off+((Int.toNat k)*7))+1)+1)+1)))) (cond (mapSc (((((1+1)+1)+1)+1)+1) (upOf Try.prog 105 (.agg ⟨[(.string (getStr c (off+((Int.toNat k)*7)))),(.int .i64 (0:Int)),(.int .i64 (0:Int)),(.int .i64 (0:Int))]⟩) (.bool true) es)) (some (Out.ex Ex.ret (St.mk [(.int .i64 (2:Int)),(.int .i64 k),(.int .i64 (7:Int))] [] (Hp.mk [(Ob.cells c true),o1,o2,(Ob.cells ⟨[(.slice (some (Addr.mk 0 off none)) n 7),(.slice b n2 z2),(.slice d n3 z3),(.int .i64 age),(.int .i64 shear)]⟩ false),(Ob.map (upOf Try.prog 105 (.agg ⟨[(.string (getStr c (off+((Int.toNat k)*7)))),(.int .i64 (0:Int)),(.int .i64 (0:Int)),(.int .i64 (0:Int))]⟩) (.bool true) es))] 96 []))))
 none) (cond (decide ((getInt c (((((off+((Int.toNat k)*7))+1)+1)+1)+1))<(1:Int))) (cond (mapSc (((((1+1)+1)+1)+1)+1) (upOf Try.prog 105 (.agg ⟨[(.string (getStr c (off+((Int.toNat k)*7)))),(.int .i64 (0:Int)),(.int .i64 (0:Int)),(.int .i64 (0:Int))]⟩) (.bool true) es)) (some (Out.ex Ex.ret (St.mk [(.int .i64 (2:Int)),(.int .i64 k),(.int .i64 (7:Int))] [] (Hp.mk [(Ob.cells c true),o1,o2,(Ob.cells ⟨[(.slice (some (Addr.mk 0 off none)) n 7),(.slice b n2 z2),(.slice d n3 z3),(.int .i64 age),(.int .i64 shear)]⟩ false),(Ob.map (upOf Try.prog 105 (.agg ⟨[(.string (getStr c (off+((Int.toNat k)*7)))),(.int .i64 (0:Int)),(.int .i64 (0:Int)),(.int .i64 (0:Int))]⟩) (.bool true) es))] 96 []))))
 none) (cond (decide ((60000:Int)<(getInt c (((((off+((Int.toNat k)*7))+1)+1)+1)+1)))) (cond (mapSc (((((1+1)+1)+1)+1)+1) (upOf Try.prog 105 (.agg ⟨[(.string (getStr c (off+((Int.toNat k)*7)))),(.int .i64 (0:Int)),(.int .i64 (0:Int)),(.int .i64 (0:Int))]⟩) (.bool true) es)) (some (Out.ex Ex.ret (St.mk [(.int .i64 (2:Int)),(.int .i64 k),(.int .i64 (7:Int))] [] (Hp.mk [(Ob.cells c true),o1,o2,(Ob.cells ⟨[(.slice (some (Addr.mk 0 off none)) n 7),(.slice b n2 z2),(.slice d n3 z3),(.int .i64 age),(.int .i64 shear)]⟩ false),(Ob.map (upOf Try.prog 105 (.agg ⟨[(.string (getStr c (off+((Int.toNat k)*7)))),(.int .i64 (0:Int)),(.int .i64 (0:Int)),(.int .i64 (0:Int))]⟩) (.bool true) es))] 96 []))))
 none) (cond (decide ((0:Int)≤(getInt c ((((((off+((Int.toNat k)*7))+1)+1)+1)+1)+1)))) (cond (not (decide ((getInt c ((((((off+((Int.toNat k)*7))+1)+1)+1)+1)+1))<(100000000:Int)))) (cond (mapSc (((((1+1)+1)+1)+1)+1) (upOf Try.prog 105 (.agg ⟨[(.string (getStr c (off+((Int.toNat k)*7)))),(.int .i64 (0:Int)),(.int .i64 (0:Int)),(.int .i64 (0:Int))]⟩) (.bool true) es)) (some (Out.ex Ex.ret (St.mk [(.int .i64 (2:Int)),(.int .i64 k),(.int .i64 (7:Int))] [] (Hp.mk [(Ob.cells c true),o1,o2,(Ob.cells ⟨[(.slice (some (Addr.mk 0 off none)) n 7),(.slice b n2 z2),(.slice d n3 z3),(.int .i64 age),(.int .i64 shear)]⟩ false),(Ob.map (upOf Try.prog 105 (.agg ⟨[(.string (getStr c (off+((Int.toNat k)*7)))),(.int .i64 (0:Int)),(.int .i64 (0:Int)),(.int .i64 (0:Int))]⟩) (.bool true) es))] 96 []))))
 none) (cond (decide ((0:Int)≤(getInt c (((((((off+((Int.toNat k)*7))+1)+1)+1)+1)+1)+1)))) (cond (not (decide ((getInt c (((((((off+((Int.toNat k)*7))+1)+1)+1)+1)+1)+1))<(100000000:Int)))) (cond (mapSc (((((1+1)+1)+1)+1)+1) (upOf Try.prog 105 (.agg ⟨[(.string (getStr c (off+((Int.toNat k)*7)))),(.int .i64 (0:Int)),(.int .i64 (0:Int)),(.int .i64 (0:Int))]⟩) (.bool true) es)) (some (Out.ex Ex.ret (St.mk [(.int .i64 (2:Int)),(.int .i64 k),(.int .i64 (7:Int))] [] (Hp.mk [(Ob.cells c true),o1,o2,(Ob.cells ⟨[(.slice (some (Addr.mk 0 off none)) n 7),(.slice b n2 z2),(.slice d n3 z3),(.int .i64 age),(.int .i64 shear)]⟩ false),(Ob.map (upOf Try.prog 105 (.agg ⟨[(.string (getStr c (off+((Int.toNat k)*7)))),(.int .i64 (0:Int)),(.int .i64 (0:Int)),(.int .i64 (0:Int))]⟩) (.bool true) es))] 96 []))))
 none) (cond (decide ((getInt c (((((((off+((Int.toNat k)*7))+1)+1)+1)+1)+1)+1))<(getInt c ((((((off+((Int.toNat k)*7))+1)+1)+1)+1)+1)))) (cond (mapSc (((((1+1)+1)+1)+1)+1) (upOf Try.prog 105 (.agg ⟨[(.string (getStr c (off+((Int.toNat k)*7)))),(.int .i64 (0:Int)),(.int .i64 (0:Int)),(.int .i64 (0:Int))]⟩) (.bool true) es)) (some (Out.ex Ex.ret (St.mk [(.int .i64 (2:Int)),(.int .i64 k),(.int .i64 (7:Int))] [] (Hp.mk [(Ob.cells c true),o1,o2,(Ob.cells ⟨[(.slice (some (Addr.mk 0 off none)) n 7),(.slice b n2 z2),(.slice d n3 z3),(.int .i64 age),(.int .i64 shear)]⟩ false),(Ob.map (upOf Try.prog 105 (.agg ⟨[(.string (getStr c (off+((Int.toNat k)*7)))),(.int .i64 (0:Int)),(.int .i64 (0:Int)),(.int .i64 (0:Int))]⟩) (.bool true) es))] 96 []))))
 none) (cond (mapSc (((((1+1)+1)+1)+1)+1) (upOf Try.prog 105 (.agg ⟨[(.string (getStr c (off+((Int.toNat k)*7)))),(.int .i64 (0:Int)),(.int .i64 (0:Int)),(.int .i64 (0:Int))]⟩) (.bool true) es)) (cond (Nat.blt (Nat.sub (Int.toNat m) (Int.toNat (IntKind.wrap .i64 (k+(1:Int))))) M) (cond (eqCode (theLoop Try.prog 20 0) (theLoop Try.prog 20 0)) (cond (okA20 c off n b d n2 z2 n3 z3 o1 o2 m (IntKind.wrap .i64 (k+(1:Int))) off n) (cond (okM (upOf Try.prog 105 (.agg ⟨[(.string (getStr c (off+((Int.toNat k)*7)))),(.int .i64 (0:Int)),(.int .i64 (0:Int)),(.int .i64 (0:Int))]⟩) (.bool true) es)) (cond (saB c off (n-(Int.toNat (IntKind.wrap .i64 (k+(1:Int))))) (Int.toNat (IntKind.wrap .i64 (k+(1:Int)))) (upOf Try.prog 105 (.agg ⟨[(.string (getStr c (off+((Int.toNat k)*7)))),(.int .i64 (0:Int)),(.int .i64 (0:Int)),(.int .i64 (0:Int))]⟩) (.bool true) es))
 (some (Out.ex Ex.ret (St.mk [(.int .i64 (2:Int)),(.int .i64 (Int.ofNat (saI c off (n-(Int.toNat (IntKind.wrap .i64 (k+(1:Int))))) (Int.toNat (IntKind.wrap .i64 (k+(1:Int)))) (upOf Try.prog 105 (.agg ⟨[(.string (getStr c (off+((Int.toNat k)*7)))),(.int .i64 (0:Int)),(.int .i64 (0:Int)),(.int .i64 (0:Int))]⟩) (.bool true) es)))),(.int .i64 (saE c off (n-(Int.toNat (IntKind.wrap .i64 (k+(1:Int))))) (Int.toNat (IntKind.wrap .i64 (k+(1:Int)))) (upOf Try.prog 105 (.agg ⟨[(.string (getStr c (off+((Int.toNat k)*7)))),(.int .i64 (0:Int)),(.int .i64 (0:Int)),(.int .i64 (0:Int))]⟩) (.bool true) es)))] [] (Hp.mk [(Ob.cells c true),o1,o2,(Ob.cells ⟨[(.slice (some (Addr.mk 0 off none)) n 7),(.slice b n2 z2),(.slice d n3 z3),(.int .i64 age),(.int .i64 shear)]⟩ false),(Ob.map (saM c off (n-(Int.toNat (IntKind.wrap .i64 (k+(1:Int))))) (Int.toNat (IntKind.wrap .i64 (k+(1:Int)))) (upOf Try.prog 105 (.agg ⟨[(.string (getStr c (off+((Int.toNat k)*7)))),(.int .i64 (0:Int)),(.int .i64 (0:Int)),(.int .i64 (0:Int))]⟩) (.bool true) es)))] 96 []))))
 (some (Out.ex (Ex.exit 0) (St.mk [(.pointer (some (Addr.mk 3 0 none))),(.map (some 4))] [] (Hp.mk [(Ob.cells c true),o1,o2,(Ob.cells ⟨[(.slice (some (Addr.mk 0 off none)) n 7),(.slice b n2 z2),(.slice d n3 z3),(.int .i64 age),(.int .i64 shear)]⟩ false),(Ob.map (saM c off (n-(Int.toNat (IntKind.wrap .i64 (k+(1:Int))))) (Int.toNat (IntKind.wrap .i64 (k+(1:Int)))) (upOf Try.prog 105 (.agg ⟨[(.string (getStr c (off+((Int.toNat k)*7)))),(.int .i64 (0:Int)),(.int .i64 (0:Int)),(.int .i64 (0:Int))]⟩) (.bool true) es)))] 96 [])))))
 none)
 none)
 none)
 none)
 none))) (cond (mapSc (((((1+1)+1)+1)+1)+1) (upOf Try.prog 105 (.agg ⟨[(.string (getStr c (off+((Int.toNat k)*7)))),(.int .i64 (0:Int)),(.int .i64 (0:Int)),(.int .i64 (0:Int))]⟩) (.bool true) es)) (some (Out.ex Ex.ret (St.mk [(.int .i64 (2:Int)),(.int .i64 k),(.int .i64 (7:Int))] [] (Hp.mk [(Ob.cells c true),o1,o2,(Ob.cells ⟨[(.slice (some (Addr.mk 0 off none)) n 7),(.slice b n2 z2),(.slice d n3 z3),(.int .i64 age),(.int .i64 shear)]⟩ false),(Ob.map (upOf Try.prog 105 (.agg ⟨[(.string (getStr c (off+((Int.toNat k)*7)))),(.int .i64 (0:Int)),(.int .i64 (0:Int)),(.int .i64 (0:Int))]⟩) (.bool true) es))] 96 []))))
 none))) (cond (mapSc (((((1+1)+1)+1)+1)+1) (upOf Try.prog 105 (.agg ⟨[(.string (getStr c (off+((Int.toNat k)*7)))),(.int .i64 (0:Int)),(.int .i64 (0:Int)),(.int .i64 (0:Int))]⟩) (.bool true) es)) (some (Out.ex Ex.ret (St.mk [(.int .i64 (2:Int)),(.int .i64 k),(.int .i64 (7:Int))] [] (Hp.mk [(Ob.cells c true),o1,o2,(Ob.cells ⟨[(.slice (some (Addr.mk 0 off none)) n 7),(.slice b n2 z2),(.slice d n3 z3),(.int .i64 age),(.int .i64 shear)]⟩ false),(Ob.map (upOf Try.prog 105 (.agg ⟨[(.string (getStr c (off+((Int.toNat k)*7)))),(.int .i64 (0:Int)),(.int .i64 (0:Int)),(.int .i64 (0:Int))]⟩) (.bool true) es))] 96 []))))
 none))))))))) (cond (decide ((getInt c (((off+((Int.toNat k)*7))+1)+1))<(0:Int))) (cond (mapSc (((((1+1)+1)+1)+1)+1) (upOf Try.prog 105 (.agg ⟨[(.string (getStr c (off+((Int.toNat k)*7)))),(.int .i64 (0:Int)),(.int .i64 (0:Int)),(.int .i64 (0:Int))]⟩) (.bool true) es)) (some (Out.ex Ex.ret (St.mk [(.int .i64 (2:Int)),(.int .i64 k),(.int .i64 (7:Int))] [] (Hp.mk [(Ob.cells c true),o1,o2,(Ob.cells ⟨[(.slice (some (Addr.mk 0 off none)) n 7),(.slice b n2 z2),(.slice d n3 z3),(.int .i64 age),(.int .i64 shear)]⟩ false),(Ob.map (upOf Try.prog 105 (.agg ⟨[(.string (getStr c (off+((Int.toNat k)*7)))),(.int .i64 (0:Int)),(.int .i64 (0:Int)),(.int .i64 (0:Int))]⟩) (.bool true) es))] 96 []))))
 none) (cond (decide ((5000:Int)<(getInt c (((off+((Int.toNat k)*7))+1)+1)))) (cond (mapSc (((((1+1)+1)+1)+1)+1) (upOf Try.prog 105 (.agg ⟨[(.string (getStr c (off+((Int.toNat k)*7)))),(.int .i64 (0:Int)),(.int .i64 (0:Int)),(.int .i64 (0:Int))]⟩) (.bool true) es)) (some (Out.ex Ex.ret (St.mk [(.int .i64 (2:Int)),(.int .i64 k),(.int .i64 (7:Int))] [] (Hp.mk [(Ob.cells c true),o1,o2,(Ob.cells ⟨[(.slice (some (Addr.mk 0 off none)) n 7),(.slice b n2 z2),(.slice d n3 z3),(.int .i64 age),(.int .i64 shear)]⟩ false),(Ob.map (upOf Try.prog 105 (.agg ⟨[(.string (getStr c (off+((Int.toNat k)*7)))),(.int .i64 (0:Int)),(.int .i64 (0:Int)),(.int .i64 (0:Int))]⟩) (.bool true) es))] 96 []))))
 none) (cond (decide ((getInt c ((((off+((Int.toNat k)*7))+1)+1)+1))<(0:Int))) (cond (mapSc (((((1+1)+1)+1)+1)+1) (upOf Try.prog 105 (.agg ⟨[(.string (getStr c (off+((Int.toNat k)*7)))),(.int .i64 (0:Int)),(.int .i64 (0:Int)),(.int .i64 (0:Int))]⟩) (.bool true) es)) (some (Out.ex Ex.ret (St.mk [(.int .i64 (2:Int)),(.int .i64 k),(.int .i64 (7:Int))] [] (Hp.mk [(Ob.cells c true),o1,o2,(Ob.cells ⟨[(.slice (some (Addr.mk 0 off none)) n 7),(.slice b n2 z2),(.slice d n3 z3),(.int .i64 age),(.int .i64 shear)]⟩ false),(Ob.map (upOf Try.prog 105 (.agg ⟨[(.string (getStr c (off+((Int.toNat k)*7)))),(.int .i64 (0:Int)),(.int .i64 (0:Int)),(.int .i64 (0:Int))]⟩) (.bool true) es))] 96 []))))
 none) (cond (decide ((6000:Int)<(getInt c ((((off+((Int.toNat k)*7))+1)+1)+1)))) (cond (mapSc (((((1+1)+1)+1)+1)+1) (upOf Try.prog 105 (.agg ⟨[(.string (getStr c (off+((Int.toNat k)*7)))),(.int .i64 (0:Int)),(.int .i64 (0:Int)),(.int .i64 (0:Int))]⟩) (.bool true) es)) (some (Out.ex Ex.ret (St.mk [(.int .i64 (2:Int)),(.int .i64 k),(.int .i64 (7:Int))] [] (Hp.mk [(Ob.cells c true),o1,o2,(Ob.cells ⟨[(.slice (some (Addr.mk 0 off none)) n 7),(.slice b n2 z2),(.slice d n3 z3),(.int .i64 age),(.int .i64 shear)]⟩ false),(Ob.map (upOf Try.prog 105 (.agg ⟨[(.string (getStr c (off+((Int.toNat k)*7)))),(.int .i64 (0:Int)),(.int .i64 (0:Int)),(.int .i64 (0:Int))]⟩) (.bool true) es))] 96 []))))
 none) (cond (decide ((getInt c (((((off+((Int.toNat k)*7))+1)+1)+1)+1))<(1:Int))) (cond (mapSc (((((1+1)+1)+1)+1)+1) (upOf Try.prog 105 (.agg ⟨[(.string (getStr c (off+((Int.toNat k)*7)))),(.int .i64 (0:Int)),(.int .i64 (0:Int)),(.int .i64 (0:Int))]⟩) (.bool true) es)) (some (Out.ex Ex.ret (St.mk [(.int .i64 (2:Int)),(.int .i64 k),(.int .i64 (7:Int))] [] (Hp.mk [(Ob.cells c true),o1,o2,(Ob.cells ⟨[(.slice (some (Addr.mk 0 off none)) n 7),(.slice b n2 z2),(.slice d n3 z3),(.int .i64 age),(.int .i64 shear)]⟩ false),(Ob.map (upOf Try.prog 105 (.agg ⟨[(.string (getStr c (off+((Int.toNat k)*7)))),(.int .i64 (0:Int)),(.int .i64 (0:Int)),(.int .i64 (0:Int))]⟩) (.bool true) es))] 96 []))))
 none) (cond (decide ((60000:Int)<(getInt c (((((off+((Int.toNat k)*7))+1)+1)+1)+1)))) (cond (mapSc (((((1+1)+1)+1)+1)+1) (upOf Try.prog 105 (.agg ⟨[(.string (getStr c (off+((Int.toNat k)*7)))),(.int .i64 (0:Int)),(.int .i64 (0:Int)),(.int .i64 (0:Int))]⟩) (.bool true) es)) (some (Out.ex Ex.ret (St.mk [(.int .i64 (2:Int)),(.int .i64 k),(.int .i64 (7:Int))] [] (Hp.mk [(Ob.cells c true),o1,o2,(Ob.cells ⟨[(.slice (some (Addr.mk 0 off none)) n 7),(.slice b n2 z2),(.slice d n3 z3),(.int .i64 age),(.int .i64 shear)]⟩ false),(Ob.map (upOf Try.prog 105 (.agg ⟨[(.string (getStr c (off+((Int.toNat k)*7)))),(.int .i64 (0:Int)),(.int .i64 (0:Int)),(.int .i64 (0:Int))]⟩) (.bool true) es))] 96 []))))
 none) (cond (decide ((0:Int)≤(getInt c ((((((off+((Int.toNat k)*7))+1)+1)+1)+1)+1)))) (cond (not (decide ((getInt c ((((((off+((Int.toNat k)*7))+1)+1)+1)+1)+1))<(100000000:Int)))) (cond (mapSc (((((1+1)+1)+1)+1)+1) (upOf Try.prog 105 (.agg ⟨[(.string (getStr c (off+((Int.toNat k)*7)))),(.int .i64 (0:Int)),(.int .i64 (0:Int)),(.int .i64 (0:Int))]⟩) (.bool true) es)) (some (Out.ex Ex.ret (St.mk [(.int .i64 (2:Int)),(.int .i64 k),(.int .i64 (7:Int))] [] (Hp.mk [(Ob.cells c true),o1,o2,(Ob.cells ⟨[(.slice (some (Addr.mk 0 off none)) n 7),(.slice b n2 z2),(.slice d n3 z3),(.int .i64 age),(.int .i64 shear)]⟩ false),(Ob.map (upOf Try.prog 105 (.agg ⟨[(.string (getStr c (off+((Int.toNat k)*7)))),(.int .i64 (0:Int)),(.int .i64 (0:Int)),(.int .i64 (0:Int))]⟩) (.bool true) es))] 96 []))))
 none) (cond (decide ((0:Int)≤(getInt c (((((((off+((Int.toNat k)*7))+1)+1)+1)+1)+1)+1)))) (cond (not (decide ((getInt c (((((((off+((Int.toNat k)*7))+1)+1)+1)+1)+1)+1))<(100000000:Int)))) (cond (mapSc (((((1+1)+1)+1)+1)+1) (upOf Try.prog 105 (.agg ⟨[(.string (getStr c (off+((Int.toNat k)*7)))),(.int .i64 (0:Int)),(.int .i64 (0:Int)),(.int .i64 (0:Int))]⟩) (.bool true) es)) (some (Out.ex Ex.ret (St.mk [(.int .i64 (2:Int)),(.int .i64 k),(.int .i64 (7:Int))] [] (Hp.mk [(Ob.cells c true),o1,o2,(Ob.cells ⟨[(.slice (some (Addr.mk 0 off none)) n 7),(.slice b n2 z2),(.slice d n3 z3),(.int .i64 age),(.int .i64 shear)]⟩ false),(Ob.map (upOf Try.prog 105 (.agg ⟨[(.string (getStr c (off+((Int.toNat k)*7)))),(.int .i64 (0:Int)),(.int .i64 (0:Int)),(.int .i64 (0:Int))]⟩) (.bool true) es))] 96 []))))
 none) (cond (decide ((getInt c (((((((off+((Int.toNat k)*7))+1)+1)+1)+1)+1)+1))<(getInt c ((((((off+((Int.toNat k)*7))+1)+1)+1)+1)+1)))) (cond (mapSc (((((1+1)+1)+1)+1)+1) (upOf Try.prog 105 (.agg ⟨[(.string (getStr c (off+((Int.toNat k)*7)))),(.int .i64 (0:Int)),(.int .i64 (0:Int)),(.int .i64 (0:Int))]⟩) (.bool true) es)) (some (Out.ex Ex.ret (St.mk [(.int .i64 (2:Int)),(.int .i64 k),(.int .i64 (7:Int))] [] (Hp.mk [(Ob.cells c true),o1,o2,(Ob.cells ⟨[(.slice (some (Addr.mk 0 off none)) n 7),(.slice b n2 z2),(.slice d n3 z3),(.int .i64 age),(.int .i64 shear)]⟩ false),(Ob.map (upOf Try.prog 105 (.agg ⟨[(.string (getStr c (off+((Int.toNat k)*7)))),(.int .i64 (0:Int)),(.int .i64 (0:Int)),(.int .i64 (0:Int))]⟩) (.bool true) es))] 96 []))))
 none) (cond (mapSc (((((1+1)+1)+1)+1)+1) (upOf Try.prog 105 (.agg ⟨[(.string (getStr c (off+((Int.toNat k)*7)))),(.int .i64 (0:Int)),(.int .i64 (0:Int)),(.int .i64 (0:Int))]⟩) (.bool true) es)) (cond (Nat.blt (Nat.sub (Int.toNat m) (Int.toNat (IntKind.wrap .i64 (k+(1:Int))))) M) (cond (eqCode (theLoop Try.prog 20 0) (theLoop Try.prog 20 0)) (cond (okA20 c off n b d n2 z2 n3 z3 o1 o2 m (IntKind.wrap .i64 (k+(1:Int))) off n) (cond (okM (upOf Try.prog 105 (.agg ⟨[(.string (getStr c (off+((Int.toNat k)*7)))),(.int .i64 (0:Int)),(.int .i64 (0:Int)),(.int .i64 (0:Int))]⟩) (.bool true) es)) (cond (saB c off (n-(Int.toNat (IntKind.wrap .i64 (k+(1:Int))))) (Int.toNat (IntKind.wrap .i64 (k+(1:Int)))) (upOf Try.prog 105 (.agg ⟨[(.string (getStr c (off+((Int.toNat k)*7)))),(.int .i64 (0:Int)),(.int .i64 (0:Int)),(.int .i64 (0:Int))]⟩) (.bool true) es))
 (some (Out.ex Ex.ret (St.mk [(.int .i64 (2:Int)),(.int .i64 (Int.ofNat (saI c off (n-(Int.toNat (IntKind.wrap .i64 (k+(1:Int))))) (Int.toNat (IntKind.wrap .i64 (k+(1:Int)))) (upOf Try.prog 105 (.agg ⟨[(.string (getStr c (off+((Int.toNat k)*7)))),(.int .i64 (0:Int)),(.int .i64 (0:Int)),(.int .i64 (0:Int))]⟩) (.bool true) es)))),(.int .i64 (saE c off (n-(Int.toNat (IntKind.wrap .i64 (k+(1:Int))))) (Int.toNat (IntKind.wrap .i64 (k+(1:Int)))) (upOf Try.prog 105 (.agg ⟨[(.string (getStr c (off+((Int.toNat k)*7)))),(.int .i64 (0:Int)),(.int .i64 (0:Int)),(.int .i64 (0:Int))]⟩) (.bool true) es)))] [] (Hp.mk [(Ob.cells c true),o1,o2,(Ob.cells ⟨[(.slice (some (Addr.mk 0 off none)) n 7),(.slice b n2 z2),(.slice d n3 z3),(.int .i64 age),(.int .i64 shear)]⟩ false),(Ob.map (saM c off (n-(Int.toNat (IntKind.wrap .i64 (k+(1:Int))))) (Int.toNat (IntKind.wrap .i64 (k+(1:Int)))) (upOf Try.prog 105 (.agg ⟨[(.string (getStr c (off+((Int.toNat k)*7)))),(.int .i64 (0:Int)),(.int .i64 (0:Int)),(.int .i64 (0:Int))]⟩) (.bool true) es)))] 96 []))))
 (some (Out.ex (Ex.exit 0) (St.mk [(.pointer (some (Addr.mk 3 0 none))),(.map (some 4))] [] (Hp.mk [(Ob.cells c true),o1,o2,(Ob.cells ⟨[(.slice (some (Addr.mk 0 off none)) n 7),(.slice b n2 z2),(.slice d n3 z3),(.int .i64 age),(.int .i64 shear)]⟩ false),(Ob.map (saM c off (n-(Int.toNat (IntKind.wrap .i64 (k+(1:Int))))) (Int.toNat (IntKind.wrap .i64 (k+(1:Int)))) (upOf Try.prog 105 (.agg ⟨[(.string (getStr c (off+((Int.toNat k)*7)))),(.int .i64 (0:Int)),(.int .i64 (0:Int)),(.int .i64 (0:Int))]⟩) (.bool true) es)))] 96 [])))))
 none)
 none)
 none)
 none)
 none))) (cond (mapSc (((((1+1)+1)+1)+1)+1) (upOf Try.prog 105 (.agg ⟨[(.string (getStr c (off+((Int.toNat k)*7)))),(.int .i64 (0:Int)),(.int .i64 (0:Int)),(.int .i64 (0:Int))]⟩) (.bool true) es)) (some (Out.ex Ex.ret (St.mk [(.int .i64 (2:Int)),(.int .i64 k),(.int .i64 (7:Int))] [] (Hp.mk [(Ob.cells c true),o1,o2,(Ob.cells ⟨[(.slice (some (Addr.mk 0 off none)) n 7),(.slice b n2 z2),(.slice d n3 z3),(.int .i64 age),(.int .i64 shear)]⟩ false),(Ob.map (upOf Try.prog 105 (.agg ⟨[(.string (getStr c (off+((Int.toNat k)*7)))),(.int .i64 (0:Int)),(.int .i64 (0:Int)),(.int .i64 (0:Int))]⟩) (.bool true) es))] 96 []))))
 none))) (cond (mapSc (((((1+1)+1)+1)+1)+1) (upOf Try.prog 105 (.agg ⟨[(.string (getStr c (off+((Int.toNat k)*7)))),(.int .i64 (0:Int)),(.int .i64 (0:Int)),(.int .i64 (0:Int))]⟩) (.bool true) es)) (some (Out.ex Ex.ret (St.mk [(.int .i64 (2:Int)),(.int .i64 k),(.int .i64 (7:Int))] [] (Hp.mk [(Ob.cells c true),o1,o2,(Ob.cells ⟨[(.slice (some (Addr.mk 0 off none)) n 7),(.slice b n2 z2),(.slice d n3 z3),(.int .i64 age),(.int .i64 shear)]⟩ false),(Ob.map (upOf Try.prog 105 (.agg ⟨[(.string (getStr c (off+((Int.toNat k)*7)))),(.int .i64 (0:Int)),(.int .i64 (0:Int)),(.int .i64 (0:Int))]⟩) (.bool true) es))] 96 []))))
 none))))))))) (cond (decide ((getInt c (((off+((Int.toNat k)*7))+1)+1))<(0:Int))) (cond (mapSc (((((1+1)+1)+1)+1)+1) (upOf Try.prog 105 (.agg ⟨[(.string (getStr c (off+((Int.toNat k)*7)))),(.int .i64 (0:Int)),(.int .i64 (0:Int)),(.int .i64 (0:Int))]⟩) (.bool true) es)) (some (Out.ex Ex.ret (St.mk [(.int .i64 (2:Int)),(.int .i64 k),(.int .i64 (7:Int))] [] (Hp.mk [(Ob.cells c true),o1,o2,(Ob.cells ⟨[(.slice (some (Addr.mk 0 off none)) n 7),(.slice b n2 z2),(.slice d n3 z3),(.int .i64 age),(.int .i64 shear)]⟩ false),(Ob.map (upOf Try.prog 105 (.agg ⟨[(.string (getStr c (off+((Int.toNat k)*7)))),(.int .i64 (0:Int)),(.int .i64 (0:Int)),(.int .i64 (0:Int))]⟩) (.bool true) es))] 96 []))))
 none) (cond (decide ((5000:Int)<(getInt c (((off+((Int.toNat k)*7))+1)+1)))) (cond (mapSc (((((1+1)+1)+1)+1)+1) (upOf Try.prog 105 (.agg ⟨[(.string (getStr c (off+((Int.toNat k)*7)))),(.int .i64 (0:Int)),(.int .i64 (0:Int)),(.int .i64 (0:Int))]⟩) (.bool true) es)) (some (Out.ex Ex.ret (St.mk [(.int .i64 (2:Int)),(.int .i64 k),(.int .i64 (7:Int))] [] (Hp.mk [(Ob.cells c true),o1,o2,(Ob.cells ⟨[(.slice (some (Addr.mk 0 off none)) n 7),(.slice b n2 z2),(.slice d n3 z3),(.int .i64 age),(.int .i64 shear)]⟩ false),(Ob.map (upOf Try.prog 105 (.agg ⟨[(.string (getStr c (off+((Int.toNat k)*7)))),(.int .i64 (0:Int)),(.int .i64 (0:Int)),(.int .i64 (0:Int))]⟩) (.bool true) es))] 96 []))))
 none) (cond (decide ((getInt c ((((off+((Int.toNat k)*7))+1)+1)+1))<(0:Int))) (cond (mapSc (((((1+1)+1)+1)+1)+1) (upOf Try.prog 105 (.agg ⟨[(.string (getStr c (off+((Int.toNat k)*7)))),(.int .i64 (0:Int)),(.int .i64 (0:Int)),(.int .i64 (0:Int))]⟩) (.bool true) es)) (some (Out.ex Ex.ret (St.mk [(.int .i64 (2:Int)),(.int .i64 k),(.int .i64 (7:Int))] [] (Hp.mk [(Ob.cells c true),o1,o2,(Ob.cells ⟨[(.slice (some (Addr.mk 0 off none)) n 7),(.slice b n2 z2),(.slice d n3 z3),(.int .i64 age),(.int .i64 shear)]⟩ false),(Ob.map (upOf Try.prog 105 (.agg ⟨[(.string (getStr c (off+((Int.toNat k)*7)))),(.int .i64 (0:Int)),(.int .i64 (0:Int)),(.int .i64 (0:Int))]⟩) (.bool true) es))] 96 []))))
 none) (cond (decide ((6000:Int)<(getInt c ((((off+((Int.toNat k)*7))+1)+1)+1)))) (cond (mapSc (((((1+1)+1)+1)+1)+1) (upOf Try.prog 105 (.agg ⟨[(.string (getStr c (off+((Int.toNat k)*7)))),(.int .i64 (0:Int)),(.int .i64 (0:Int)),(.int .i64 (0:Int))]⟩) (.bool true) es)) (some (Out.ex Ex.ret (St.mk [(.int .i64 (2:Int)),(.int .i64 k),(.int .i64 (7:Int))] [] (Hp.mk [(Ob.cells c true),o1,o2,(Ob.cells ⟨[(.slice (some (Addr.mk 0 off none)) n 7),(.slice b n2 z2),(.slice d n3 z3),(.int .i64 age),(.int .i64 shear)]⟩ false),(Ob.map (upOf Try.prog 105 (.agg ⟨[(.string (getStr c (off+((Int.toNat k)*7)))),(.int .i64 (0:Int)),(.int .i64 (0:Int)),(.int .i64 (0:Int))]⟩) (.bool true) es))] 96 []))))
 none) (cond (decide ((getInt c (((((off+((Int.toNat k)*7))+1)+1)+1)+1))<(1:Int))) (cond (mapSc (((((1+1)+1)+1)+1)+1) (upOf Try.prog 105 (.agg ⟨[(.string (getStr c (off+((Int.toNat k)*7)))),(.int .i64 (0:Int)),(.int .i64 (0:Int)),(.int .i64 (0:Int))]⟩) (.bool true) es)) (some (Out.ex Ex.ret (St.mk [(.int .i64 (2:Int)),(.int .i64 k),(.int .i64 (7:Int))] [] (Hp.mk [(Ob.cells c true),o1,o2,(Ob.cells ⟨[(.slice (some (Addr.mk 0 off none)) n 7),(.slice b n2 z2),(.slice d n3 z3),(.int .i64 age),(.int .i64 shear)]⟩ false),(Ob.map (upOf Try.prog 105 (.agg ⟨[(.string (getStr c (off+((Int.toNat k)*7)))),(.int .i64 (0:Int)),(.int .i64 (0:Int)),(.int .i64 (0:Int))]⟩) (.bool true) es))] 96 []))))
 none) (cond (decide ((60000:Int)<(getInt c (((((off+((Int.toNat k)*7))+1)+1)+1)+1)))) (cond (mapSc (((((1+1)+1)+1)+1)+1) (upOf Try.prog 105 (.agg ⟨[(.string (getStr c (off+((Int.toNat k)*7)))),(.int .i64 (0:Int)),(.int .i64 (0:Int)),(.int .i64 (0:Int))]⟩) (.bool true) es)) (some (Out.ex Ex.ret (St.mk [(.int .i64 (2:Int)),(.int .i64 k),(.int .i64 (7:Int))] [] (Hp.mk [(Ob.cells c true),o1,o2,(Ob.cells ⟨[(.slice (some (Addr.mk 0 off none)) n 7),(.slice b n2 z2),(.slice d n3 z3),(.int .i64 age),(.int .i64 shear)]⟩ false),(Ob.map (upOf Try.prog 105 (.agg ⟨[(.string (getStr c (off+((Int.toNat k)*7)))),(.int .i64 (0:Int)),(.int .i64 (0:Int)),(.int .i64 (0:Int))]⟩) (.bool true) es))] 96 []))))
 none) (cond (decide ((0:Int)≤(getInt c ((((((off+((Int.toNat k)*7))+1)+1)+1)+1)+1)))) (cond (not (decide ((getInt c ((((((off+((Int.toNat k)*7))+1)+1)+1)+1)+1))<(100000000:Int)))) (cond (mapSc (((((1+1)+1)+1)+1)+1) (upOf Try.prog 105 (.agg ⟨[(.string (getStr c (off+((Int.toNat k)*7)))),(.int .i64 (0:Int)),(.int .i64 (0:Int)),(.int .i64 (0:Int))]⟩) (.bool true) es)) (some (Out.ex Ex.ret (St.mk [(.int .i64 (2:Int)),(.int .i64 k),(.int .i64 (7:Int))] [] (Hp.mk [(Ob.cells c true),o1,o2,(Ob.cells ⟨[(.slice (some (Addr.mk 0 off none)) n 7),(.slice b n2 z2),(.slice d n3 z3),(.int .i64 age),(.int .i64 shear)]⟩ false),(Ob.map (upOf Try.prog 105 (.agg ⟨[(.string (getStr c (off+((Int.toNat k)*7)))),(.int .i64 (0:Int)),(.int .i64 (0:Int)),(.int .i64 (0:Int))]⟩) (.bool true) es))] 96 []))))
 none) (cond (decide ((0:Int)≤(getInt c (((((((off+((Int.toNat k)*7))+1)+1)+1)+1)+1)+1)))) (cond (not (decide ((getInt c (((((((off+((Int.toNat k)*7))+1)+1)+1)+1)+1)+1))<(100000000:Int)))) (cond (mapSc (((((1+1)+1)+1)+1)+1) (upOf Try.prog 105 (.agg ⟨[(.string (getStr c (off+((Int.toNat k)*7)))),(.int .i64 (0:Int)),(.int .i64 (0:Int)),(.int .i64 (0:Int))]⟩) (.bool true) es)) (some (Out.ex Ex.ret (St.mk [(.int .i64 (2:Int)),(.int .i64 k),(.int .i64 (7:Int))] [] (Hp.mk [(Ob.cells c true),o1,o2,(Ob.cells ⟨[(.slice (some (Addr.mk 0 off none)) n 7),(.slice b n2 z2),(.slice d n3 z3),(.int .i64 age),(.int .i64 shear)]⟩ false),(Ob.map (upOf Try.prog 105 (.agg ⟨[(.string (getStr c (off+((Int.toNat k)*7)))),(.int .i64 (0:Int)),(.int .i64 (0:Int)),(.int .i64 (0:Int))]⟩) (.bool true) es))] 96 []))))
 none) (cond (decide ((getInt c (((((((off+((Int.toNat k)*7))+1)+1)+1)+1)+1)+1))<(getInt c ((((((off+((Int.toNat k)*7))+1)+1)+1)+1)+1)))) (cond (mapSc (((((1+1)+1)+1)+1)+1) (upOf Try.prog 105 (.agg ⟨[(.string (getStr c (off+((Int.toNat k)*7)))),(.int .i64 (0:Int)),(.int .i64 (0:Int)),(.int .i64 (0:Int))]⟩) (.bool true) es)) (some (Out.ex Ex.ret (St.mk [(.int .i64 (2:Int)),(.int .i64 k),(.int .i64 (7:Int))] [] (Hp.mk [(Ob.cells c true),o1,o2,(Ob.cells ⟨[(.slice (some (Addr.mk 0 off none)) n 7),(.slice b n2 z2),(.slice d n3 z3),(.int .i64 age),(.int .i64 shear)]⟩ false),(Ob.map (upOf Try.prog 105 (.agg ⟨[(.string (getStr c (off+((Int.toNat k)*7)))),(.int .i64 (0:Int)),(.int .i64 (0:Int)),(.int .i64 (0:Int))]⟩) (.bool true) es))] 96 []))))
 none) (cond (mapSc (((((1+1)+1)+1)+1)+1) (upOf Try.prog 105 (.agg ⟨[(.string (getStr c (off+((Int.toNat k)*7)))),(.int .i64 (0:Int)),(.int .i64 (0:Int)),(.int .i64 (0:Int))]⟩) (.bool true) es)) (cond (Nat.blt (Nat.sub (Int.toNat m) (Int.toNat (IntKind.wrap .i64 (k+(1:Int))))) M) (cond (eqCode (theLoop Try.prog 20 0) (theLoop Try.prog 20 0)) (cond (okA20 c off n b d n2 z2 n3 z3 o1 o2 m (IntKind.wrap .i64 (k+(1:Int))) off n) (cond (okM (upOf Try.prog 105 (.agg ⟨[(.string (getStr c (off+((Int.toNat k)*7)))),(.int .i64 (0:Int)),(.int .i64 (0:Int)),(.int .i64 (0:Int))]⟩) (.bool true) es)) (cond (saB c off (n-(Int.toNat (IntKind.wrap .i64 (k+(1:Int))))) (Int.toNat (IntKind.wrap .i64 (k+(1:Int)))) (upOf Try.prog 105 (.agg ⟨[(.string (getStr c (off+((Int.toNat k)*7)))),(.int .i64 (0:Int)),(.int .i64 (0:Int)),(.int .i64 (0:Int))]⟩) (.bool true) es))
 (some (Out.ex Ex.ret (St.mk [(.int .i64 (2:Int)),(.int .i64 (Int.ofNat (saI c off (n-(Int.toNat (IntKind.wrap .i64 (k+(1:Int))))) (Int.toNat (IntKind.wrap .i64 (k+(1:Int)))) (upOf Try.prog 105 (.agg ⟨[(.string (getStr c (off+((Int.toNat k)*7)))),(.int .i64 (0:Int)),(.int .i64 (0:Int)),(.int .i64 (0:Int))]⟩) (.bool true) es)))),(.int .i64 (saE c off (n-(Int.toNat (IntKind.wrap .i64 (k+(1:Int))))) (Int.toNat (IntKind.wrap .i64 (k+(1:Int)))) (upOf Try.prog 105 (.agg ⟨[(.string (getStr c (off+((Int.toNat k)*7)))),(.int .i64 (0:Int)),(.int .i64 (0:Int)),(.int .i64 (0:Int))]⟩) (.bool true) es)))] [] (Hp.mk [(Ob.cells c true),o1,o2,(Ob.cells ⟨[(.slice (some (Addr.mk 0 off none)) n 7),(.slice b n2 z2),(.slice d n3 z3),(.int .i64 age),(.int .i64 shear)]⟩ false),(Ob.map (saM c off (n-(Int.toNat (IntKind.wrap .i64 (k+(1:Int))))) (Int.toNat (IntKind.wrap .i64 (k+(1:Int)))) (upOf Try.prog 105 (.agg ⟨[(.string (getStr c (off+((Int.toNat k)*7)))),(.int .i64 (0:Int)),(.int .i64 (0:Int)),(.int .i64 (0:Int))]⟩) (.bool true) es)))] 96 []))))
 (some (Out.ex (Ex.exit 0) (St.mk [(.pointer (some (Addr.mk 3 0 none))),(.map (some 4))] [] (Hp.mk [(Ob.cells c true),o1,o2,(Ob.cells ⟨[(.slice (some (Addr.mk 0 off none)) n 7),(.slice b n2 z2),(.slice d n3 z3),(.int .i64 age),(.int .i64 shear)]⟩ false),(Ob.map (saM c off (n-(Int.toNat (IntKind.wrap .i64 (k+(1:Int))))) (Int.toNat (IntKind.wrap .i64 (k+(1:Int)))) (upOf Try.prog 105 (.agg ⟨[(.string (getStr c (off+((Int.toNat k)*7)))),(.int .i64 (0:Int)),(.int .i64 (0:Int)),(.int .i64 (0:Int))]⟩) (.bool true) es)))] 96 [])))))
 none)
 none)
 none)
 none)
 none))) (cond (mapSc (((((1+1)+1)+1)+1)+1) (upOf Try.prog 105 (.agg ⟨[(.string (getStr c (off+((Int.toNat k)*7)))),(.int .i64 (0:Int)),(.int .i64 (0:Int)),(.int .i64 (0:Int))]⟩) (.bool true) es)) (some (Out.ex Ex.ret (St.mk [(.int .i64 (2:Int)),(.int .i64 k),(.int .i64 (7:Int))] [] (Hp.mk [(Ob.cells c true),o1,o2,(Ob.cells ⟨[(.slice (some (Addr.mk 0 off none)) n 7),(.slice b n2 z2),(.slice d n3 z3),(.int .i64 age),(.int .i64 shear)]⟩ false),(Ob.map (upOf Try.prog 105 (.agg ⟨[(.string (getStr c (off+((Int.toNat k)*7)))),(.int .i64 (0:Int)),(.int .i64 (0:Int)),(.int .i64 (0:Int))]⟩) (.bool true) es))] 96 []))))
 none))) (cond (mapSc (((((1+1)+1)+1)+1)+1) (upOf Try.prog 105 (.agg ⟨[(.string (getStr c (off+((Int.toNat k)*7)))),(.int .i64 (0:Int)),(.int .i64 (0:Int)),(.int .i64 (0:Int))]⟩) (.bool true) es)) (some (Out.ex Ex.ret (St.mk [(.int .i64 (2:Int)),(.int .i64 k),(.int .i64 (7:Int))] [] (Hp.mk [(Ob.cells c true),o1,o2,(Ob.cells ⟨[(.slice (some (Addr.mk 0 off none)) n 7),(.slice b n2 z2),(.slice d n3 z3),(.int .i64 age),(.int .i64 shear)]⟩ false),(Ob.map (upOf Try.prog 105 (.agg ⟨[(.string (getStr c (off+((Int.toNat k)*7)))),(.int .i64 (0:Int)),(.int .i64 (0:Int)),(.int .i64 (0:Int))]⟩) (.bool true) es))] 96 []))))
 none)))))))))
 none)
 none))
 none))
 none)
 none) (some (Out.ex (Ex.exit 0) (St.mk [(.pointer (some (Addr.mk 3 0 none))),(.map (some 4))] [] (Hp.mk [(Ob.cells c true),o1,o2,(Ob.cells ⟨[(.slice (some (Addr.mk 0 off none)) n 7),(.slice b n2 z2),(.slice d n3 z3),(.int .i64 age),(.int .i64 shear)]⟩ false),(Ob.map es)] 96 [])))):=by kernel_rfl
theorem nmK_mk (c:Array Value)(x:Nat):isMk (nmK c x):=⟨_,_,_,_,rfl⟩
theorem dec_false {p:Prop}(h:¬p):dec p=false:=by cases hd:dec p with | true=>exact absurd (dec_iff.1 hd) h | false=>rfl
theorem taken_add {es:Es}{k:Value}(h:TakenM es) (hk:isMk k):TakenM (es++[(k,.bool true)]):=by
  intro e he
  rcases List.mem_append.1 he with h1 | h1
  · exact h e h1
  · rw [List.mem_singleton]at h1;subst h1;exact ⟨hk,rfl⟩
theorem mapSc_taken {es:Es}(h:TakenM es) (n:Nat):mapSc n es=true:=by
  unfold mapSc
  rw [List.all_eq_true]
  intro e he
  rw [(h e he).2];rfl
theorem obSc_map {es:Es}(h:TakenM es) (n:Nat):obSc n (.map es)=true:=mapSc_taken h n
theorem saR_taken {c:Array Value}{off:Nat}:∀{m k:Nat}{es:Es},TakenM es→TakenM (saR c off m k es).es
  | 0,_,_,h=>h
  | m+1,k,es,h=>by
    have h2:TakenM (seM c (off+k*7) es):=by
      unfold seM
      split
      · exact h
      · split
        · exact h
        · exact taken_add h (nmK_mk ..)
    simp only [saR]
    split
    · exact saR_taken h2
    · exact h2
theorem known20a:∃J,Known Try.prog (sh20a.ans J):=by
  refine Known.junk known22c mes20a sh20a ?_
  intro J t f hs hkn
  unfold sh20a at hs
  split at hs
  case h_2=>cases hs
  rename_i code t c o1 o2 off n b n2 z2 d n3 z3 age shear es G
  split at hs
  case h_2=>cases hs
  rename_i off' n' m k er e1 e5 e39 e40 e41
  simp only [Option.some.injEq]at hs
  subst hs
  refine ex_guard fun h1=>ex_guard fun h2=>ex_guard fun h3=>ex_guard fun h4=>?_
  obtain rfl:=eqCode_eq h1
  have hl:t.length=96:=Nat.eq_of_beq_eq_true h2
  obtain ⟨rfl,rfl,hg,hb,hd,q1,q2,hn,rfl,hk0⟩:=dec_iff.1 h3
  have tk:TakenM es:=dec_iff.1 h4
  obtain ⟨k,rfl⟩:=Int.eq_ofNat_of_zero_le hk0
  have scs:=And.intro (allsc (n:=5) hg.1) (And.intro (slice_sc hb (show 3≤5 by decide)) (And.intro (slice_sc hd (show 3≤5 by decide)) (And.intro (grOb_sc (n:=5) q1) (And.intro (grOb_sc (n:=5) q2) (obSc_map tk 5)))))
  have hsc2:(([.cells c true,o1,o2,.cells ⟨[.slice (some ⟨0,off',none⟩) n' 7,.slice b n2 z2,.slice d n3 z3,.int .i64 age,.int .i64 shear]⟩ false,.map es]:List Ob).all (obSc ([.cells c true,o1,o2,.cells ⟨[.slice (some ⟨0,off',none⟩) n' 7,.slice b n2 z2,.slice d n3 z3,.int .i64 age,.int .i64 shear]⟩ false,.map es]:List Ob).length))=true:=by
    simp [obSc_cells,scs,int_sc,at0_sc]
  have hk2:∀es',TakenM es'→ObsKept 5 [.cells c true,o1,o2,.cells ⟨[.slice (some ⟨0,off',none⟩) n' 7,.slice b n2 z2,.slice d n3 z3,.int .i64 age,.int .i64 shear]⟩ false,.map es] [.cells c true,o1,o2,.cells ⟨[.slice (some ⟨0,off',none⟩) n' 7,.slice b n2 z2,.slice d n3 z3,.int .i64 age,.int .i64 shear]⟩ false,.map es']:=by
    intro es' ht
    have hs:=keptSelf hsc2
    cases hs with
    | cons h r=>cases r with
      | cons h' r=>cases r with
        | cons h'' r=>cases r with
          | cons h''' r=>exact .cons h (.cons h' (.cons h'' (.cons h''' (.cons (by
              show ((!(Ob.map es').live||(Ob.map es).live)&&(!(Ob.map es').rw||(Ob.map es).rw)&&(obSc 5 (.map es')))=true
              rw [obSc_map ht];rfl) .nil))))
  have use:=fun es' (ht:TakenM es') e' vs hev he hvs=>hkn.loopLeaf (G:=G) noNG mixed (n:=60) (N0:=96) (N:=96) (live:=[(1,pp 3),(5,.map (some 4)),(39,.slice (some ⟨0,off',none⟩) n' 7),(40,.int .i64 (Int.ofNat n')),(41,.int .i64 (Int.ofNat k))])
    (H0:=[.cells c true,o1,o2,.cells ⟨[.slice (some ⟨0,off',none⟩) n' 7,.slice b n2 z2,.slice d n3 z3,.int .i64 age,.int .i64 shear]⟩ false,.map es])
    (H1:=[.cells c true,o1,o2,.cells ⟨[.slice (some ⟨0,off',none⟩) n' 7,.slice b n2 z2,.slice d n3 z3,.int .i64 age,.int .i64 shear]⟩ false,.map es']) (pick:=pick20 [1,5]) (e:=e') (vs:=vs)
    (base:=3) (wr:=[]) (wr1:=[]) (c:=theLoop Try.prog 20 0) (t:=t) hev hl (by
      intro kv hm
      simp only [List.mem_cons,List.not_mem_nil,or_false]at hm
      rcases hm with rfl | rfl | rfl | rfl | rfl
      · exact ⟨e1,rfl,rfl⟩
      · exact ⟨e5,rfl,rfl⟩
      · exact ⟨e39,rfl,rfl⟩
      · exact ⟨e40,rfl,rfl⟩
      · exact ⟨e41,rfl,rfl⟩) (by simp) hsc2 (hk2 es' ht) he hvs
  simp only [List.length_cons,List.length_nil,Nat.zero_add,Nat.reduceAdd]at use
  rw [tree20a]at use
  simp only [Int.ofNat_eq_natCast,Int.toNat_natCast]at use ⊢
  by_cases hin:(k:Int)<(n':Int)
  · obtain ⟨m,hm⟩:∃m,n' - k=m+1:=⟨n' - k-1,by omega⟩
    have hw:IntKind.i64.wrap ((k:Int)+1)=((k+1:Nat):Int):=by rw [wrap64_id (by omega) (by omega)];rfl
    rw [hm]
    have hm':n' - (k+1)=m:=by omega
    have hme:(Nat.sub n' (k+1)).blt (mes20a (.code none (.loop (theLoop Try.prog 20 0)) ⟨t,[],⟨.cells c true::o1::o2::.cells ⟨[.slice (some ⟨0,off',none⟩) n' 7,.slice b n2 z2,.slice d n3 z3,.int .i64 age,.int .i64 shear]⟩ false::.map es::G,3,[]⟩⟩))=true:=by
      simp only [mes20a,e40,e41,Nat.blt_eq,Int.toNat_natCast]
      show n' - (k+1)<n' - k
      omega
    have hok:okA20 c off' n' b d n2 z2 n3 z3 o1 o2 (n':Int) ↑(k+1) off' n'=true:=dec_iff.2 ⟨rfl,rfl,hg,hb,hd,q1,q2,hn,rfl,by omega⟩
    have x0:=hg.2 k (by omega)
    simp only [show L7.length=7 from rfl]at x0
    simp only [hw,Int.toNat_natCast,hm',hin,decide_true,cond_true,Bool.true_and,Bool.and_self,Int.natCast_nonneg,eqCode_self,hme,hok,Nat.add_zero,x0]at use
    have kk:=nmK_mk c (off'+k*7)
    have hlk:=lkL_mark kk tk
    cases hnm:nm (getStr c (off'+k*7)) with
    | false =>
      have e:saR c off' (m+1) k es=⟨true,k,6,es⟩:=by simp [saR,seE,seM,hnm]
      simp only [saB,saI,saE,saM,e]
      refine use es tk .ret [.int .i64 2,.int .i64 k,.int .i64 6] ?_ rfl rfl
      rw [hnm];rfl
    | true =>
      have l1:lkIs Try.prog 105 (nmK c (off'+k*7)) es=true:=by unfold lkIs;rw [hlk]
      have l2:lkOf Try.prog 105 (nmK c (off'+k*7)) es=dec (nmK c (off'+k*7)∈keysM es):=by unfold lkOf;rw [hlk]
      simp only [show Value.agg ⟨[.string (getStr c (off'+k*7)),.int .i64 0,.int .i64 0,.int .i64 0]⟩=nmK c (off'+k*7) from rfl,hnm,Bool.not_true,cond_false,cond_true,l1,l2]at use
      by_cases hmem:nmK c (off'+k*7)∈keysM es
      · have e:saR c off' (m+1) k es=⟨true,k,5,es⟩:=by simp [saR,seE,seM,hnm,tkL,dec_iff.2 hmem]
        simp only [saB,saI,saE,saM,e]
        refine use es tk .ret [.int .i64 2,.int .i64 k,.int .i64 5] ?_ rfl rfl
        rw [dec_iff.2 hmem];rfl
      · have hup:=upL_mark kk tk hmem
        have u1:upIs Try.prog 105 (nmK c (off'+k*7)) (.bool true) es=true:=by unfold upIs;rw [hup];rfl
        have u2:upOf Try.prog 105 (nmK c (off'+k*7)) (.bool true) es=tkU es (nmK c (off'+k*7)):=by unfold upOf;rw [hup];rfl
        have tk2:TakenM (tkU es (nmK c (off'+k*7))):=taken_add tk kk
        have u3:=mapSc_taken tk2
        have u4:okM (tkU es (nmK c (off'+k*7)))=true:=dec_iff.2 tk2
        simp only [dec_false hmem,u1,u2,u3,u4,cond_false,cond_true]at use
        have hseE:seE c (off'+k*7) es=rgE c (off'+k*7):=by simp [seE,hnm,tkL,dec_false hmem]
        have hseM:seM c (off'+k*7) es=tkU es (nmK c (off'+k*7)):=by simp [seM,hnm,tkL,dec_false hmem]
        have hE:=rgE.eq_1 c (off'+k*7)
        simp only [inB]at hE
        simp only [Nat.add_assoc,Nat.reduceAdd]at use hE
        by_cases hr:rgE c (off'+k*7)=0
        · have e:saR c off' (m+1) k es=saR c off' m (k+1) (tkU es (nmK c (off'+k*7))):=by simp only [saR,hseE,hr,if_true,hseM]
          simp only [saB,saI,saE,saM,e]
          have tk3:TakenM (saR c off' m (k+1) (tkU es (nmK c (off'+k*7)))).es:=saR_taken tk2
          simp only [saB,saI,saE,saM]at use
          cases hbb:(saR c off' m (k+1) (tkU es (nmK c (off'+k*7)))).bad with
          | true =>
            rw [hbb]at use
            refine use _ tk3 .ret [.int .i64 2,.int .i64 (Int.ofNat (saR c off' m (k+1) (tkU es (nmK c (off'+k*7)))).ix),.int .i64 (saR c off' m (k+1) (tkU es (nmK c (off'+k*7)))).err] ?_ rfl rfl
            clear use hkn hk2 hsc2 hme hok h1 h2 h3 h4 er hg q1 q2 hl e1 e5 e39 e40 e41 x0 scs hlk l1 l2 hup u1 u2 u3 u4 hseE hseM kk tk tk2 hmem e tk3 hbb
            repeat' refine cond_hd (fun _=>?_) (fun _=>?_)
            all_goals grind
          | false =>
            rw [hbb]at use
            refine use _ tk3 (.exit 0) [pp 3,.map (some 4)] ?_ rfl rfl
            clear use hkn hk2 hsc2 hme hok h1 h2 h3 h4 er hg q1 q2 hl e1 e5 e39 e40 e41 x0 scs hlk l1 l2 hup u1 u2 u3 u4 hseE hseM kk tk tk2 hmem e tk3 hbb
            repeat' refine cond_hd (fun _=>?_) (fun _=>?_)
            all_goals grind [pp]
        · have e:saR c off' (m+1) k es=⟨true,k,rgE c (off'+k*7),tkU es (nmK c (off'+k*7))⟩:=by simp only [saR,hseE,hr,if_false,hseM]
          simp only [saB,saI,saE,saM,e]
          refine use _ tk2 .ret [.int .i64 2,.int .i64 k,.int .i64 (rgE c (off'+k*7))] ?_ rfl rfl
          clear use hkn hk2 hsc2 hme hok h1 h2 h3 h4 er hg q1 q2 hl e1 e5 e39 e40 e41 x0 scs hlk l1 l2 hup u1 u2 u3 u4 hseE hseM kk tk tk2 hmem e
          repeat' refine cond_hd (fun _=>?_) (fun _=>?_)
          all_goals first
            | (have h7:rgE c (off'+k*7)=2:=by
                 simp only [Bool.not_eq_true',Bool.not_eq_false',decide_eq_true_eq,decide_eq_false_iff_not,Bool.and_eq_false_iff]at *
                 rw [hE,if_pos (by omega)]
               rw [h7];done)
            | (have h7:rgE c (off'+k*7)=7:=by
                 simp only [Bool.not_eq_true',Bool.not_eq_false',decide_eq_true_eq,decide_eq_false_iff_not,Bool.and_eq_false_iff]at *
                 rw [hE,if_neg (by omega),if_pos (by omega)]
               rw [h7];done)
            | (exfalso
               refine hr ?_
               clear hr
               simp only [Bool.not_eq_true',Bool.not_eq_false',decide_eq_true_eq,decide_eq_false_iff_not,Bool.and_eq_false_iff]at *
               rw [hE,if_neg (by omega),if_neg (by omega)])
  · have h0:n' - k=0:=by omega
    rw [h0]
    refine use es tk (.exit 0) [pp 3,.map (some 4)] ?_ rfl rfl
    simp only [hin,decide_false,cond_false]
    try rfl
end
end Go.Proofs.Ytfnogghclaijlaa.Old
namespace Go.Proofs.Ytfnogghclaijlaa.Old
open Go.Gi Go.RowKit
noncomputable section
def cuE (c:Array Value)(off k:Nat)(fr:Int):Int :=
  if inB (getInt c (off+k)) 1 100000000=false then 7 else if getInt c (off+k)≤fr then 2 else 0
structure Cu where
  bad:Bool
  ix:Nat
  err:Int
def cuR (c:Array Value)(off:Nat):Nat→Nat→Int→Cu
  | 0,_,_=>⟨false,0,0⟩
  | m+1,k,fr=>if cuE c off k fr=0 then cuR c off m (k+1) (getInt c (off+k)) else ⟨true,k,cuE c off k fr⟩
def cuB (c:Array Value)(off m k:Nat)(fr:Int):Bool:=(cuR c off m k fr).bad
def cuI (c:Array Value)(off m k:Nat)(fr:Int):Nat:=(cuR c off m k fr).ix
def cuX (c:Array Value)(off m k:Nat)(fr:Int):Int:=(cuR c off m k fr).err
def okA20c (c:Array Value)(off n3:Nat)(a b:Option Addr)(n z n2 z2:Nat)(o0 o1:Ob)(m k:Int) (off' n':Nat)(es:Es):Bool :=
  dec (off'=off∧n'=n3∧GoodL L1 c off n3∧sc1 3 (.slice a n z)=true∧sc1 3 (.slice b n2 z2)=true∧grOb o0∧grOb o1∧n3≤20∧m=n3∧0≤k∧TakenM es)
def sh20c:Shape
  | .code none (.loop code) ⟨t,[],⟨o0::o1::.cells c true::.cells ⟨[.slice a n z,.slice b n2 z2,.slice (some ⟨2,off,none⟩) n3 1,.int .i64 age,.int .i64 shear]⟩ false::.map es::G,3,[]⟩⟩ =>
    match Nat.beq (firstReg code) 20,lget t 1,lget t 11,lget t 70,lget t 71,lget t 72 with
    | true,.pointer (some ⟨3,0,none⟩),.int .i64 fr,.slice (some ⟨2,off',none⟩) n' 1,.int .i64 m,.int .i64 k=>some fun j =>
      .br (eqCode code (theLoop Try.prog 20 2)) (.br (Nat.beq t.length 96) (.br (okA20c c off n3 a b n z n2 z2 o0 o1 m k off' n' es) (.br (cuB c off (n3-k.toNat) k.toNat fr)
          (loopEnd 96 .ret [(2,.int .i64 4),(3,.int .i64 (Int.ofNat (cuI c off (n3-k.toNat) k.toNat fr))),(4,.int .i64 (cuX c off (n3-k.toNat) k.toNat fr))]
            ⟨o0::o1::.cells c true::.cells ⟨[.slice a n z,.slice b n2 z2,.slice (some ⟨2,off,none⟩) n3 1,.int .i64 age,.int .i64 shear]⟩ false::.map es::G,3,[]⟩ j)
          (loopEnd 96 (.exit 4) [(1,pp 3)]
            ⟨o0::o1::.cells c true::.cells ⟨[.slice a n z,.slice b n2 z2,.slice (some ⟨2,off,none⟩) n3 1,.int .i64 age,.int .i64 shear]⟩ false::.map es::G,3,[]⟩ j)) .no) .no) .no
    | _,_,_,_,_,_=>none
  | _=>none
def mes20c:Task→Nat
  | .code _ _ s=>match lget s.t 71,lget s.t 72 with
    | .int _ n,.int _ i=>Nat.sub n.toNat i.toNat
    | _,_=>0
  | _=>0
end
end Go.Proofs.Ytfnogghclaijlaa.Old
namespace Go.Proofs.Ytfnogghclaijlaa.Old
open Go.Gi Go.RowKit
noncomputable section
set_option maxRecDepth 100000
theorem tree20c (J:Task→List Value)(c:Array Value)(off:Nat)(o0 o1:Ob)(a b:Option Addr)(n z n2 z2 n3:Nat)(es:Es)(m k fr age shear:Int)(M:Nat)(y:List Value) :
    evS Try.prog (((sh20c.ans J).below mes20c M).or (fun _=>none)) 60 (.code none (.loop (theLoop Try.prog 20 2)) ⟨sets (junkF 96 y) [(1,pp 3),(11,.int .i64 fr),(70,.slice (some ⟨2,off,none⟩) n3 1),(71,.int .i64 m),(72,.int .i64 k)],[],⟨[o0,o1,.cells c true,.cells ⟨[.slice a n z,.slice b n2 z2,.slice (some ⟨2,off,none⟩) n3 1,.int .i64 age,.int .i64 shear]⟩ false,.map es],3,[]⟩⟩) (sumK 5 96 (pick20 [1])) =
    cond (decide (k<m)) (cond (and (decide ((0:Int)≤k)) (decide (k<(Int.ofNat n3)))) (cond (and true (isInt .i64 c (off+((Int.toNat k)*1)))) (cond (decide ((getInt c (off+((Int.toNat k)*1)))<(1:Int))) (some (Out.ex Ex.ret (St.mk [(.int .i64 (4:Int)),(.int .i64 k),(.int .i64 (7:Int))] [] (Hp.mk [o0,o1,(Ob.cells c true),(Ob.cells ⟨[(.slice a n z),(.slice b n2 z2),(.slice (some (Addr.mk 2 off none)) n3 1),(.int .i64 age),(.int .i64 shear)]⟩ false),(Ob.map es)] 96 [])))) (cond (decide ((100000000:Int)<(getInt c (off+((Int.toNat k)*1))))) (some (Out.ex Ex.ret (St.mk [(.int .i64 (4:Int)),(.int .i64 k),(.int .i64 (7:Int))] [] (Hp.mk [o0,o1,(Ob.cells c true),(Ob.cells ⟨[(.slice a n z),(.slice b n2 z2),(.slice (some (Addr.mk 2 off none)) n3 1),(.int .i64 age),(.int .i64 shear)]⟩ false),(Ob.map es)] 96 [])))) (cond (decide ((getInt c (off+((Int.toNat k)*1)))≤fr))
 (some (Out.ex Ex.ret (St.mk [(.int .i64 (4:Int)),(.int .i64 k),(.int .i64 (2:Int))] [] (Hp.mk [o0,o1,(Ob.cells c true),(Ob.cells ⟨[(.slice a n z),(.slice b n2 z2),(.slice (some (Addr.mk 2 off none)) n3 1),(.int .i64 age),(.int .i64 shear)]⟩ false),(Ob.map es)] 96 [])))) (cond (Nat.blt (Nat.sub (Int.toNat m) (Int.toNat (IntKind.wrap .i64 (k+(1:Int))))) M) (cond (eqCode (theLoop Try.prog 20 2) (theLoop Try.prog 20 2)) (cond (okA20c c off n3 a b n z n2 z2 o0 o1 m (IntKind.wrap .i64 (k+(1:Int))) off n3 es) (cond (cuB c off (n3-(Int.toNat (IntKind.wrap .i64 (k+(1:Int))))) (Int.toNat (IntKind.wrap .i64 (k+(1:Int)))) (getInt c (off+((Int.toNat k)*1))))
 (some (Out.ex Ex.ret (St.mk [(.int .i64 (4:Int)),(.int .i64 (Int.ofNat (cuI c off (n3-(Int.toNat (IntKind.wrap .i64 (k+(1:Int))))) (Int.toNat (IntKind.wrap .i64 (k+(1:Int)))) (getInt c (off+((Int.toNat k)*1)))))),(.int .i64 (cuX c off (n3-(Int.toNat (IntKind.wrap .i64 (k+(1:Int))))) (Int.toNat (IntKind.wrap .i64 (k+(1:Int)))) (getInt c (off+((Int.toNat k)*1)))))] [] (Hp.mk [o0,o1,(Ob.cells c true),(Ob.cells ⟨[(.slice a n z),(.slice b n2 z2),(.slice (some (Addr.mk 2 off none)) n3 1),(.int .i64 age),(.int .i64 shear)]⟩ false),(Ob.map es)] 96 [])))) (some (Out.ex (Ex.exit 4) (St.mk [(.pointer (some (Addr.mk 3 0 none)))] [] (Hp.mk [o0,o1,(Ob.cells c true),(Ob.cells ⟨[(.slice a n z),(.slice b n2 z2),(.slice (some (Addr.mk 2 off none)) n3 1),(.int .i64 age),(.int .i64 shear)]⟩ false),(Ob.map es)] 96 [])))))
 none)
 none)
 none))))
 none)
 none) (some (Out.ex (Ex.exit 4) (St.mk [(.pointer (some (Addr.mk 3 0 none)))] [] (Hp.mk [o0,o1,(Ob.cells c true),(Ob.cells ⟨[(.slice a n z),(.slice b n2 z2),(.slice (some (Addr.mk 2 off none)) n3 1),(.int .i64 age),(.int .i64 shear)]⟩ false),(Ob.map es)] 96 [])))):=by kernel_rfl
theorem known20c:∃J,Known Try.prog (sh20c.ans J):=by
  refine Known.junk (Known.nothing _) mes20c sh20c ?_
  intro J t f hs hkn
  unfold sh20c at hs
  split at hs
  case h_2=>cases hs
  rename_i code t o0 o1 c a n z b n2 z2 off n3 age shear es G
  split at hs
  case h_2=>cases hs
  rename_i fr off' n' m k er e1 e11 e70 e71 e72
  simp only [Option.some.injEq]at hs
  subst hs
  refine ex_guard fun h1=>ex_guard fun h2=>ex_guard fun h3=>?_
  obtain rfl:=eqCode_eq h1
  have hl:t.length=96:=Nat.eq_of_beq_eq_true h2
  obtain ⟨rfl,rfl,hg,ha,hb,q1,q2,hn,rfl,hk0,tk⟩:=dec_iff.1 h3
  obtain ⟨k,rfl⟩:=Int.eq_ofNat_of_zero_le hk0
  have scs:=And.intro (allsc (n:=5) hg.1) (And.intro (slice_sc ha (show 3≤5 by decide)) (And.intro (slice_sc hb (show 3≤5 by decide)) (And.intro (grOb_sc (n:=5) q1) (And.intro (grOb_sc (n:=5) q2) (And.intro (obSc_map tk 5) (fun l z=>at2_sc (l:=l) (z:=z) (off:=off') (show 2<5 by decide)))))))
  have hsc2:(([o0,o1,.cells c true,.cells ⟨[.slice a n z,.slice b n2 z2,.slice (some ⟨2,off',none⟩) n' 1,.int .i64 age,.int .i64 shear]⟩ false,.map es]:List Ob).all (obSc ([o0,o1,.cells c true,.cells ⟨[.slice a n z,.slice b n2 z2,.slice (some ⟨2,off',none⟩) n' 1,.int .i64 age,.int .i64 shear]⟩ false,.map es]:List Ob).length))=true:=by
    simp [obSc_cells,scs,int_sc]
  have hk2:=keptSelf hsc2
  have use:=fun e' vs hev he hvs=>hkn.loopLeaf (G:=G) noNG mixed (n:=60) (N0:=96) (N:=96) (live:=[(1,pp 3),(11,.int .i64 fr),(70,.slice (some ⟨2,off',none⟩) n' 1),(71,.int .i64 (Int.ofNat n')),(72,.int .i64 (Int.ofNat k))])
    (H0:=[o0,o1,.cells c true,.cells ⟨[.slice a n z,.slice b n2 z2,.slice (some ⟨2,off',none⟩) n' 1,.int .i64 age,.int .i64 shear]⟩ false,.map es]) (pick:=pick20 [1]) (e:=e') (vs:=vs)
    (base:=3) (wr:=[]) (wr1:=[]) (c:=theLoop Try.prog 20 2) (t:=t) hev hl (by
      intro kv hm
      simp only [List.mem_cons,List.not_mem_nil,or_false]at hm
      rcases hm with rfl | rfl | rfl | rfl | rfl
      · exact ⟨e1,rfl,rfl⟩
      · exact ⟨e11,rfl,rfl⟩
      · exact ⟨e70,rfl,rfl⟩
      · exact ⟨e71,rfl,rfl⟩
      · exact ⟨e72,rfl,rfl⟩) (by simp) hsc2 hk2 he hvs
  simp only [List.length_cons,List.length_nil,Nat.zero_add,Nat.reduceAdd]at use
  rw [tree20c]at use
  simp only [Int.ofNat_eq_natCast,Int.toNat_natCast,Nat.mul_one]at use ⊢
  by_cases hin:(k:Int)<(n':Int)
  · obtain ⟨m,hm⟩:∃m,n' - k=m+1:=⟨n' - k-1,by omega⟩
    have hw:IntKind.i64.wrap ((k:Int)+1)=((k+1:Nat):Int):=by rw [wrap64_id (by omega) (by omega)];rfl
    rw [hm]
    have hm':n' - (k+1)=m:=by omega
    have hme:(Nat.sub n' (k+1)).blt (mes20c (.code none (.loop (theLoop Try.prog 20 2)) ⟨t,[],⟨o0::o1::.cells c true::.cells ⟨[.slice a n z,.slice b n2 z2,.slice (some ⟨2,off',none⟩) n' 1,.int .i64 age,.int .i64 shear]⟩ false::.map es::G,3,[]⟩⟩))=true:=by
      simp only [mes20c,e71,e72,Nat.blt_eq,Int.toNat_natCast]
      show n' - (k+1)<n' - k
      omega
    have hok:okA20c c off' n' a b n z n2 z2 o0 o1 (n':Int) ↑(k+1) off' n' es=true:=dec_iff.2 ⟨rfl,rfl,hg,ha,hb,q1,q2,hn,rfl,by omega,tk⟩
    have x0:isInt .i64 c (off'+k)=true:=isInt1 (hg.2 k (by omega))
    simp only [hw,Int.toNat_natCast,hm',hin,decide_true,cond_true,Bool.true_and,Bool.and_self,Int.natCast_nonneg,eqCode_self,hme,hok,Nat.add_zero,x0]at use
    have hE:=cuE.eq_1 c off' k fr
    simp only [inB]at hE
    by_cases hr:cuE c off' k fr=0
    · have e:cuR c off' (m+1) k fr=cuR c off' m (k+1) (getInt c (off'+k)):=by simp only [cuR,hr,if_true]
      simp only [cuB,cuI,cuX,e]at use ⊢
      cases hbb:(cuR c off' m (k+1) (getInt c (off'+k))).bad with
      | true =>
        rw [hbb]at use
        refine use .ret [.int .i64 4,.int .i64 (Int.ofNat (cuR c off' m (k+1) (getInt c (off'+k))).ix),.int .i64 (cuR c off' m (k+1) (getInt c (off'+k))).err] ?_ rfl rfl
        clear use hkn hk2 hsc2 hme hok h1 h2 h3 er hg q1 q2 hl e1 e11 e70 e71 e72 x0 scs e tk ha hb
        repeat' refine cond_hd (fun _=>?_) (fun _=>?_)
        all_goals grind
      | false =>
        rw [hbb]at use
        refine use (.exit 4) [pp 3] ?_ rfl rfl
        clear use hkn hk2 hsc2 hme hok h1 h2 h3 er hg q1 q2 hl e1 e11 e70 e71 e72 x0 scs e tk ha hb
        repeat' refine cond_hd (fun _=>?_) (fun _=>?_)
        all_goals grind [pp]
    · have e:cuR c off' (m+1) k fr=⟨true,k,cuE c off' k fr⟩:=by simp only [cuR,hr,if_false]
      simp only [cuB,cuI,cuX,e]at use ⊢
      refine use .ret [.int .i64 4,.int .i64 k,.int .i64 (cuE c off' k fr)] ?_ rfl rfl
      clear use hkn hk2 hsc2 hme hok h1 h2 h3 er hg q1 q2 hl e1 e11 e70 e71 e72 x0 scs e tk ha hb
      repeat' refine cond_hd (fun _=>?_) (fun _=>?_)
      all_goals first
        | (have h7:cuE c off' k fr=7:=by
             simp only [Bool.not_eq_true',Bool.not_eq_false',decide_eq_true_eq,decide_eq_false_iff_not,Bool.and_eq_false_iff]at *
             rw [hE,if_pos (by omega)]
           rw [h7];done)
        | (have h7:cuE c off' k fr=2:=by
             simp only [Bool.not_eq_true',Bool.not_eq_false',decide_eq_true_eq,decide_eq_false_iff_not,Bool.and_eq_false_iff]at *
             rw [hE,if_neg (by omega),if_pos (by omega)]
           rw [h7];done)
        | (exfalso
           refine hr ?_
           clear hr
           simp only [Bool.not_eq_true',Bool.not_eq_false',decide_eq_true_eq,decide_eq_false_iff_not,Bool.and_eq_false_iff]at *
           rw [hE,if_neg (by omega),if_neg (by omega)])
  · have h0:n' - k=0:=by omega
    rw [h0]
    refine use (.exit 4) [pp 3] ?_ rfl rfl
    simp only [hin,decide_false,cond_false]
    try rfl
end
end Go.Proofs.Ytfnogghclaijlaa.Old
namespace Go.Proofs.Ytfnogghclaijlaa.Old
open Go.Gi Go.RowKit
noncomputable section
def soK (c:Array Value)(x:Nat):Value:=mkV ByteArray.empty (getInt c x) (getInt c (x+1)) (getInt c (x+2))
def sqR (c0:Array Value)(off0 n:Nat)(c:Array Value)(x:Nat):Int :=
  if inB (getInt c x) 0 ((n:Int)-1)=false then 4
  else if inB (getInt c (x+1)) 0 100000=false ∨
    inB (getInt c (x+2)) (getInt c0 (off0+(getInt c x).toNat*7+5)) (getInt c0 (off0+(getInt c x).toNat*7+6))=false ∨
    inB (getInt c (x+3)) (-20000) 20000=false∨inB (getInt c (x+4)) (-20000) 20000=false then 7 else 0
def sqF (c0:Array Value)(off0:Nat)(c:Array Value)(off k:Nat):Int :=
  if getInt c0 (off0+(getInt c (off+k*5)).toNat*7+1)=2∧flS c off (getInt c (off+k*5)) (getInt c (off+k*5+1)) (getInt c (off+k*5+2)) k=true then 2 else 0
def sqE (c0:Array Value)(off0 n:Nat)(c:Array Value)(off k:Nat)(es:Es):Int :=
  if sqR c0 off0 n c (off+k*5)=0 then (if tkL es (soK c (off+k*5))=true then 5 else sqF c0 off0 c off k) else sqR c0 off0 n c (off+k*5)
def sqM (c0:Array Value)(off0 n:Nat)(c:Array Value)(off k:Nat)(es:Es):Es :=
  if sqR c0 off0 n c (off+k*5)=0 then (if tkL es (soK c (off+k*5))=true then es else tkU es (soK c (off+k*5))) else es
def sbR (c0:Array Value)(off0 n:Nat)(c:Array Value)(off:Nat):Nat→Nat→Es→Sa
  | 0,_,es=>⟨false,0,0,es⟩
  | m+1,k,es=>if sqE c0 off0 n c off k es=0 then sbR c0 off0 n c off m (k+1) (sqM c0 off0 n c off k es) else ⟨true,k,sqE c0 off0 n c off k es,sqM c0 off0 n c off k es⟩
def sbB (c0:Array Value)(off0 n:Nat)(c:Array Value)(off m k:Nat)(es:Es):Bool:=(sbR c0 off0 n c off m k es).bad
def sbI (c0:Array Value)(off0 n:Nat)(c:Array Value)(off m k:Nat)(es:Es):Nat:=(sbR c0 off0 n c off m k es).ix
def sbE (c0:Array Value)(off0 n:Nat)(c:Array Value)(off m k:Nat)(es:Es):Int:=(sbR c0 off0 n c off m k es).err
def sbM (c0:Array Value)(off0 n:Nat)(c:Array Value)(off m k:Nat)(es:Es):Es:=(sbR c0 off0 n c off m k es).es
def okA20b (c0:Array Value)(off0 n:Nat)(c:Array Value)(off n2:Nat)(d:Option Addr)(n3 z3:Nat)(o2:Ob)(m k:Int)(es:Es):Bool :=
  dec (GoodL L7 c0 off0 n∧GoodL L5 c off n2∧sc1 3 (.slice d n3 z3)=true∧grOb o2∧n≤6∧n2≤60∧m=n2∧0≤k∧TakenM es)
def sh20b:Shape
  | .code none (.loop code) ⟨t,[],⟨.cells c0 true::.cells c true::o2::.cells ⟨[.slice (some ⟨0,off0,none⟩) n 7,.slice (some ⟨1,off,none⟩) n2 5,.slice d n3 z3,.int .i64 age,.int .i64 shear]⟩ false::.map es::G,3,[]⟩⟩ =>
    match Nat.beq (firstReg code) 12,lget t 1,lget t 5,lget t 56,lget t 57 with
    | true,.pointer (some ⟨3,0,none⟩),.map (some 4),.int .i64 m,.int .i64 k=>some fun j =>
      .br (eqCode code (theLoop Try.prog 20 1)) (.br (Nat.beq t.length 96) (.br (okA20b c0 off0 n c off n2 d n3 z3 o2 m k es) (.br (sbB c0 off0 n c off (n2-k.toNat) k.toNat es)
          (loopEnd 96 .ret [(2,.int .i64 3),(3,.int .i64 (Int.ofNat (sbI c0 off0 n c off (n2-k.toNat) k.toNat es))),(4,.int .i64 (sbE c0 off0 n c off (n2-k.toNat) k.toNat es))]
            ⟨.cells c0 true::.cells c true::o2::.cells ⟨[.slice (some ⟨0,off0,none⟩) n 7,.slice (some ⟨1,off,none⟩) n2 5,.slice d n3 z3,.int .i64 age,.int .i64 shear]⟩ false::.map (sbM c0 off0 n c off (n2-k.toNat) k.toNat es)::G,3,[]⟩ j)
          (loopEnd 96 (.exit 2) [(1,pp 3)]
            ⟨.cells c0 true::.cells c true::o2::.cells ⟨[.slice (some ⟨0,off0,none⟩) n 7,.slice (some ⟨1,off,none⟩) n2 5,.slice d n3 z3,.int .i64 age,.int .i64 shear]⟩ false::.map (sbM c0 off0 n c off (n2-k.toNat) k.toNat es)::G,3,[]⟩ j)) .no) .no) .no
    | _,_,_,_,_=>none
  | _=>none
def mes20b:Task→Nat
  | .code _ _ s=>match lget s.t 56,lget s.t 57 with
    | .int _ n,.int _ i=>Nat.sub n.toNat i.toNat
    | _,_=>0
  | _=>0
end
end Go.Proofs.Ytfnogghclaijlaa.Old
