/- Part 1 of the texts below the claim. Conditions: none. -/
import Derived.RangeFuncLeaves
import Derived.RangeFuncRecord
import Derived.RecoverIn
import Derived.Below
import Derived.Laws.World
import Derived.Laws.Cells
import Derived.Laws.Append
set_option linter.unusedVariables false
set_option linter.unusedSimpArgs false
namespace Go.Gi
open Go.RowKit
structure Phi where
 f:Nat→Option (Nat×Nat×Nat)
 z:Nat→Option Obj
instance:CoeFun Phi (fun _=>Nat→Option (Nat×Nat×Nat)):=⟨Phi.f⟩
structure le (φ ψ:Phi):Prop where
 fn:∀b x,φ.f b=some x→ψ.f b=some x
 zz:∀B o,φ.z B=some o→ψ.z B=some o
instance {φ ψ:Phi}:CoeFun (le φ ψ) (fun _=>∀b x,φ.f b=some x→ψ.f b=some x):=⟨le.fn⟩
theorem le_refl (φ:Phi):le φ φ:=⟨fun _ _ h=>h,fun _ _ h=>h⟩
theorem le_trans {φ ψ χ:Phi}(h:le φ ψ) (k:le ψ χ):le φ χ:=⟨fun b x hb=>k b x (h b x hb),fun B o hB=>k.zz B o (h.zz B o hB)⟩
inductive OR {α β:Type} (R:α→β→Prop):Option α→Option β→Prop
 | none:OR R none none
 | some {a:α} {b:β} (h:R a b):OR R (some a) (some b)
theorem OR.mono {α β:Type}{R S:α→β→Prop}(hRS:∀a b,R a b→S a b) {x:Option α}{y:Option β}(h:OR R x y):OR S x y:=by
 cases h with
 | none=>exact .none
 | some h=>exact .some (hRS _ _ h)
def plainFn:Fn→Bool
 | .yield _=>false
 | .via 0 ⟨[]⟩ 0 _=>false
 | _=>true
def notB:Value→Bool
 | .bool _=>false
 | _=>true
def g0:Value→Bool
 | .bool _ | .int _ _ | .float _ _ | .complex _ _ _ | .string _ | .pointer none | .map none | .nilFunc | .nilIface=>true
 | .slice none l c=>l == 0&&c == 0
 | _=>false
abbrev lstV (c:Array Value) (off len sz:Nat):Value:=.func (.via 0 ⟨[]⟩ 0 true) c #[.slice (some ⟨0,off,none⟩) len sz]
abbrev dptV (c:Array Value) (off:Nat):Value:=.func (.via 0 ⟨[]⟩ 0 false) c #[.pointer (some ⟨0,off,none⟩)]
inductive FR (z:Nat→Option Obj):Value→Value→Prop
 | gnd {v:Value} (h:g0 v=true):FR z v v
 | agg {cs cs':Array Value} (h1:cs.size=cs'.size) (h2:∀i,i<cs.size→FR z (cs.getD i undef) (cs'.getD i undef)):FR z (.agg cs) (.agg cs')
 | iface (t:TypeId) {v v':Value} (h:FR z v v'):FR z (.iface t v) (.iface t v')
 | fn {g:FuncId} {first first' cap cap':Array Value} (h1:first.size=first'.size) (h2:∀i,i<first.size→FR z (first.getD i undef) (first'.getD i undef))
   (h3:cap.size=cap'.size) (h4:∀i,i<cap.size→FR z (cap.getD i undef) (cap'.getD i undef)):FR z (.func (.func g) first cap) (.func (.func g) first' cap')
 | lst {c C:Array Value} {el:TypeId} {fr:Nat×Nat} {off len sz cap' B base:Nat} (hz:z B=some (.cells C el fr)) (h1:base+c.size≤C.size)
   (h2:∀i,i<c.size→FR z (c.getD i undef) (C.getD (base+i) undef)) (hl:len≤cap') (hc:off+len*sz≤c.size):FR z (lstV c off len sz) (.slice (some ⟨B,base+off,none⟩) len cap')
 | lstZ (c:Array Value) (off sz:Nat) (a':Option Addr):FR z (lstV c off 0 sz) (.slice a' 0 0)
 | dpt {c C:Array Value} {el:TypeId} {fr:Nat×Nat} {off B base:Nat} (hz:z B=some (.cells C el fr)) (h1:base+c.size≤C.size)
   (h2:∀i,i<c.size→FR z (c.getD i undef) (C.getD (base+i) undef)):FR z (dptV c off) (.pointer (some ⟨B,base+off,none⟩))
theorem FR.mono {z z':Nat→Option Obj}(hz:∀B o,z B=some o→z' B=some o) {v v':Value}(h:FR z v v'):FR z' v v':=by
 induction h with
 | gnd h=>exact .gnd h
 | agg h1 _ ih=>exact .agg h1 ih
 | iface t _ ih=>exact .iface t ih
 | fn h1 _ h3 _ ih2 ih4=>exact .fn h1 ih2 h3 ih4
 | lst h h1 _ hl hc ih=>exact .lst (hz _ _ h) h1 ih hl hc
 | lstZ c off sz a'=>exact .lstZ c off sz a'
 | dpt h h1 _ ih=>exact .dpt (hz _ _ h) h1 ih
inductive VR (φ:Phi):Value→Value→Prop
 | bool (b:Bool):VR φ (.bool b) (.bool b)
 | int (k:IntKind) (n:Int):VR φ (.int k n) (.int k n)
 | float (k:FloatKind) (n:Nat):VR φ (.float k n) (.float k n)
 | complex (k:FloatKind) (n m:Nat):VR φ (.complex k n m) (.complex k n m)
 | string (s:ByteArray):VR φ (.string s) (.string s)
 | ptrN:VR φ (.pointer none) (.pointer none)
 | ptr {b off B base tot:Nat} (h:φ b=some (B,base,tot)):VR φ (.pointer (some ⟨b,off,none⟩)) (.pointer (some ⟨B,base+off,none⟩))
 | sliceN:VR φ (.slice none 0 0) (.slice none 0 0)
 | sliceZ {a:Addr} {x:Nat×Nat×Nat} (h:φ a.block=some x) (a':Addr) (c:Nat):VR φ (.slice (some a) 0 c) (.slice (some a') 0 0)
 | slice {b off len sz cap' B base tot:Nat} (h:φ b=some (B,base,tot)) (hl:len≤cap') (hc:off+cap'*sz≤tot) :
   VR φ (.slice (some ⟨b,off,none⟩) len sz) (.slice (some ⟨B,base+off,none⟩) len cap')
 | mapN:VR φ (.map none) (.map none)
 | map {r B tot:Nat} (h:φ r=some (B,0,tot)):VR φ (.map (some r)) (.map (some B))
 | fn {g:Fn} {first first' cap cap':Array Value} (hg:plainFn g=true) (h1:first.size=first'.size) (h2:∀i,i<first.size→VR φ (first.getD i undef) (first'.getD i undef))
   (h3:cap.size=cap'.size) (h4:∀i,i<cap.size→VR φ (cap.getD i undef) (cap'.getD i undef)):VR φ (.func g first cap) (.func g first' cap')
 | yield {l B tot:Nat} (h:φ l=some (B,0,tot)):VR φ (.func (.yield l) #[] #[]) (.func (.yield B) #[] #[])
 | nilFunc:VR φ .nilFunc .nilFunc
 | nilIface:VR φ .nilIface .nilIface
 | iface (t:TypeId) {v v':Value} (h:VR φ v v'):VR φ (.iface t v) (.iface t v')
 | agg {cs cs':Array Value} (h1:cs.size=cs'.size) (h2:∀i,i<cs.size→VR φ (cs.getD i undef) (cs'.getD i undef)):VR φ (.agg cs) (.agg cs')
 | tuple {cs cs':Array Value} (h1:cs.size=cs'.size) (h2:∀i,i<cs.size→VR φ (cs.getD i undef) (cs'.getD i undef)):VR φ (.tuple cs) (.tuple cs')
 | top (v':Value) (h:notB v'=true):VR φ (.tuple #[]) v'
 | fz {b:Bool} {c k:Array Value} {v':Value} (h:FR φ.z (.func (.via 0 ⟨[]⟩ 0 b) c k) v'):VR φ (.func (.via 0 ⟨[]⟩ 0 b) c k) v'
theorem VR.mono {φ ψ:Phi}(hle:le φ ψ) {v v':Value}(h:VR φ v v'):VR ψ v v':=by
 induction h with
 | bool b=>exact .bool b
 | int k n=>exact .int k n
 | float k n=>exact .float k n
 | complex k n m=>exact .complex k n m
 | string s=>exact .string s
 | ptrN=>exact .ptrN
 | ptr h=>exact .ptr (hle _ _ h)
 | sliceN=>exact .sliceN
 | sliceZ h a' c=>exact .sliceZ (hle _ _ h) a' c
 | slice h hl hl'=>exact .slice (hle _ _ h) hl hl'
 | mapN=>exact .mapN
 | map h=>exact .map (hle _ _ h)
 | fn hg h1 _ h3 _ ih2 ih4=>exact .fn hg h1 ih2 h3 ih4
 | yield h=>exact .yield (hle _ _ h)
 | nilFunc=>exact .nilFunc
 | nilIface=>exact .nilIface
 | iface t _ ih=>exact .iface t ih
 | agg h1 _ ih=>exact .agg h1 ih
 | tuple h1 _ ih=>exact .tuple h1 ih
 | top v' h=>exact .top v' h
 | fz h=>exact .fz (h.mono hle.zz)
theorem FR.lst_inv {z:Nat→Option Obj}{c:Array Value}{b off len sz:Nat} {v':Value}(h:FR z (.func (.via 0 ⟨[]⟩ 0 true) c #[.slice (some ⟨b,off,none⟩) len sz]) v') :
  (∃(C:Array Value) (el:TypeId) (fr:Nat×Nat) (cap' B base:Nat),b=0∧v'=.slice (some ⟨B,base+off,none⟩) len cap'∧z B=some (.cells C el fr)∧base+c.size≤C.size ∧
    (∀i,i<c.size→FR z (c.getD i undef) (C.getD (base+i) undef))∧len≤cap'∧off+len*sz≤c.size)∨(∃(a':Option Addr),b=0∧len=0∧v'=.slice a' 0 0):=by
 cases h with
 | gnd h=>cases h
 | lst hz h1 h2 hl hc=>exact .inl ⟨_,_,_,_,_,_,rfl,rfl,hz,h1,h2,hl,hc⟩
 | lstZ c off sz a'=>exact .inr ⟨_,rfl,rfl,rfl⟩
theorem FR.dpt_inv {z:Nat→Option Obj}{c:Array Value}{b off:Nat} {v':Value}(h:FR z (.func (.via 0 ⟨[]⟩ 0 false) c #[.pointer (some ⟨b,off,none⟩)]) v') :
  ∃(C:Array Value) (el:TypeId) (fr:Nat×Nat) (B base:Nat),b=0∧v'=.pointer (some ⟨B,base+off,none⟩)∧z B=some (.cells C el fr)∧base+c.size≤C.size ∧
   (∀i,i<c.size→FR z (c.getD i undef) (C.getD (base+i) undef)):=by
 cases h with
 | gnd h=>cases h
 | dpt hz h1 h2=>exact ⟨_,_,_,_,_,rfl,rfl,hz,h1,h2⟩
theorem FR.notB {z:Nat→Option Obj}{b:Bool}{c k:Array Value} {v':Value}(h:FR z (.func (.via 0 ⟨[]⟩ 0 b) c k) v'):notB v'=true:=by
 cases h<;>first | rfl | (rename_i hg;cases hg)
def VRs (φ:Phi)(xs ys:Array Value):Prop:=∀i:Nat,OR (VR φ) xs[i]? ys[i]?
theorem VRs.size {φ:Phi}{xs ys:Array Value}(h:VRs φ xs ys):xs.size=ys.size:=by
 rcases Nat.lt_trichotomy xs.size ys.size with hlt | he | hgt
 ·have h1:=h xs.size
  rw[Array.getElem?_eq_none (Nat.le_refl _),Array.getElem?_eq_getElem hlt]at h1
  cases h1
 ·exact he
 ·have h1:=h ys.size
  rw[Array.getElem?_eq_none (Nat.le_refl ys.size),Array.getElem?_eq_getElem hgt]at h1
  cases h1
theorem VRs.getD {φ:Phi}{xs ys:Array Value}(h:VRs φ xs ys) (i:Nat):VR φ (xs.getD i undef) (ys.getD i undef):=by
 have:=h i;rw[Array.getD_eq_getD_getElem?,Array.getD_eq_getD_getElem?]
 generalize xs[i]?=x at this
 generalize ys[i]?=y at this
 cases this with
 | none=>exact .tuple rfl (fun i hi=>absurd hi (Nat.not_lt_zero _))
 | some h=>exact h
theorem VRs.of {φ:Phi}{xs ys:Array Value}(h1:xs.size=ys.size) (h2:∀i,i<xs.size→VR φ (xs.getD i undef) (ys.getD i undef)):VRs φ xs ys:=by
 intro i
 by_cases hi:i<xs.size
 ·have:=h2 i hi
  rw[Array.getD_eq_getD_getElem?,Array.getD_eq_getD_getElem?,Array.getElem?_eq_getElem hi,Array.getElem?_eq_getElem (h1 ▸ hi)]at this
  rw[Array.getElem?_eq_getElem hi,Array.getElem?_eq_getElem (h1 ▸ hi)]
  exact .some this
 ·rw[Array.getElem?_eq_none (by omega),Array.getElem?_eq_none (by omega)]
  exact .none
theorem VRs.mono {φ ψ:Phi}(hle:le φ ψ) {xs ys:Array Value}(h:VRs φ xs ys):VRs ψ xs ys:=fun i=>(h i).mono fun _ _=>VR.mono hle
theorem VRs.agg {φ:Phi}{xs ys:Array Value}(h:VRs φ xs ys):VR φ (.agg xs) (.agg ys):=.agg h.size (fun i _=>h.getD i)
theorem VRs.tuple {φ:Phi}{xs ys:Array Value}(h:VRs φ xs ys):VR φ (.tuple xs) (.tuple ys):=.tuple h.size (fun i _=>h.getD i)
theorem VR.agg_inv {φ:Phi}{xs:Array Value} {v':Value}(h:VR φ (.agg xs) v'):∃ys,v'=.agg ys∧VRs φ xs ys:=by
 cases h with
 | agg h1 h2=>exact ⟨_,rfl,.of h1 h2⟩
theorem VR.tuple_inv {φ:Phi}{xs:Array Value} {v':Value}(h:VR φ (.tuple xs) v') (hn:xs.toList.isEmpty=false):∃ys,v'=.tuple ys∧VRs φ xs ys:=by
 cases h with
 | tuple h1 h2=>exact ⟨_,rfl,.of h1 h2⟩
 | top v' h=>cases hn
def notT:Value→Bool
 | .tuple _=>false
 | _=>true
theorem VR.undef (φ:Phi):VR φ undef undef:=.tuple rfl (fun _ hi=>absurd hi (Nat.not_lt_zero _))
theorem VRs.nil (φ:Phi):VRs φ #[] #[]:=fun i=>by simp;exact .none
theorem VRs.push {φ:Phi}{xs ys:Array Value} {v v':Value}(h:VRs φ xs ys) (hv:VR φ v v'):VRs φ (xs.push v) (ys.push v'):=by
 intro i
 rw[Array.getElem?_push,Array.getElem?_push,← h.size]
 split
 ·exact .some hv
 ·exact h i
theorem VRs.append {φ:Phi}{xs ys us vs:Array Value}(h:VRs φ xs ys) (k:VRs φ us vs):VRs φ (xs++us) (ys++vs):=by
 intro i
 rw[Array.getElem?_append,Array.getElem?_append,← h.size]
 split
 ·exact h i
 ·exact k _
theorem VRs.set {φ:Phi}{xs ys:Array Value} {v v':Value}(h:VRs φ xs ys) (hv:VR φ v v') (j:Nat):VRs φ (xs.setIfInBounds j v) (ys.setIfInBounds j v'):=by
 intro i
 rw[Array.getElem?_setIfInBounds,Array.getElem?_setIfInBounds,← h.size]
 split
 ·split
  ·exact .some hv
  ·exact .none
 ·exact h i
theorem VRs.extract {φ:Phi}{xs ys:Array Value}(h:VRs φ xs ys) (a b:Nat):VRs φ (xs.extract a b) (ys.extract a b):=by
 intro i
 rw[Array.getElem?_extract,Array.getElem?_extract,← h.size]
 split
 ·exact h _
 ·exact .none
theorem VRs.replicate (φ:Phi)(n:Nat) {v v':Value}(h:VR φ v v'):VRs φ (Array.replicate n v) (Array.replicate n v'):=by
 intro i
 rw[Array.getElem?_replicate,Array.getElem?_replicate]
 split
 ·exact .some h
 ·exact .none
theorem VRs.one {φ:Phi} {v v':Value}(h:VR φ v v'):VRs φ #[v] #[v']:=(VRs.nil φ).push h
theorem VR.cells {φ:Phi} {v v':Value}(h:VR φ v v') (hn:notT v=true):VRs φ v.cells v'.cells:=by
 cases h with
 | top v' _=>cases hn
 | tuple _ _=>cases hn
 | agg h1 h2=>exact .of h1 h2
 | fz h =>
  have e:v'.cells=#[v']:=by cases h<;>first | rfl | (rename_i hg;cases hg)
  rw[e];exact VRs.one (.fz h)
 | _=>refine VRs.one ?_;first | (constructor;done) | (constructor<;>assumption)
def gA:Value→Bool
 | .agg cs=>cs.toList.all g0
 | v=>g0 v
def gr:Value→Bool
 | .tuple vs=>!vs.toList.isEmpty&&vs.toList.all gA
 | .iface _ v=>gA v
 | v=>gA v
theorem g0_refl {φ:Phi}{v:Value}(h:g0 v=true):VR φ v v:=by
 unfold g0 at h
 split at h<;>first | constructor | skip
 ·simp at h;obtain ⟨rfl,rfl⟩:=h;exact .sliceN
 ·cases h
theorem g0_eq {φ:Phi} {v v':Value}(h:g0 v=true) (hv:VR φ v v'):v'=v:=by
 cases hv<;>first | rfl | (simp [g0]at h)
theorem gAll {φ:Phi}{p:Value→Bool}(hp:∀v,p v=true→VR φ v v) {cs:Array Value}(h:cs.toList.all p=true):VRs φ cs cs:=by
 intro i
 cases hc:cs[i]? with
 | none=>exact .none
 | some v =>
  refine .some (hp v ?_)
  rw[List.all_eq_true]at h
  exact h v (by rw[Array.mem_toList_iff];exact Array.mem_of_getElem? hc)
theorem gAllEq {φ:Phi}{p:Value→Bool}(hp:∀v v',p v=true→VR φ v v'→v'=v) {cs cs':Array Value}(h:cs.toList.all p=true) (hv:VRs φ cs cs'):cs'=cs:=by
 apply Array.ext_getElem?
 intro i;have hi:=hv i
 cases hc:cs[i]? with
 | none=>rw[hc]at hi;generalize cs'[i]?=y at hi;cases hi;rfl
 | some v =>
  rw[hc]at hi
  generalize cs'[i]?=y at hi
  cases hi with
  | some hv=>rw[hp _ _ ?_ hv];rw[List.all_eq_true]at h;exact h v (by rw[Array.mem_toList_iff];exact Array.mem_of_getElem? hc)
theorem gA_notT {v:Value}(h:gA v=true):notT v=true:=by
 cases v<;>first | rfl | (simp [gA,g0]at h)
theorem gA_refl {φ:Phi}{v:Value}(h:gA v=true):VR φ v v:=by
 unfold gA at h
 split at h
 ·exact (gAll (fun _=>g0_refl) h).agg
 ·exact g0_refl h
theorem gA_eq {φ:Phi} {v v':Value}(h:gA v=true) (hv:VR φ v v'):v'=v:=by
 unfold gA at h
 split at h
 ·obtain ⟨ys,rfl,hs⟩:=hv.agg_inv
  rw[gAllEq (fun _ _=>g0_eq) h hs]
 ·exact g0_eq h hv
theorem gr_refl {φ:Phi}{v:Value}(h:gr v=true):VR φ v v:=by
 unfold gr at h
 split at h
 ·rw[Bool.and_eq_true]at h;exact (gAll (fun _=>gA_refl) h.2).tuple
 ·exact .iface _ (gA_refl h)
 ·exact gA_refl h
theorem gr_eq {φ:Phi} {v v':Value}(h:gr v=true) (hv:VR φ v v'):v'=v:=by
 unfold gr at h
 split at h
 ·rw[Bool.and_eq_true]at h
  obtain ⟨ys,rfl,hs⟩:=hv.tuple_inv (by simpa using h.1)
  rw[gAllEq (fun _ _=>gA_eq) h.2 hs]
 ·cases hv with
  | iface t hv=>rw[gA_eq h hv]
 ·exact gA_eq h hv
inductive Ob where
 | dead
 | cells (c:Array Value) (ro:Bool)
 | map (es:List (Value×Value))
 | loop (st:LoopState) (pend:Option Code) (tmps:Array Value) (ps:Array Tmp) (assign body:Code) (dfr:Nat)
 | dfr (shut:Bool)
 deriving Inhabited
def Ob.live:Ob→Bool
 | .dead=>false
 | _=>true
def Ob.rw:Ob→Bool
 | .dead=>false
 | .cells _ ro=>!ro
 | _=>true
def NF (fr:Nat×Nat)(base tot:Nat):Prop:=fr.1=fr.2∨base+tot≤fr.1
theorem NF.at {fr:Nat×Nat}{base tot:Nat}(h:NF fr base tot) (i:Nat) (hi:i<tot):¬(fr.1≤base+i∧base+i<fr.2):=by
 rcases h with h | h<;>omega
theorem NF.zero (base tot:Nat):NF (0,0) base tot:=.inl rfl
def ObR (φ:Phi)(w:World):Ob→Nat→Nat→Nat→Prop
 | .dead,_,_,_=>True
 | .cells c ro,B,base,tot=>∃C el fr,w.heap[B]?=some (.cells C el fr)∧(∀(i:Nat) (v:Value),c[i]?=some v→∃v',C[base+i]?=some v'∧VR φ v v') ∧
   (ro=false→c.size≤tot∧base+tot≤C.size∧NF fr base tot)
 | .map es,B,base,_=>base=0∧∃(E:Array MapEntry) (clock:Nat),w.heap[B]?=some (.map E clock)∧E.size=es.length∧∀(i:Nat) (k v:Value),es[i]?=some (k,v)→∃en:MapEntry,(E:Array MapEntry)[i]?=some en∧en.key=k∧VR φ v en.val
 | .loop st pend tmps ps assign body dfr,B,base,_=>base=0∧∃fn tmps' D',w.heap[B]?=some (.loop { state:=st,pending:=pend,fn,tmps:=tmps',params:=ps,assign,body,defers:=D' })∧VRs φ tmps tmps'∧∃td,φ dfr=some (D',0,td)
 | .dfr shut,B,base,_=>base=0∧w.heap[B]?=some (.deferred (if shut then none else some []))
theorem ObR.keep {φ ψ:Phi} {w w':World}{ob:Ob}{B base tot:Nat}(h:ObR φ w ob B base tot) (hle:le φ ψ) (hw:w'.heap[B]?=w.heap[B]?):ObR ψ w' ob B base tot:=by
 cases ob with
 | dead=>trivial
 | cells c ro =>
  obtain ⟨C,el,fr,h1,h2,h3⟩:=h
  exact ⟨C,el,fr,hw.trans h1,fun i v hv=>let ⟨v',hv',r⟩:=h2 i v hv;⟨v',hv',r.mono hle⟩,h3⟩
 | map es =>
  obtain ⟨h0,E,clock,h1,h2,h3⟩:=h
  exact ⟨h0,E,clock,hw.trans h1,h2,fun i k v hv=>let ⟨en,he,hk,r⟩:=h3 i k v hv;⟨en,he,hk,r.mono hle⟩⟩
 | loop st pend tmps ps assign body dfr =>
  obtain ⟨h0,fn,tmps',D',h1,h2,td,h3⟩:=h;exact ⟨h0,fn,tmps',D',hw.trans h1,h2.mono hle,td,hle _ _ h3⟩
 | dfr shut =>
  obtain ⟨h0,h1⟩:=h;exact ⟨h0,hw.trans h1⟩
theorem ObR.lt {φ:Phi}{w:World}{ob:Ob}{B base tot:Nat}(h:ObR φ w ob B base tot) (hl:ob.live=true):B<w.heap.size:=by
 have key:∀{o:Obj},w.heap[B]?=some o→B<w.heap.size:=fun h=>(Array.getElem?_eq_some_iff.1 h).1
 cases ob with
 | dead=>cases hl
 | cells c ro=>obtain ⟨C,el,fr,h1,_⟩:=h;exact key h1
 | map es=>obtain ⟨_,E,clock,h1,_⟩:=h;exact key h1
 | loop st pend tmps ps assign body dfr=>obtain ⟨_,fn,tmps',D',h1,_⟩:=h;exact key h1
 | dfr shut=>obtain ⟨_,h1⟩:=h;exact key h1
theorem Ob.live_of_rw {ob:Ob}(h:ob.rw=true):ob.live=true:=by cases ob<;>first | rfl | cases h
structure Inv (K:Nat→Prop) (w0:World) (φ:Phi) (H:List Ob) (w:World):Prop where
 obs:∀b ob,H[b]?=some ob→ob.live=true→∃B base tot,φ b=some (B,base,tot)∧ObR φ w ob B base tot
 sep:∀b b' ob ob' x y,b≠b'→H[b]?=some ob→H[b']?=some ob'→ob.rw=true→ob'.live=true→φ b=some x→φ b'=some y→x.1≠y.1
 prot:∀b ob x,H[b]?=some ob→ob.rw=true→φ b=some x→¬K x.1
 keep:∀k,K k→w.heap[k]?=w0.heap[k]?
 klt:∀k,K k→k<w0.heap.size
 size:w0.heap.size≤w.heap.size
 os:w.os=w0.os
 tape:w.tape=w0.tape
 output:w.output=w0.output
 top:∀b,H.length≤b→φ b=none
 frz:∀B o,φ.z B=some o→w.heap[B]?=some o
 zsep:∀b ob x,H[b]?=some ob→ob.rw=true→φ b=some x→φ.z x.1=none
 zk:∀k,K k→φ.z k=none
def up (φ:Phi)(n:Nat)(x:Nat×Nat×Nat):Phi:=⟨fun b=>if b=n then some x else φ b,φ.z⟩
theorem up_same (φ:Phi)(n:Nat)(x:Nat×Nat×Nat):up φ n x n=some x:=by simp [up]
theorem up_other (φ:Phi) {n b:Nat}(x:Nat×Nat×Nat) (h:b≠n):up φ n x b=φ b:=by simp [up,h]
theorem le_up {φ:Phi}{n:Nat}{x:Nat×Nat×Nat}(h:φ n=none):le φ (up φ n x):=by
 refine ⟨?_,fun _ _ h=>h⟩
 intro b y hb
 by_cases e:b=n
 ·subst e;rw[h]at hb;cases hb
 ·rw[up_other φ x e];exact hb
variable {K:Nat→Prop}{w0 w:World} {φ:Phi}{H:List Ob}
theorem Inv.drew (h:Inv K w0 φ H w):Inv K w0 φ H w.drew:=⟨fun b ob hb hl=>let ⟨B,base,tot,h1,h2⟩:=h.obs b ob hb hl;⟨B,base,tot,h1,h2.keep (le_refl _) rfl⟩,h.sep,h.prot,h.keep,h.klt,h.size,h.os,h.tape,h.output,h.top,h.frz,h.zsep,h.zk⟩
theorem Inv.alloc (h:Inv K w0 φ H w)(ob:Ob)(o:Obj)(tot:Nat)
  (hob:ObR (up φ H.length (w.heap.size,0,tot)) (w.alloc o) ob w.heap.size 0 tot):Inv K w0 (up φ H.length (w.heap.size,0,tot)) (H++[ob]) (w.alloc o):=by
 have hnone:φ H.length=none:=h.top _ (Nat.le_refl _);have hle:=le_up (x:=(w.heap.size,0,tot)) hnone
 have hnew:∀{b:Nat} {ob':Ob},(H++[ob])[b]?=some ob'→(b<H.length∧H[b]?=some ob')∨(b=H.length∧ob'=ob):=by
  intro b ob' hb
  rcases Nat.lt_or_ge b H.length with hlt | hge
  ·rw[List.getElem?_append_left hlt]at hb;exact .inl ⟨hlt,hb⟩
  ·rw[List.getElem?_append_right hge]at hb
   rcases Nat.eq_or_lt_of_le hge with e | hlt
   ·subst e;simp at hb;exact .inr ⟨rfl,hb.symm⟩
   ·rw[List.getElem?_eq_none (by simp;omega)]at hb;cases hb
 have hold:∀{b:Nat} {ob':Ob} {x:Nat×Nat×Nat},H[b]?=some ob'→ob'.live=true→φ b=some x→x.1<w.heap.size:=by
  intro b ob' x hb hl hx;obtain ⟨B,base,tot',h1,h2⟩:=h.obs b ob' hb hl;rw[h1]at hx;cases hx;exact h2.lt hl
 refine ⟨?_,?_,?_,?_,h.klt,Nat.le_trans h.size (by simp),h.os,h.tape,h.output,?_,?_,?_,h.zk⟩
 ·intro b ob' hb hl
  rcases hnew hb with ⟨hlt,hb'⟩ | ⟨rfl,rfl⟩
  ·obtain ⟨B,base,tot',h1,h2⟩:=h.obs b ob' hb' hl
   exact ⟨B,base,tot',hle _ _ h1,h2.keep hle (Below.heap_alloc w o B (h2.lt hl))⟩
  ·exact ⟨_,_,_,up_same _ _ _,hob⟩
 ·intro b b' ob1 ob2 x y hne hb hb' hrw hl hx hy
  rcases hnew hb with ⟨hlt,hb1⟩ | ⟨rfl,rfl⟩
  ·rcases hnew hb' with ⟨hlt',hb2⟩ | ⟨rfl,rfl⟩
   ·rw[up_other _ _ (by omega)]at hx hy
    exact h.sep b b' ob1 ob2 x y hne hb1 hb2 hrw hl hx hy
   ·rw[up_same]at hy;cases hy
    rw[up_other _ _ (by omega)]at hx
    have:=hold hb1 (Ob.live_of_rw hrw) hx;simp only;omega
  ·rcases hnew hb' with ⟨hlt',hb2⟩ | ⟨rfl,_⟩
   ·rw[up_same]at hx;cases hx
    rw[up_other _ _ (by omega)]at hy
    have:=hold hb2 hl hy;simp only;omega
   ·exact absurd rfl hne
 ·intro b ob' x hb hrw hx
  rcases hnew hb with ⟨hlt,hb'⟩ | ⟨rfl,rfl⟩
  ·rw[up_other _ _ (by omega)]at hx
   exact h.prot b ob' x hb' hrw hx
  ·rw[up_same]at hx;cases hx
   intro hk;have:=h.klt _ hk;have:=h.size;simp only at *;omega
 ·intro k hk
  have:=h.klt k hk;have:=h.size
  exact (Below.heap_alloc w o k (by omega)).trans (h.keep k hk)
 ·intro b hb
  simp at hb
  rw[up_other _ _ (by omega)]
  exact h.top b (by omega)
 ·intro B o' hB
  have h1:=h.frz B o' hB
  exact (Below.heap_alloc w o B (Array.getElem?_eq_some_iff.1 h1).1).trans h1
 ·intro b ob' x hb hrw hx
  rcases hnew hb with ⟨hlt,hb'⟩ | ⟨rfl,rfl⟩
  ·rw[up_other _ _ (by omega)]at hx
   exact h.zsep b ob' x hb' hrw hx
  ·rw[up_same]at hx;cases hx
   show φ.z w.heap.size=none
   cases hz:φ.z w.heap.size with
   | none=>rfl
   | some o' =>
    have h1:=(Array.getElem?_eq_some_iff.1 (h.frz _ _ hz)).1
    omega
theorem Inv.write (h:Inv K w0 φ H w) {b:Nat} {ob ob':Ob}{B base tot:Nat} {w':World}(hb:H[b]?=some ob) (hrw:ob.rw=true) (hφ:φ b=some (B,base,tot))
  (hw:∀k,k≠B→w'.heap[k]?=w.heap[k]?) (hsz:w'.heap.size=w.heap.size) (hos:w'.os=w.os) (htape:w'.tape=w.tape) (hout:w'.output=w.output)
  (hob:ObR φ w' ob' B base tot):Inv K w0 φ (H.set b ob') w':=by
 have hset:∀{c:Nat} {o:Ob},(H.set b ob')[c]?=some o→(c=b∧o=ob')∨(c≠b∧H[c]?=some o):=by
  intro c o hc
  rw[List.getElem?_set]at hc
  split at hc
  ·rename_i e;subst e
   split at hc
   ·simp at hc;exact .inl ⟨rfl,hc.symm⟩
   ·cases hc
  ·rename_i e;exact .inr ⟨fun h=>e h.symm,hc⟩
 refine ⟨?_,?_,?_,?_,h.klt,by rw[hsz];exact h.size,hos.trans h.os,htape.trans h.tape,hout.trans h.output,by intro c hc;rw[List.length_set]at hc;exact h.top c hc,?_,?_,h.zk⟩
 ·intro c o hc hl
  rcases hset hc with ⟨rfl,rfl⟩ | ⟨hne,hc'⟩
  ·exact ⟨B,base,tot,hφ,hob⟩
  ·obtain ⟨B',base',tot',h1,h2⟩:=h.obs c o hc' hl
   have hsep:=h.sep b c ob o _ _ (Ne.symm hne) hb hc' hrw hl hφ h1
   exact ⟨B',base',tot',h1,h2.keep (le_refl _) (hw B' (fun e=>hsep e.symm))⟩
 ·intro c c' o o' x y hne hc hc' hrw' hl' hx hy
  rcases hset hc with ⟨rfl,rfl⟩ | ⟨hne1,hc1⟩
  ·rcases hset hc' with ⟨rfl,rfl⟩ | ⟨hne2,hc2⟩
   ·exact absurd rfl hne
   ·exact h.sep c c' ob o' x y hne hb hc2 hrw hl' hx hy
  ·rcases hset hc' with ⟨rfl,rfl⟩ | ⟨hne2,hc2⟩
   ·exact h.sep c c' o ob x y hne hc1 hb hrw' (Ob.live_of_rw hrw) hx hy
   ·exact h.sep c c' o o' x y hne hc1 hc2 hrw' hl' hx hy
 ·intro c o x hc hrw' hx
  rcases hset hc with ⟨rfl,rfl⟩ | ⟨_,hc'⟩
  ·exact h.prot c ob x hb hrw hx
  ·exact h.prot c o x hc' hrw' hx
 ·intro k hk
  have hne:k≠B:=fun e=>h.prot b ob _ hb hrw hφ (e ▸ hk)
  exact (hw k hne).trans (h.keep k hk)
 ·intro k o hk
  have hne:k≠B:=fun e=>by
   have:=h.zsep b ob _ hb hrw hφ;rw[e]at hk
   rw[show φ.z B=none from this]at hk;cases hk
  exact (hw k hne).trans (h.frz k o hk)
 ·intro c o x hc hrw' hx
  rcases hset hc with ⟨rfl,rfl⟩ | ⟨_,hc'⟩
  ·exact h.zsep c ob x hb hrw hx
  ·exact h.zsep c o x hc' hrw' hx
theorem Inv.forget (h:Inv K w0 φ H w)(b:Nat):Inv K w0 φ (H.set b .dead) w:=by
 have hset:∀{c:Nat} {o:Ob},(H.set b .dead)[c]?=some o→o.live=true→c≠b∧H[c]?=some o:=by
  intro c o hc hl
  rw[List.getElem?_set]at hc
  split at hc
  ·split at hc
   ·simp at hc;subst hc;cases hl
   ·cases hc
  ·rename_i e;exact ⟨fun h=>e h.symm,hc⟩
 refine ⟨fun c o hc hl=>h.obs c o (hset hc hl).2 hl,?_,?_,h.keep,h.klt,h.size,h.os,h.tape,h.output,by intro c hc;rw[List.length_set]at hc;exact h.top c hc,h.frz,fun c o x hc hrw hx=>h.zsep c o x (hset hc (Ob.live_of_rw hrw)).2 hrw hx,h.zk⟩
 ·intro c c' o o' x y hne hc hc' hrw hl hx hy
  exact h.sep c c' o o' x y hne (hset hc (Ob.live_of_rw hrw)).2 (hset hc' hl).2 hrw hl hx hy
 ·intro c o x hc hrw hx
  exact h.prot c o x (hset hc (Ob.live_of_rw hrw)).2 hrw hx
end Go.Gi
namespace Go.Gi
open Go.RowKit
def pureRun (P:Program) {α:Type}:Sem α→Option α
 | .pure a=>some a
 | .program k=>pureRun P (k P)
 | _=>none
theorem pureRun_run {P:Program} {α:Type}{s:Sem α}{a:α}(h:pureRun P s=some a) (w:World):s.run P w=.ok a w:=by
 induction s with
 | pure b=>simp only[pureRun,Option.some.injEq]at h;subst h;rfl
 | program k ih=>simp only[pureRun]at h;simp only[Sem.run];exact ih _ h
 | _=>simp [pureRun]at h
def pureVal (P:Program)(s:Sem Next):Option Value :=
 match pureRun P s with
 | some (.value v)=>if gr v then some v else none
 | _=>none
theorem pureVal_sound {P:Program}{s:Sem Next}{v:Value}(h:pureVal P s=some v) (φ:Phi) (w:World):s.run P w=.ok (.value v) w∧VR φ v v:=by
 unfold pureVal at h
 split at h
 ·rename_i u hu
  split at h
  ·rename_i hg
   simp only[Option.some.injEq]at h;subst h;exact ⟨pureRun_run hu w,gr_refl hg⟩
  ·cases h
 ·cases h
def okO:Operand→Bool
 | .const v=>gr v
 | .global _=>false
 | _=>true
def Evs (φ:Phi) (ρ ρ':Operand→Value):Prop:=∀x,okO x=true→VR φ (ρ x) (ρ' x)
theorem add_none (B n j:Nat):(⟨B,n,none⟩:Addr).add j=⟨B,n+j,none⟩:=by
 unfold Addr.add
 split
 ·subst_vars;rfl
 ·rfl
theorem cell_at {w:World}{B:Nat}{C:Array Value}{el:TypeId}{fr:Nat×Nat}(h:w.heap[B]?=some (.cells C el fr)) (n:Nat):w.cell? ⟨B,n,none⟩=C[n]?:=by
 simp [World.cell?,h]
def isAggB (P:Program)(t:TypeId):Option Bool :=
 match P.underlying t with
 | some (.struct _) | some (.array _ _)=>some true
 | some _=>some false
 | none=>none
theorem run_isAgg {P:Program}{t:TypeId}{b:Bool}(h:isAggB P t=some b) (w:World):(isAgg t).run P w=.ok b w:=by
 unfold isAggB at h
 cases hu:P.underlying t with
 | none=>rw[hu]at h;cases h
 | some d =>
  rw[hu]at h;simp only[isAgg,Sem.run_bind,run_underlying hu,Result.andThen_ok]
  cases d<;>simp_all
def sizeB (P:Program)(t:TypeId):Option Nat:=(P.info? t).map (·.size)
theorem run_size {P:Program}{t:TypeId}{n:Nat}(h:sizeB P t=some n) (w:World):(sizeOf t).run P w=.ok n w:=by
 unfold sizeB at h
 cases hi:P.info? t with
 | none=>rw[hi]at h;cases h
 | some i=>rw[hi]at h;simp at h;subst h;simp [sizeOf,typeInfo,hi]
def rCells (P:Program)(t:TypeId)(c:Array Value)(off:Nat):Option Value :=
 match isAggB P t with
 | some true =>
  match sizeB P t with
  | some n=>if off+n≤c.size then some (.agg (c.extract off (off+n))) else none
  | none=>none
 | some false=>c[off]?
 | none=>none
def rLoad (P:Program)(H:List Ob)(t:TypeId):Value→Option Value
 | .pointer (some ⟨b,off,none⟩) =>
  match H[b]? with
  | some (.cells c _)=>rCells P t c off
  | _=>none
 | .func (.via 0 ⟨[]⟩ 0 false) c ⟨[.pointer (some ⟨_,off,none⟩)]⟩=>rCells P t c off
 | _=>none
theorem FR.vr {φ:Phi} {v v':Value}(h:FR φ.z v v'):VR φ v v':=by
 induction h with
 | gnd h=>exact g0_refl h
 | agg h1 _ ih=>exact .agg h1 ih
 | iface t _ ih=>exact .iface t ih
 | fn h1 _ h3 _ ih2 ih4=>exact .fn rfl h1 ih2 h3 ih4
 | lst hz h1 h2 hl hc _=>exact .fz (.lst hz h1 h2 hl hc)
 | lstZ c off sz a'=>exact .fz (.lstZ c off sz a')
 | dpt hz h1 h2 _=>exact .fz (.dpt hz h1 h2)
section
variable {P:Program}{K:Nat→Prop}{w0 w:World} {φ:Phi}{H:List Ob}
theorem rCells_sound {B base:Nat}{C c:Array Value}{el:TypeId}{fr:Nat×Nat}(h2:w.heap[B]?=some (.cells C el fr)) (h3:∀(i:Nat) (v:Value),c[i]?=some v→∃v',C[base+i]?=some v'∧VR φ v v')
  {t:TypeId} {off:Nat} {v:Value} (h:rCells P t c off=some v):∃v',(Instr.loadAt t (.pointer (some ⟨B,base+off,none⟩))).run P w=.ok v' w∧VR φ v v':=by
 unfold rCells at h
 split at h
 ·rename_i ha
  split at h
  ·rename_i n hn
   split at h
   ·rename_i hle
    simp only[Option.some.injEq]at h;subst h
    have hcell:∀j,j<n→w.cell? ((⟨B,base+off,none⟩:Addr).add j)=some (C.getD (base+off+j) undef):=by
     intro j hj;rw[add_none,cell_at h2]
     obtain ⟨v',hv',_⟩:=h3 (off+j) c[off+j] (Array.getElem?_eq_getElem (by omega))
     rw[← Nat.add_assoc]at hv';rw[Array.getD_eq_getD_getElem?,hv'];rfl
    refine ⟨.agg ((List.range n).map fun j=>C.getD (base+off+j) undef).toArray,?_,VRs.agg ?_⟩
    ·simp only[Instr.loadAt,Instr.sureAddr,loadVar,Sem.run_bind,Sem.run_pure,Result.andThen_ok,run_isAgg ha,if_true,run_size hn,run_loadCells w _ n _ hcell]
    ·intro i
     have e:∀l:List Value,l.toArray[i]?=l[i]?:=fun l=>by simp
     rw[Array.getElem?_extract,e,List.getElem?_map]
     by_cases hi:i<n
     ·rw[List.getElem?_range hi,if_pos (by omega),Array.getElem?_eq_getElem (show off+i<c.size by omega)]
      obtain ⟨v',hv',r⟩:=h3 (off+i) c[off+i] (Array.getElem?_eq_getElem (by omega))
      rw[← Nat.add_assoc]at hv'
      refine .some ?_
      show VR φ _ (C.getD (base+off+i) undef)
      rw[Array.getD_eq_getD_getElem?,hv'];exact r
     ·rw[List.getElem?_eq_none (by simp;omega),if_neg (by omega)];exact .none
   ·cases h
  ·cases h
 ·rename_i ha
  obtain ⟨v',hv',r⟩:=h3 off v h
  refine ⟨v',?_,r⟩
  simp only[Instr.loadAt,Instr.sureAddr,loadVar,Sem.run_bind,Sem.run_pure,Result.andThen_ok,run_isAgg ha,Bool.false_eq_true,if_false,run_load,cell_at h2,hv']
 ·cases h
theorem fr_cells {C c:Array Value}{base:Nat}(h1:base+c.size≤C.size) (h2:∀i,i<c.size→FR φ.z (c.getD i undef) (C.getD (base+i) undef)) :
  ∀(i:Nat) (v:Value),c[i]?=some v→∃v',C[base+i]?=some v'∧VR φ v v':=by
 intro i v hv
 have hi:=(Array.getElem?_eq_some_iff.1 hv).1
 have h:=h2 i hi
 rw[Array.getD_eq_getD_getElem?,Array.getD_eq_getD_getElem?,hv,Array.getElem?_eq_getElem (show base+i<C.size by omega)]at h
 exact ⟨_,Array.getElem?_eq_getElem (by omega),h.vr⟩
theorem rLoad_sound (hI:Inv K w0 φ H w) {t:TypeId} {x x' v:Value}(h:rLoad P H t x=some v) (hx:VR φ x x'):∃v',(Instr.loadAt t x').run P w=.ok v' w∧VR φ v v':=by
 unfold rLoad at h
 split at h
 ·rename_i b off
  cases hx with
  | @ptr _ _ B base tot hφ =>
   split at h
   ·rename_i c ro hc
    obtain ⟨B',base',tot',h1,C,el,fr,h2,h3,_⟩:=hI.obs b _ hc rfl;rw[hφ]at h1;cases h1;exact rCells_sound h2 h3 h
   ·cases h
 ·rename_i c b off
  cases hx with
  | fn hg=>cases hg
  | fz hf =>
   obtain ⟨C,el,fr,B,base,_,rfl,hz,h1,h2⟩:=hf.dpt_inv;exact rCells_sound (hI.frz _ _ hz) (fr_cells h1 h2) h
 ·cases h
def rFieldAddr (P:Program)(s:TypeId)(f:Nat):Value→Option Value
 | .pointer (some ⟨b,off,none⟩) =>
  match P.underlying s with
  | some (.struct fs) =>
   match fs[f]? with
   | some fd=>match sizeB P fd.type with
    | some (_+1)=>some (.pointer (some ⟨b,off+fd.offset,none⟩))
    | _=>none
   | none=>none
  | _=>none
 | .func (.via 0 ⟨[]⟩ 0 false) c ⟨[.pointer (some ⟨b,off,none⟩)]⟩ =>
  match P.underlying s with
  | some (.struct fs) =>
   match fs[f]? with
   | some fd=>match sizeB P fd.type with
    | some (_+1)=>some (.func (.via 0 ⟨[]⟩ 0 false) c ⟨[.pointer (some ⟨b,off+fd.offset,none⟩)]⟩)
    | _=>none
   | none=>none
  | _=>none
 | _=>none
theorem rFieldAddr_sound {s:TypeId}{f:Nat} {x x' v:Value}(h:rFieldAddr P s f x=some v) (hx:VR φ x x'):∃v',(Instr.fieldAt s x' f).run P w=.ok v' w∧VR φ v v':=by
 unfold rFieldAddr at h
 split at h
 ·rename_i b off
  cases hx with
  | @ptr _ _ B base tot hφ =>
   split at h
   ·rename_i fs hu
    split at h
    ·rename_i fd hf
     split at h
     ·rename_i n hn
      simp only[Option.some.injEq]at h;subst h
      refine ⟨.pointer (some ⟨B,base+off+fd.offset,none⟩),?_,?_⟩
      ·simp only[Instr.fieldAt,Sem.run_bind,run_underlying hu,Result.andThen_ok,hf,Instr.sureAddr,fieldPlace,Sem.run_pure,run_size hn,Nat.add_one_ne_zero,if_false,add_none]
      ·rw[Nat.add_assoc];exact .ptr hφ
     ·cases h
    ·cases h
   ·cases h
 ·rename_i c b off
  cases hx with
  | fn hg=>cases hg
  | fz hf =>
   obtain ⟨C,el,fr,B,base,rfl,rfl,hz,h1,h2⟩:=hf.dpt_inv
   split at h
   ·rename_i fs hu
    split at h
    ·rename_i fd hf
     split at h
     ·rename_i n hn
      simp only[Option.some.injEq]at h;subst h
      refine ⟨.pointer (some ⟨B,base+off+fd.offset,none⟩),?_,?_⟩
      ·simp only[Instr.fieldAt,Sem.run_bind,run_underlying hu,Result.andThen_ok,hf,Instr.sureAddr,fieldPlace,Sem.run_pure,run_size hn,Nat.add_one_ne_zero,if_false,add_none]
      ·rw[Nat.add_assoc];exact .fz (.dpt hz h1 h2)
     ·cases h
    ·cases h
   ·cases h
 ·cases h
def rIndexAddr (P:Program)(t:TypeId):Value→Value→Option Value
 | .slice (some ⟨b,off,none⟩) len _,.int _ i =>
  match P.underlying t with
  | some (.slice e)=>match sizeB P e with
   | some n=>if 0≤i∧i<len then some (.pointer (some ⟨b,off+i.toNat*n,none⟩)) else none
   | none=>none
  | _=>none
 | .pointer (some ⟨b,off,none⟩),.int _ i =>
  match P.underlying t with
  | some (.array len e)=>match sizeB P e with
   | some n=>if 0≤i∧i<len then some (.pointer (some ⟨b,off+i.toNat*n,none⟩)) else none
   | none=>none
  | _=>none
 | .func (.via 0 ⟨[]⟩ 0 true) c ⟨[.slice (some ⟨b,off,none⟩) len _]⟩,.int _ i =>
  match P.underlying t with
  | some (.slice e)=>match sizeB P e with
   | some n=>if 0≤i∧i<len then some (.func (.via 0 ⟨[]⟩ 0 false) c ⟨[.pointer (some ⟨b,off+i.toNat*n,none⟩)]⟩) else none
   | none=>none
  | _=>none
 | .func (.via 0 ⟨[]⟩ 0 false) c ⟨[.pointer (some ⟨b,off,none⟩)]⟩,.int _ i =>
  match P.underlying t with
  | some (.array len e)=>match sizeB P e with
   | some n=>if 0≤i∧i<len then some (.func (.via 0 ⟨[]⟩ 0 false) c ⟨[.pointer (some ⟨b,off+i.toNat*n,none⟩)]⟩) else none
   | none=>none
  | _=>none
 | _,_=>none
theorem rIndexAddr_sound {t:TypeId} {x x' y y' v:Value}(h:rIndexAddr P t x y=some v) (hx:VR φ x x') (hy:VR φ y y'):∃v',(Instr.indexAt t x' y').run P w=.ok v' w∧VR φ v v':=by
 unfold rIndexAddr at h
 split at h
 ·rename_i b off len cap k i
  cases hy
  split at h
  ·rename_i e hu
   split at h
   ·rename_i n hn
    split at h
    ·rename_i hi
     simp only[Option.some.injEq]at h;subst h
     cases hx with
     | sliceZ=>omega
     | @slice _ _ _ _ cap' B base tot hφ hl hl' =>
      refine ⟨.pointer (some ⟨B,base+off+i.toNat*n,none⟩),?_,?_⟩
      ·simp only[Instr.indexAt,asIntOf,Sem.run_bind,Sem.run_pure,run_underlying hu,Result.andThen_ok,hi,and_self,if_true,run_size hn,add_none]
      ·rw[Nat.add_assoc];exact .ptr hφ
    ·cases h
   ·cases h
  ·cases h
 ·rename_i b off k i
  cases hy
  split at h
  ·rename_i len e hu
   split at h
   ·rename_i n hn
    split at h
    ·rename_i hi
     simp only[Option.some.injEq]at h;subst h
     cases hx with
     | @ptr _ _ B base tot hφ =>
      refine ⟨.pointer (some ⟨B,base+off+i.toNat*n,none⟩),?_,?_⟩
      ·simp only[Instr.indexAt,asIntOf,Instr.sureAddr,Sem.run_bind,Sem.run_pure,run_underlying hu,Result.andThen_ok,hi,and_self,if_true,run_size hn,add_none]
      ·rw[Nat.add_assoc];exact .ptr hφ
    ·cases h
   ·cases h
  ·cases h
 ·rename_i c b off len sz k i
  cases hy
  split at h
  ·rename_i e hu
   split at h
   ·rename_i n hn
    split at h
    ·rename_i hi
     simp only[Option.some.injEq]at h;subst h
     cases hx with
     | fn hg=>cases hg
     | fz hf =>
      rcases hf.lst_inv with ⟨C,el,fr,cap',B,base,rfl,rfl,hz,h1,h2,_,_⟩ | ⟨a',_,rfl,_⟩
      ·refine ⟨.pointer (some ⟨B,base+off+i.toNat*n,none⟩),?_,?_⟩
       ·simp only[Instr.indexAt,asIntOf,Sem.run_bind,Sem.run_pure,run_underlying hu,Result.andThen_ok,hi,and_self,if_true,run_size hn,add_none]
       ·rw[Nat.add_assoc];exact .fz (.dpt hz h1 h2)
      ·omega
    ·cases h
   ·cases h
  ·cases h
 ·rename_i c b off k i
  cases hy
  split at h
  ·rename_i len e hu
   split at h
   ·rename_i n hn
    split at h
    ·rename_i hi
     simp only[Option.some.injEq]at h;subst h
     cases hx with
     | fn hg=>cases hg
     | fz hf =>
      obtain ⟨C,el,fr,B,base,rfl,rfl,hz,h1,h2⟩:=hf.dpt_inv
      refine ⟨.pointer (some ⟨B,base+off+i.toNat*n,none⟩),?_,?_⟩
      ·simp only[Instr.indexAt,asIntOf,Instr.sureAddr,Sem.run_bind,Sem.run_pure,run_underlying hu,Result.andThen_ok,hi,and_self,if_true,run_size hn,add_none]
      ·rw[Nat.add_assoc];exact .fz (.dpt hz h1 h2)
    ·cases h
   ·cases h
  ·cases h
 ·cases h
def rPart (P:Program)(t:TypeId)(cs:Array Value)(off:Nat):Option Value :=
 match isAggB P t with
 | some true=>match sizeB P t with
  | some n=>some (.agg (cs.extract off (off+n)))
  | none=>none
 | some false=>cs[off]?
 | none=>none
theorem rPart_sound {t:TypeId} {cs cs':Array Value}{off:Nat}{v:Value}(h:rPart P t cs off=some v) (hc:VRs φ cs cs'):∃v',(part t cs' off).run P w=.ok v' w∧VR φ v v':=by
 unfold rPart at h
 split at h
 ·rename_i ha
  split at h
  ·rename_i n hn
   simp only[Option.some.injEq]at h;subst h
   exact ⟨.agg (cs'.extract off (off+n)),by simp only[part,Sem.run_bind,run_isAgg ha,Result.andThen_ok,if_true,run_size hn,Sem.run_pure],(hc.extract _ _).agg⟩
  ·cases h
 ·rename_i ha
  have:=hc off;rw[h]at this
  cases hc':cs'[off]? with
  | none=>rw[hc']at this;cases this
  | some v' =>
   rw[hc']at this
   cases this with
   | some r=>exact ⟨v',by simp only[part,Sem.run_bind,run_isAgg ha,Result.andThen_ok,Bool.false_eq_true,if_false,hc',Sem.run_pure],r⟩
 ·cases h
def rField (P:Program)(t:TypeId)(f:Nat):Value→Option Value
 | .agg cs =>
  match P.underlying t with
  | some (.struct fs)=>match fs[f]? with
   | some fd=>rPart P fd.type cs fd.offset
   | none=>none
  | _=>none
 | _=>none
theorem rField_sound {t:TypeId}{f:Nat} {x x' v:Value}(h:rField P t f x=some v) (hx:VR φ x x'):∃v',(Instr.field t x' f).run P w=.ok v' w∧VR φ v v':=by
 unfold rField at h
 split at h
 ·obtain ⟨cs',rfl,hc⟩:=hx.agg_inv
  split at h
  ·rename_i fs hu
   split at h
   ·rename_i fd hf
    obtain ⟨v',hr,hv⟩:=rPart_sound (w:=w) h hc
    exact ⟨v',by simp only[Instr.field,Sem.run_bind,run_underlying hu,Result.andThen_ok,hf,asAgg,Sem.run_pure,hr],hv⟩
   ·cases h
  ·cases h
 ·cases h
def rExtract (i:Nat):Value→Option Value
 | .tuple vs=>vs[i]?
 | _=>none
theorem rExtract_sound {i:Nat} {x x' v:Value}(h:rExtract i x=some v) (hx:VR φ x x'):∃v',(Instr.extract x' i).run P w=.ok v' w∧VR φ v v':=by
 unfold rExtract at h
 split at h
 ·obtain ⟨cs',rfl,hc⟩:=hx.tuple_inv (by rename_i vs;obtain ⟨l⟩:=vs;cases l with | nil=>simp at h | cons _ _=>rfl)
  have:=hc i;rw[h]at this
  cases hc':cs'[i]? with
  | none=>rw[hc']at this;cases this
  | some v' =>
   rw[hc']at this
   cases this with
   | some r=>exact ⟨v',by simp only[Instr.extract,hc',Sem.run_pure],r⟩
 ·cases h
inductive VRl (φ:Phi):List Value→List Value→Prop
 | nil:VRl φ [] []
 | cons {v v':Value} {l l':List Value} (h:VR φ v v') (r:VRl φ l l'):VRl φ (v::l) (v'::l')
theorem vrl_of:∀{xs ys:List Value},(∀i:Nat,OR (VR φ) xs[i]? ys[i]?)→VRl φ xs ys
 | [],[],_=>.nil
 | [],_::_,h=>by have:=h 0;cases this
 | _::_,[],h=>by have:=h 0;cases this
 | x::xs,y::ys,h=>by
  refine .cons ?_ (vrl_of fun i=>by simpa using h (i+1))
  have:=h 0
  simp at this
  cases this with
  | some h=>exact h
theorem VRs.toList {xs ys:Array Value}(h:VRs φ xs ys):VRl φ xs.toList ys.toList:=vrl_of fun i=>by simpa using h i
theorem fillOne {l l':List Value}(hl:VRl φ l l'):∀(k off:Nat) {cs cs':Array Value},VRs φ cs cs' →
  VRs φ ((l.zipIdx k).foldl (fun cs (c,j)=>cs.setIfInBounds (off+j) c) cs) ((l'.zipIdx k).foldl (fun cs (c,j)=>cs.setIfInBounds (off+j) c) cs'):=by
 induction hl with
 | nil=>intro k off cs cs' h;exact h
 | cons hv _ ih =>
  intro k off cs cs' h;simp only[List.zipIdx_cons,List.foldl_cons];exact ih (k+1) off (h.set hv _)
inductive Parts (φ:Phi):List (Nat×Value)→List (Nat×Value)→Prop
 | nil:Parts φ [] []
 | cons {i:Nat} {v v':Value} {l l':List (Nat×Value)} (h:VR φ v v') (hn:notT v=true) (r:Parts φ l l'):Parts φ ((i,v)::l) ((i,v')::l')
theorem fill_sound (place:Nat→Option (Nat×Nat)) {l l':List (Nat×Value)}(hl:Parts φ l l'):∀{cs cs' r:Array Value},VRs φ cs cs'→Instr.fill place cs l=some r →
  ∃r',Instr.fill place cs' l'=some r'∧VRs φ r r':=by
 induction hl with
 | nil=>intro cs cs' r hc h;simp only[Instr.fill,Option.some.injEq]at h ⊢;subst h;exact ⟨cs',rfl,hc⟩
 | @cons i v v' l l' hv hnt _ ih =>
  intro cs cs' r hc h;simp only[Instr.fill]at h ⊢
  cases hp:place i with
  | none=>rw[hp]at h;cases h
  | some os =>
   obtain ⟨off,size⟩:=os;rw[hp]at h;simp only at h ⊢;have hs:=(hv.cells hnt).size;rw[← hs,← hc.size]
   split at h
   ·cases h
   ·rename_i hn
    rw[if_neg hn]
    refine ih ?_ h
    rw[← Array.foldl_toList,← Array.foldl_toList,Array.toList_zipIdx,Array.toList_zipIdx];exact fillOne (hv.cells hnt).toList 0 off hc
theorem parts_of {ρ ρ':Operand→Value}(hρ:Evs φ ρ ρ'):∀{l:List (Nat×Operand)},(l.all fun x=>okO x.2&&notT (ρ x.2))=true→Parts φ (l.map fun (i,x)=>(i,ρ x)) (l.map fun (i,x)=>(i,ρ' x))
 | [],_=>.nil
 | (i,x)::l,h=>by
  simp only[List.all_cons,Bool.and_eq_true]at h;exact .cons (hρ x h.1.1) h.1.2 (parts_of hρ h.2)
def zeroB (P:Program)(t:TypeId):Option Value :=
 match (P.info? t).bind (·.zero) with
 | some z=>if gA z then some z else none
 | none=>none
theorem run_zero {t:TypeId}{z:Value}(h:zeroB P t=some z) (w:World):(zeroValue t).run P w=.ok z w∧gA z=true:=by
 unfold zeroB at h
 cases hi:P.info? t with
 | none=>rw[hi]at h;cases h
 | some i =>
  rw[hi]at h;simp only[Option.bind_some]at h
  split at h
  ·rename_i z' hz
   split at h
   ·rename_i hg
    simp only[Option.some.injEq]at h;subst h
    exact ⟨by simp [zeroValue,typeInfo,hi,hz],hg⟩
   ·cases h
  ·cases h
def rBuild (P:Program)(t:TypeId)(parts:List (Nat×Value)):Option Value :=
 match zeroB P t,P.underlying t with
 | some z,some (.struct fs) =>
  match pureRun P (fs.mapM (fun f=>do pure (f.offset,← sizeOf f.type):Field→Sem (Nat×Nat))) with
  | some places=>(Instr.fill (places[·]?) z.cells parts).map .agg
  | none=>none
 | some z,some (.array _ e) =>
  match sizeB P e with
  | some n=>(Instr.fill (fun i=>some (i*n,n)) z.cells parts).map .agg
  | none=>none
 | _,_=>none
theorem rBuild_sound {t:TypeId} {parts parts':Array (Nat×Value)}{v:Value}(h:rBuild P t parts.toList=some v) (hp:Parts φ parts.toList parts'.toList) :
  ∃v',(Instr.build t parts').run P w=.ok v' w∧VR φ v v':=by
 unfold rBuild at h
 split at h
 ·rename_i z fs hz hu
  split at h
  ·rename_i places hpl
   rw[Option.map_eq_some_iff]at h;obtain ⟨r,hr,rfl⟩:=h;obtain ⟨hz1,hz2⟩:=run_zero hz w;obtain ⟨r',hr',hv⟩:=fill_sound _ hp (VR.cells (gA_refl (φ:=φ) hz2) (gA_notT hz2)) hr
   refine ⟨.agg r',?_,hv.agg⟩
   simp only[Instr.build,Sem.run_bind,hz1,Result.andThen_ok,run_underlying hu,pureRun_run hpl,hr',Sem.run_pure]
  ·cases h
 ·rename_i z n e hz hu
  split at h
  ·rename_i n hn
   rw[Option.map_eq_some_iff]at h;obtain ⟨r,hr,rfl⟩:=h;obtain ⟨hz1,hz2⟩:=run_zero hz w;obtain ⟨r',hr',hv⟩:=fill_sound _ hp (VR.cells (gA_refl (φ:=φ) hz2) (gA_notT hz2)) hr
   refine ⟨.agg r',?_,hv.agg⟩
   simp only[Instr.build,Sem.run_bind,hz1,Result.andThen_ok,run_underlying hu,run_size hn,hr',Sem.run_pure]
  ·cases h
 ·cases h
end
theorem pureRun_bind {P:Program} {α β:Type}(x:Sem α) (f:α→Sem β):pureRun P (x >>= f)=(pureRun P x).bind fun a=>pureRun P (f a):=by
 show pureRun P (x.bind f)=_
 induction x with
 | pure a=>rfl
 | program k ih=>simp only[Sem.bind,pureRun,ih]
 | _=>rfl
section
variable {P:Program}{K:Nat→Prop}{w0 w:World} {φ:Phi}{H:List Ob}
def bound (v:Option Value)(d:Nat):Option Nat :=
 match v with
 | none=>some d
 | some (.int _ i)=>if 0≤i then some i.toNat else none
 | some _=>none
def rSlice (P:Program)(H:List Ob)(t:TypeId)(lo hi:Option Value):Value→Option Value
 | .slice (some ⟨b,off,none⟩) len sz =>
  match P.underlying t with
  | some (.slice e)=>match sizeB P e,bound lo 0,bound hi len with
   | some n,some l,some h=>if l≤h∧h≤len∧n=sz then some (.slice (some ⟨b,off+l*n,none⟩) (h-l) sz) else none
   | _,_,_=>none
  | _=>none
 | .func (.via 0 ⟨[]⟩ 0 true) c ⟨[.slice (some ⟨b,off,none⟩) len sz]⟩ =>
  match P.underlying t with
  | some (.slice e)=>match sizeB P e,bound lo 0,bound hi len with
   | some n,some l,some h=>if l≤h∧h≤len∧n=sz then some (.func (.via 0 ⟨[]⟩ 0 true) c ⟨[.slice (some ⟨b,off+l*n,none⟩) (h-l) sz]⟩) else none
   | _,_,_=>none
  | _=>none
 | .pointer (some ⟨b,off,none⟩) =>
  match P.underlying t with
  | some (.array n e)=>match sizeB P e,H[b]?,bound lo 0,bound hi n with
   | some z,some (.cells c false),some l,some h=>if off+n*z≤c.size∧l<n∧l≤h∧h≤n then some (.slice (some ⟨b,off+l*z,none⟩) (h-l) z) else none
   | _,_,_,_=>none
  | _=>none
 | _=>none
theorem run_sliceBound {v v':Value}{d n y:Nat}(code:BoundsCode) (h:bound (some v) d=some n) (hv:VR φ v v') (hle:n≤y):(Instr.sliceBound v' y code).run P w=.ok n w:=by
 cases hv<;>simp [bound]at h
 obtain ⟨h0,rfl⟩:=h;simp only[Instr.sliceBound,asIntOf,Sem.run_bind,Sem.run_pure,Result.andThen_ok]
 rw[if_pos ⟨h0,by omega⟩]
 rfl
theorem run_sliceBounds {lo lo' hi hi':Option Value}{len cap l h:Nat}(hlo:bound lo 0=some l) (hhi:bound hi len=some h) (hl:OR (VR φ) lo lo') (hh:OR (VR φ) hi hi') (h1:l≤h) (h2:h≤len) (h3:len≤cap) :
  (Instr.sliceBounds true len cap lo' hi' none).run P w=.ok (l,h,cap) w:=by
 cases hl with
 | none =>
  simp [bound]at hlo;subst hlo
  cases hh with
  | none=>simp [bound]at hhi;subst hhi;rfl
  | some hv =>
   have e:=run_sliceBound (w:=w) (P:=P) BoundsCode.sliceAcap hhi hv (show h≤cap by omega)
   unfold Instr.sliceBounds;simp only[Sem.run_bind,Sem.run_pure,Result.andThen_ok,if_true,e]
 | some hu =>
  have e0:=run_sliceBound (w:=w) (P:=P) BoundsCode.sliceB hlo hu h1
  cases hh with
  | none =>
   simp [bound]at hhi;subst hhi
   show (Instr.sliceBound _ len BoundsCode.sliceB >>= fun l=>pure (l,len,cap)).run P w=_
   simp only[Sem.run_bind,e0,Result.andThen_ok,Sem.run_pure]
  | some hv =>
   have e:=run_sliceBound (w:=w) (P:=P) BoundsCode.sliceAcap hhi hv (show h≤cap by omega)
   show (Instr.sliceBound _ cap BoundsCode.sliceAcap >>= fun h=>(Instr.sliceBound _ h BoundsCode.sliceB >>= fun l=>pure (l,h,cap))).run P w=_
   simp only[Sem.run_bind,e,e0,Result.andThen_ok,Sem.run_pure]
theorem run_sliceBoundsA {lo lo' hi hi':Option Value}{n l h:Nat}(hlo:bound lo 0=some l) (hhi:bound hi n=some h) (hl:OR (VR φ) lo lo') (hh:OR (VR φ) hi hi') (h1:l≤h) (h2:h≤n) :
  (Instr.sliceBounds false n n lo' hi' none).run P w=.ok (l,h,n) w:=by
 cases hl with
 | none =>
  simp [bound]at hlo;subst hlo
  cases hh with
  | none=>simp [bound]at hhi;subst hhi;rfl
  | some hv =>
   have e:=run_sliceBound (w:=w) (P:=P) BoundsCode.sliceAlen hhi hv h2;unfold Instr.sliceBounds;simp only[Sem.run_bind,Sem.run_pure,Result.andThen_ok,Bool.false_eq_true,if_false,e]
 | some hu =>
  have e0:=run_sliceBound (w:=w) (P:=P) BoundsCode.sliceB hlo hu h1
  cases hh with
  | none =>
   simp [bound]at hhi;subst hhi
   show (Instr.sliceBound _ n BoundsCode.sliceB >>= fun l=>pure (l,n,n)).run P w=_
   simp only[Sem.run_bind,e0,Result.andThen_ok,Sem.run_pure]
  | some hv =>
   have e:=run_sliceBound (w:=w) (P:=P) BoundsCode.sliceAlen hhi hv h2
   show (Instr.sliceBound _ n BoundsCode.sliceAlen >>= fun h=>(Instr.sliceBound _ h BoundsCode.sliceB >>= fun l=>pure (l,h,n))).run P w=_
   simp only[Sem.run_bind,e,e0,Result.andThen_ok,Sem.run_pure]
theorem rSlice_sound (hI:Inv K w0 φ H w) {t:TypeId} {lo lo' hi hi':Option Value} {x x' v:Value}(h:rSlice P H t lo hi x=some v) (hx:VR φ x x') (hl:OR (VR φ) lo lo') (hh:OR (VR φ) hi hi') :
  ∃v',(Instr.sliceAt t x' lo' hi' none).run P w=.ok v' w∧VR φ v v':=by
 unfold rSlice at h
 split at h
 ·rename_i b off len sz
  split at h
  ·rename_i e hu
   split at h
   ·rename_i n l hh' hn hlo hhi
    split at h
    ·rename_i hle
     simp only[Option.some.injEq]at h;subst h
     cases hx with
     | sliceZ hφ a' c =>
      have hb:=run_sliceBounds (P:=P) (w:=w) hlo hhi hl hh hle.1 hle.2.1 (Nat.zero_le 0)
      have e1:hh'=0:=by omega
      subst e1
      have e2:l=0:=by omega
      subst e2
      refine ⟨.slice (some a') 0 0,?_,.sliceZ (a:=⟨b,off+0*n,none⟩) hφ _ _⟩
      simp only[Instr.sliceAt,Sem.run_bind,run_underlying hu,Result.andThen_ok,Instr.slice,hb,run_size hn,Sem.run_pure,if_true]
     | @slice _ _ _ _ cap' B base tot hφ hl1 hl2 =>
      have hb:=run_sliceBounds (P:=P) (w:=w) hlo hhi hl hh hle.1 hle.2.1 hl1
      refine ⟨.slice (if cap'=l then some ⟨B,base+off,none⟩ else some ⟨B,base+off+l*n,none⟩) (hh' - l) (cap' - l),?_,?_⟩
      ·simp only[Instr.sliceAt,Sem.run_bind,run_underlying hu,Result.andThen_ok,Instr.slice,hb,run_size hn,Sem.run_pure,Option.map,add_none]
      ·split
       ·have e:hh' - l=0:=by omega
        have e':cap' - l=0:=by omega
        rw[e,e'];exact .sliceZ (a:=⟨b,off+l*n,none⟩) hφ _ _
       ·rw[Nat.add_assoc]
        obtain ⟨q1,q2,rfl⟩:=hle
        refine .slice hφ (by omega) ?_
        have:l*n+(cap' - l)*n=cap'*n:=by rw[← Nat.add_mul];congr 1;omega
        omega
    ·cases h
   ·cases h
  ·cases h
 ·rename_i c b off len sz
  split at h
  ·rename_i e hu
   split at h
   ·rename_i n l hh' hn hlo hhi
    split at h
    ·rename_i hle
     simp only[Option.some.injEq]at h;subst h
     cases hx with
     | fn hg=>cases hg
     | fz hf =>
      rcases hf.lst_inv with ⟨C,el,fr,cap',B,base,rfl,rfl,hz,h1,h2,hl1,hl2⟩ | ⟨a',rfl,rfl,rfl⟩
      ·have hb:=run_sliceBounds (P:=P) (w:=w) hlo hhi hl hh hle.1 hle.2.1 hl1
       refine ⟨.slice (if cap'=l then some ⟨B,base+off,none⟩ else some ⟨B,base+off+l*n,none⟩) (hh' - l) (cap' - l),?_,?_⟩
       ·simp only[Instr.sliceAt,Sem.run_bind,run_underlying hu,Result.andThen_ok,Instr.slice,hb,run_size hn,Sem.run_pure,Option.map,add_none]
       ·split
        ·have e:hh' - l=0:=by omega
         have e':cap' - l=0:=by omega
         rw[e,e'];exact .fz (.lstZ _ _ _ _)
        ·rw[Nat.add_assoc]
         obtain ⟨q1,q2,rfl⟩:=hle
         refine .fz (.lst hz h1 h2 (by omega) ?_)
         have:l*n+(hh' - l)*n=hh'*n:=by rw[← Nat.add_mul];congr 1;omega
         have:hh'*n≤len*n:=Nat.mul_le_mul_right n q2
         omega
      ·have hb:=run_sliceBounds (P:=P) (w:=w) hlo hhi hl hh hle.1 hle.2.1 (Nat.zero_le 0)
       have e1:hh'=0:=by omega
       subst e1
       have e2:l=0:=by omega
       subst e2
       refine ⟨.slice a' 0 0,?_,.fz (.lstZ _ _ _ _)⟩
       simp only[Instr.sliceAt,Sem.run_bind,run_underlying hu,Result.andThen_ok,Instr.slice,hb,run_size hn,Sem.run_pure,if_true]
    ·cases h
   ·cases h
  ·cases h
 ·rename_i b off
  split at h
  ·rename_i n e hu
   split at h
   ·rename_i z c l hh' hz hc hlo hhi
    split at h
    ·rename_i hle
     simp only[Option.some.injEq]at h;subst h
     cases hx with
     | @ptr _ _ B base tot hφ =>
      obtain ⟨B',base',tot',h1,C,el,fr,h2,h3,h4⟩:=hI.obs b _ hc rfl;rw[hφ]at h1;cases h1;obtain ⟨h5,_⟩:=h4 rfl;have hb:=run_sliceBoundsA (P:=P) (w:=w) hlo hhi hl hh hle.2.2.1 hle.2.2.2;have q1:=hle.1
      refine ⟨.slice (some ⟨B,base+(off+l*z),none⟩) (hh' - l) (n-l),?_,.slice hφ (by omega) ?_⟩
      ·have hn:¬n=l:=by omega
       simp only[Instr.sliceAt,Sem.run_bind,run_underlying hu,Result.andThen_ok,Instr.sureAddr,hb,run_size hz,Sem.run_pure,if_neg hn,add_none,Nat.add_assoc]
      ·have:l*z+(n-l)*z=n*z:=by rw[← Nat.add_mul];congr 1;omega
       omega
    ·cases h
   ·cases h
  ·cases h
 ·cases h
def rIndex (P:Program)(t:TypeId)(x ix:Value):Option Value :=
 match x,ix with
 | .agg cs,.int _ i=>match P.underlying t with
  | some (.array n e)=>match sizeB P e with
   | some z=>if 0≤i∧i<n then rPart P e cs (i.toNat*z) else none
   | none=>none
  | _=>none
 | _,_=>none
theorem rIndex_sound {t:TypeId} {x x' ix ix' v:Value}(h:rIndex P t x ix=some v) (hx:VR φ x x') (hix:VR φ ix ix'):∃v',(Instr.index t x' ix').run P w=.ok v' w∧VR φ v v':=by
 unfold rIndex at h
 split at h
 ·rename_i cs k i
  obtain ⟨cs',rfl,hc⟩:=hx.agg_inv
  cases hix
  split at h
  ·rename_i n e hu
   split at h
   ·rename_i z hz
    split at h
    ·rename_i hi
     obtain ⟨v',hr,hv⟩:=rPart_sound (w:=w) h hc
     refine ⟨v',?_,hv⟩
     simp only[Instr.index,asIntOf,Sem.run_bind,Sem.run_pure,Result.andThen_ok,run_underlying hu];rw[if_pos hi];simp only[Sem.run_bind,run_size hz,Result.andThen_ok,hr]
    ·cases h
   ·cases h
  ·cases h
 ·cases h
def bytesTail (arr:Array Value):Sem Value:=do
 let mut s:=ByteArray.empty
 for c in arr do
  let .int .u8 n:=c | stuck "bytesToString: byte expected"
  s:=s.push (UInt8.ofNat n.toNat)
 pure (.string s)
theorem bytesToString_eq (a:Addr)(len cap:Nat):Conv.bytesToString (.slice (some a) len cap)=(loadCells a len >>= bytesTail):=rfl
def rBytes (P:Program)(H:List Ob)(src dst:TypeId):Value→Option Value
 | .slice (some ⟨b,off,none⟩) len _ =>
  match P.underlying src,P.underlying dst,H[b]? with
  | some (.slice e),some .string,some (.cells c _) =>
   match P.underlying e with
   | some (.int .u8) =>
    if off+len≤c.size∧(c.extract off (off+len)).toList.all g0=true then
     match pureRun P (bytesTail (c.extract off (off+len))) with
     | some v=>if gr v then some v else none
     | none=>none
    else none
   | _=>none
  | _,_,_=>none
 | _=>none
theorem rBytes_sound (hI:Inv K w0 φ H w) {src dst:TypeId} {x x' v:Value}(h:rBytes P H src dst x=some v) (hx:VR φ x x') :
  ∃v',(convert src dst x').run P w=.ok v' w∧VR φ v v':=by
 unfold rBytes at h
 split at h
 ·rename_i b off len cap
  split at h
  ·rename_i e c ro hs hd hc
   split at h
   ·rename_i he
    split at h
    ·rename_i hle
     split at h
     ·rename_i v0 hv0
      split at h
      ·rename_i hg
       simp only[Option.some.injEq]at h;subst h
       refine ⟨v0,?_,gr_refl hg⟩
       cases hx with
       | sliceZ hφ a' c2 =>
        have hrun:=run_loadCells (P:=P) w a' 0 (fun _=>undef) (fun j hj=>absurd hj (Nat.not_lt_zero _))
        have earr:((List.range 0).map fun _=>undef).toArray=c.extract off (off+0):=by
         apply Array.ext_getElem?
         intro i
         rw[Array.getElem?_extract,if_neg (by omega)];rfl
        rw[earr]at hrun;simp only[convert,Sem.run_bind,run_underlying hs,run_underlying hd,Result.andThen_ok,run_underlying he,bytesToString_eq,hrun,pureRun_run hv0]
       | @slice _ _ _ _ cap' B base tot hφ hl1 hl2 =>
        obtain ⟨B',base',tot',h1,C,el,fr,h2,h3,_⟩:=hI.obs b _ hc rfl;rw[hφ]at h1;cases h1
        have hcell:∀j,j<len→w.cell? ((⟨B,base+off,none⟩:Addr).add j)=some (c.getD (off+j) undef):=by
         intro j hj;rw[add_none,cell_at h2]
         obtain ⟨v',hv',r⟩:=h3 (off+j) c[off+j] (Array.getElem?_eq_getElem (by omega))
         rw[← Nat.add_assoc]at hv'
         rw[hv',Array.getD_eq_getD_getElem?,Array.getElem?_eq_getElem (show off+j<c.size by omega)]
         have hall:=hle.2;rw[List.all_eq_true]at hall
         have:=hall c[off+j] (by
          rw[Array.mem_toList_iff]
          refine Array.mem_of_getElem? (i:=j) ?_
          rw[Array.getElem?_extract,if_pos (by omega),Array.getElem?_eq_getElem (by omega)])
         rw[g0_eq this r];rfl
        have earr:((List.range len).map fun j=>c.getD (off+j) undef).toArray=c.extract off (off+len):=by
         apply Array.ext_getElem?
         intro i
         have e:∀l:List Value,l.toArray[i]?=l[i]?:=fun l=>by simp
         rw[e,List.getElem?_map,Array.getElem?_extract]
         by_cases hi:i<len
         ·rw[List.getElem?_range hi,if_pos (by omega)]
          simp only[Option.map_some,Array.getD_eq_getD_getElem?,Array.getElem?_eq_getElem (show off+i<c.size by omega),Option.getD_some]
         ·rw[List.getElem?_eq_none (by simp;omega),if_neg (by omega)];rfl
        have hrun:=run_loadCells (P:=P) w ⟨B,base+off,none⟩ len _ hcell;rw[earr]at hrun;simp only[convert,Sem.run_bind,run_underlying hs,run_underlying hd,Result.andThen_ok,run_underlying he,bytesToString_eq,hrun,pureRun_run hv0]
      ·cases h
     ·cases h
    ·cases h
   ·cases h
  ·cases h
 ·cases h
def rBytesF (P:Program)(src dst:TypeId)(c:Array Value):Array Value→Option Value
 | ⟨[.slice (some ⟨_,off,none⟩) len _]⟩ =>
  match P.underlying src,P.underlying dst with
  | some (.slice e),some .string =>
   match P.underlying e with
   | some (.int .u8) =>
    if off+len≤c.size∧(c.extract off (off+len)).toList.all g0=true then
     match pureRun P (bytesTail (c.extract off (off+len))) with
     | some v=>if gr v then some v else none
     | none=>none
    else none
   | _=>none
  | _,_=>none
 | _=>none
theorem rBytesF_sound {src dst:TypeId}{c k:Array Value} {x' v:Value}(hI:Inv K w0 φ H w) (h:rBytesF P src dst c k=some v) (hx:VR φ (.func (.via 0 ⟨[]⟩ 0 true) c k) x') :
  ∃v',(convert src dst x').run P w=.ok v' w∧VR φ v v':=by
 unfold rBytesF at h
 split at h
 ·rename_i b off len z
  split at h
  ·rename_i e hs hd
   split at h
   ·rename_i he
    split at h
    ·rename_i hle
     split at h
     ·rename_i v0 hv0
      split at h
      ·rename_i hg
       simp only[Option.some.injEq]at h;subst h
       refine ⟨v0,?_,gr_refl hg⟩
       cases hx with
       | fn hg2=>cases hg2
       | fz hf =>
       rcases hf.lst_inv with ⟨C,el,fr,cap',B,base,rfl,rfl,hz,h1,h2,hl,hc⟩ | ⟨a',rfl,rfl,rfl⟩
       ·have hw:=hI.frz B _ hz
        have hcell:∀j,j<len→w.cell? ((⟨B,base+off,none⟩:Addr).add j)=some (c.getD (off+j) undef):=by
         intro j hj;rw[add_none,cell_at hw]
         have r:=h2 (off+j) (by omega)
         have hall:=hle.2;rw[List.all_eq_true]at hall
         have hc1:c.getD (off+j) undef=c[off+j]'(by omega):=by rw[Array.getD_eq_getD_getElem?,Array.getElem?_eq_getElem (show off+j<c.size by omega)];rfl
         have:=hall c[off+j] (by
          rw[Array.mem_toList_iff]
          refine Array.mem_of_getElem? (i:=j) ?_
          rw[Array.getElem?_extract,if_pos (by omega),Array.getElem?_eq_getElem (by omega)])
         rw[hc1]at r;have e1:=g0_eq this (FR.vr (φ:=φ) r)
         rw[hc1,← e1,Array.getD_eq_getD_getElem?,show base+off+j=base+(off+j) from Nat.add_assoc _ _ _,Array.getElem?_eq_getElem (show base+(off+j)<C.size by omega)];rfl
        have earr:((List.range len).map fun j=>c.getD (off+j) undef).toArray=c.extract off (off+len):=by
         apply Array.ext_getElem?
         intro i
         have e:∀l:List Value,l.toArray[i]?=l[i]?:=fun l=>by simp
         rw[e,List.getElem?_map,Array.getElem?_extract]
         by_cases hi:i<len
         ·rw[List.getElem?_range hi,if_pos (by omega)]
          simp only[Option.map_some,Array.getD_eq_getD_getElem?,Array.getElem?_eq_getElem (show off+i<c.size by omega),Option.getD_some]
         ·rw[List.getElem?_eq_none (by simp;omega),if_neg (by omega)];rfl
        have hrun:=run_loadCells (P:=P) w ⟨B,base+off,none⟩ len _ hcell;rw[earr]at hrun;simp only[convert,Sem.run_bind,run_underlying hs,run_underlying hd,Result.andThen_ok,run_underlying he,bytesToString_eq,hrun,pureRun_run hv0]
       ·have earr:((List.range 0).map fun _=>undef).toArray=c.extract off (off+0):=by
         apply Array.ext_getElem?
         intro i
         rw[Array.getElem?_extract,if_neg (by omega)];rfl
        cases a' with
        | none =>
         have e0:c.extract off (off+0)=#[]:=by rw[← earr];rfl
         rw[e0]at hv0
         have e1:v0=.string .empty:=by
          have:pureRun P (bytesTail #[])=some (.string .empty):=rfl;rw[this]at hv0;exact (Option.some.inj hv0).symm
         subst e1;simp only[convert,Sem.run_bind,run_underlying hs,run_underlying hd,Result.andThen_ok,run_underlying he,Conv.bytesToString]
         rfl
        | some a' =>
         have hrun:=run_loadCells (P:=P) w a' 0 (fun _=>undef) (fun j hj=>absurd hj (Nat.not_lt_zero _))
         rw[earr]at hrun;simp only[convert,Sem.run_bind,run_underlying hs,run_underlying hd,Result.andThen_ok,run_underlying he,bytesToString_eq,hrun,pureRun_run hv0]
      ·cases h
     ·cases h
    ·cases h
   ·cases h
  ·cases h
 ·cases h
def aFind (P:Program)(kt:TypeId)(k:Value):List Value→Nat→Option (Option Nat)
 | [],_=>some none
 | key::r,i =>
  match pureRun P (Op.equal kt k key) with
  | some true=>some (some i)
  | some false=>aFind P kt k r (i+1)
  | none=>none
theorem pure_underlying {kt:TypeId}{kind:TypeDesc}(hk:P.underlying kt=some kind):pureRun P (underlying kt)=some kind:=by
 simp only[underlying,pureRun_bind]
 show (Option.bind (some P) fun p=>_)=_
 simp only[Option.bind_some,hk];rfl
theorem equalIn_int (d:Nat) {kt:TypeId}{q:IntKind}(hk:P.underlying kt=some (.int q)) (k:IntKind) (a b:Int):pureRun P (Op.equalIn (d+1) kt (.int k a) (.int k b))=some (a == b):=by
 simp only[Op.equalIn,pureRun_bind,pure_underlying hk,Option.bind_some,if_true];rfl
theorem equalIn_string (d:Nat) {kt:TypeId}(hk:P.underlying kt=some .string) (a b:ByteArray):pureRun P (Op.equalIn (d+1) kt (.string a) (.string b))=some (a == b):=by
 simp only[Op.equalIn,pureRun_bind,pure_underlying hk,Option.bind_some];rfl
theorem equalIn_bool (d:Nat) {kt:TypeId}(hk:P.underlying kt=some .bool) (a b:Bool):pureRun P (Op.equalIn (d+1) kt (.bool a) (.bool b))=some (a == b):=by
 simp only[Op.equalIn,pureRun_bind,pure_underlying hk,Option.bind_some];rfl
theorem sameNow_eq {kt:TypeId}{kind:TypeDesc}(hk:P.underlying kt=some kind) {k key:Value}{b:Bool}(h:Instr.sameNow kind k key=some b):pureRun P (Op.equal kt k key)=some b:=by
 unfold Instr.sameNow at h
 split at h
 ·split at h
  ·rename_i e
   simp only[Option.some.injEq]at h;subst h;subst e;exact equalIn_int 9999 hk _ _ _
  ·cases h
 ·simp only[Option.some.injEq]at h;subst h
  exact equalIn_string 9999 hk _ _
 ·simp only[Option.some.injEq]at h;subst h
  exact equalIn_bool 9999 hk _ _
 ·cases h
theorem findNow_eq {kt:TypeId}{kind:TypeDesc}(hk:P.underlying kt=some kind) (k:Value):∀(es:List MapEntry) (i:Nat) (r:Option (Nat×Value)) (q:Option Nat),Instr.findNow kind k es i=some r →
  aFind P kt k (es.map (·.key)) i=some q→r=q.map fun j=>(j,((es[j-i]?).map (·.val)).getD undef)
 | [],i,r,q,h1,h2=>by
  simp only[Instr.findNow,Option.some.injEq,List.map_nil,aFind]at h1 h2;subst h1;subst h2;rfl
 | e::es,i,r,q,h1,h2=>by
  simp only[Instr.findNow]at h1;simp only[List.map_cons,aFind]at h2
  split at h1
  ·rename_i hs
   rw[sameNow_eq hk hs]at h2;simp only[Option.some.injEq]at h1 h2;subst h1;subst h2
   simp
  ·rename_i hs
   rw[sameNow_eq hk hs]at h2;simp only at h2;have ih:=findNow_eq hk k es (i+1) r q h1 h2;rw[ih]
   cases q with
   | none=>rfl
   | some j =>
    have hj:i+1≤j:=aFind_ge k _ _ _ h2;simp only[Option.map_some,Option.some.injEq,Prod.mk.injEq,true_and]
    rw[show j-i=(j-(i+1))+1 by omega,List.getElem?_cons_succ]
  ·cases h1
where
 aFind_ge (k:Value):∀(l:List Value) (i j:Nat),aFind P kt k l i=some (some j)→i≤j
 | [],i,j,h=>by simp [aFind]at h
 | key::r,i,j,h=>by
  simp only[aFind]at h
  split at h
  ·simp only[Option.some.injEq]at h;omega
  ·have:=aFind_ge k r (i+1) j h;omega
  ·cases h
theorem findAsking_run {kt:TypeId}(k:Value) (w:World):∀(es:List MapEntry) (i:Nat) (q:Option Nat),aFind P kt k (es.map (·.key)) i=some q →
  (Instr.findAsking kt k es i).run P w=.ok (q.map fun j=>(j,((es[j-i]?).map (·.val)).getD undef)) w
 | [],i,q,h=>by
  simp only[List.map_nil,aFind,Option.some.injEq]at h;subst h;rfl
 | e::es,i,q,h=>by
  simp only[List.map_cons,aFind]at h;simp only[Instr.findAsking,Sem.run_bind]
  split at h
  ·rename_i hs
   simp only[Option.some.injEq]at h;subst h;simp only[pureRun_run hs,Result.andThen_ok,if_true,Sem.run_pure]
   simp
  ·rename_i hs
   simp only[pureRun_run hs,Result.andThen_ok,Bool.false_eq_true,if_false];rw[findAsking_run k w es (i+1) q h]
   cases q with
   | none=>rfl
   | some j =>
    have hj:i+1≤j:=findNow_eq.aFind_ge k _ _ _ h;simp only[Option.map_some,Result.ok.injEq,Option.some.injEq,Prod.mk.injEq,true_and,and_true]
    rw[show j-i=(j-(i+1))+1 by omega,List.getElem?_cons_succ]
  ·cases h
theorem findKey_run {kt:TypeId}{k:Value}{es:List MapEntry}{q:Option Nat}(w:World) (hk:(P.underlying kt).isSome=true) (h:aFind P kt k (es.map (·.key)) 0=some q) :
  (Instr.findKey kt k es).run P w=.ok (q.map fun j=>(j,((es[j]?).map (·.val)).getD undef)) w:=by
 obtain ⟨kind,hu⟩:=Option.isSome_iff_exists.1 hk;simp only[Instr.findKey,Sem.run_bind,run_underlying hu,Result.andThen_ok]
 cases hf:Instr.findNow kind k es 0 with
 | some r=>simp only[Sem.run_pure];rw[findNow_eq hu k es 0 r q hf h];rfl
 | none=>simp only;exact findAsking_run k w es 0 q h
def rLookup (P:Program)(H:List Ob)(t:TypeId)(ok:Bool)(k:Value):Value→Option Value
 | .map (some r) =>
  match P.underlying t,H[r]? with
  | some (.map kt et),some (.map es) =>
   if gr k=true∧pureRun P (Instr.checkKey es.isEmpty 10000 kt k)=some ()∧(P.underlying kt).isSome=true then
    match aFind P kt k (es.map (·.1)) 0 with
    | some (some j)=>match es[j]? with
     | some (_,v)=>some (if ok then .tuple #[v,.bool true] else v)
     | none=>none
    | some none=>match zeroB P et with
     | some z=>some (if ok then .tuple #[z,.bool false] else z)
     | none=>none
    | none=>none
   else none
  | _,_=>none
 | _=>none
theorem keys_eq {es:List (Value×Value)}{E:Array MapEntry}(hs:E.size=es.length) (h:∀(i:Nat) (k v:Value),es[i]?=some (k,v)→∃en:MapEntry,E[i]?=some en∧en.key=k∧VR φ v en.val) :
  E.toList.map (·.key)=es.map (·.1):=by
 apply List.ext_getElem?
 intro i
 rw[List.getElem?_map,List.getElem?_map,Array.getElem?_toList]
 cases he:es[i]? with
 | none =>
  rw[List.getElem?_eq_none_iff]at he
  rw[Array.getElem?_eq_none (by omega)]
  rfl
 | some kv =>
  obtain ⟨k,v⟩:=kv;obtain ⟨en,h1,h2,_⟩:=h i k v he;rw[h1];simp [h2]
theorem rLookup_sound (hI:Inv K w0 φ H w) {t:TypeId}{ok:Bool} {k k' x x' v:Value}(h:rLookup P H t ok k x=some v) (hx:VR φ x x') (hkk:VR φ k k') :
  ∃v',(Instr.lookup t x' k' ok).run P w=.ok v' w∧VR φ v v':=by
 unfold rLookup at h
 split at h
 ·rename_i r
  cases hx with
  | @map _ B tot hφ =>
   split at h
   ·rename_i kt et es hu hr
    split at h
    ·rename_i hc
     obtain ⟨hg,hck,hks⟩:=hc;obtain rfl:=gr_eq hg hkk;obtain ⟨B',base',tot',h1,h0,E,clock,h2,h3,h4⟩:=hI.obs r _ hr rfl;rw[hφ]at h1;cases h1
     have hget:(getObj B).run P w=.ok (.map E clock) w:=by simp [getObj,Sem.run,h2]
     have hemp:E.isEmpty=es.isEmpty:=by
      rw[Bool.eq_iff_iff,Array.isEmpty_iff_size_eq_zero,h3,List.isEmpty_iff,List.length_eq_zero_iff]
     have hkeys:=keys_eq h3 h4
     split at h
     ·rename_i j hj
      rw[← hkeys]at hj;have hf:=findKey_run w hks hj
      split at h
      ·rename_i k0 v0 hv0
       simp only[Option.some.injEq]at h;subst h;obtain ⟨en,he1,_,he3⟩:=h4 j k0 v0 hv0
       refine ⟨if ok then .tuple #[en.val,.bool true] else en.val,?_,?_⟩
       ·simp only[Instr.lookup,Sem.run_bind,run_underlying hu,Result.andThen_ok,hget,Sem.run_pure,hemp,pureRun_run hck,hf,Option.map_some,Array.getElem?_toList,he1,Option.getD_some]
       ·cases ok
        ·exact he3
        ·exact ((VRs.one he3).push (.bool true)).tuple
      ·cases h
     ·rename_i hj
      rw[← hkeys]at hj;have hf:=findKey_run w hks hj
      split at h
      ·rename_i z hz
       simp only[Option.some.injEq]at h;subst h;obtain ⟨hz1,hz2⟩:=run_zero hz w
       refine ⟨if ok then .tuple #[z,.bool false] else z,?_,?_⟩
       ·simp only[Instr.lookup,Sem.run_bind,run_underlying hu,Result.andThen_ok,hget,Sem.run_pure,hemp,pureRun_run hck,hf,Option.map_none,hz1]
       ·cases ok
        ·exact gA_refl hz2
        ·exact ((VRs.one (gA_refl hz2)).push (.bool false)).tuple
      ·cases h
     ·cases h
    ·cases h
   ·cases h
 ·cases h
end
def rNil:Value→Option Value
 | .pointer (some a)=>some (.pointer (some a))
 | .func (.func f) fi ca=>some (.func (.func f) fi ca)
 | .func (.via 0 ⟨[]⟩ 0 false) c ⟨[.pointer (some ⟨b,off,none⟩)]⟩=>some (.func (.via 0 ⟨[]⟩ 0 false) c ⟨[.pointer (some ⟨b,off,none⟩)]⟩)
 | _=>none
def rLen (P:Program)(H:List Ob)(t:TypeId):Value→Option Value
 | .slice _ n _=>match P.underlying t with | some (.slice _)=>some (goInt n) | _=>none
 | .func (.via 0 ⟨[]⟩ 0 true) _ ⟨[.slice (some ⟨_,_,none⟩) n _]⟩=>match P.underlying t with | some (.slice _)=>some (goInt n) | _=>none
 | .map (some r)=>match P.underlying t,H[r]? with | some (.map _ _),some (.map es)=>some (goInt es.length) | _,_=>none
 | _=>none
def fastBin (op:BinOp)(x y:Value):Option Value :=
 match x,y with
 | .int k a,.int k' b =>
  if k=k' then
   match op with
   | .add=>some (.int k (k.wrap (a+b)))
   | .sub=>some (.int k (k.wrap (a-b)))
   | .mul=>some (.int k (k.wrap (a*b)))
   | .eql=>some (.bool (a == b))
   | .neq=>some (.bool (a != b))
   | .lss=>some (.bool (decide (a<b)))
   | .leq=>some (.bool (decide (a≤b)))
   | .gtr=>some (.bool (decide (a > b)))
   | .geq=>some (.bool (decide (a ≥ b)))
   | _=>none
  else none
 | _,_=>none
theorem fastBin_sound {P:Program}{op:BinOp}{x y v:Value}(h:fastBin op x y=some v) (t:TypeId) (ox oy:Operand) (w:World):(do eqGuard op t ox oy x y;binOp op t x y:Sem Value).run P w=.ok v w∧gr v=true:=by
 unfold fastBin at h
 split at h
 ·split at h
  ·rename_i k a k' b hk
   subst hk
   have hg:(eqGuard op t ox oy (.int k a) (.int k b)).run P w=.ok () w:=by
    unfold eqGuard
    cases op<;>rfl
   simp only[Sem.run_bind,hg,Result.andThen_ok]
   cases op<;>simp only[Option.some.injEq]at h<;>first | (cases h;done) | (subst h;simp [binOp,Op.intArith,Op.intCmp,gr,gA,g0])
  ·cases h
 ·cases h
def nilS:Value→Option Bool
 | .slice none 0 0=>some true
 | .slice (some _) _ _=>some false
 | .func (.via 0 ⟨[]⟩ 0 true) _ ⟨[.slice (some ⟨_,_,none⟩) (_+1) _]⟩=>some false
 | _=>none
theorem nilS_ok {φ:Phi} {v v':Value}{b:Bool}(h:nilS v=some b) (hv:VR φ v v'):∃a l c,v'=.slice a l c∧a.isNone=b:=by
 unfold nilS at h
 split at h
 ·cases h;cases hv;exact ⟨_,_,_,rfl,rfl⟩
 ·cases h
  cases hv with
  | sliceZ _ a' c=>exact ⟨_,_,_,rfl,rfl⟩
  | slice _ _ _=>exact ⟨_,_,_,rfl,rfl⟩
 ·cases h
  cases hv with
  | fn hg=>cases hg
  | fz hf =>
   rcases hf.lst_inv with ⟨C,el,fr,cap',B,base,_,rfl,_⟩ | ⟨a',_,h0,_⟩
   ·exact ⟨_,_,_,rfl,rfl⟩
   ·cases h0
 ·cases h
def nilCmp (P:Program)(op:BinOp)(t:TypeId)(x y:Value):Option Value :=
 match P.underlying t with
 | some (.slice _) =>
  match nilS x,nilS y with
  | some a,some b=>if a||b then (match op with
   | .eql=>some (.bool (a&&b))
   | .neq=>some (.bool (!(a&&b)))
   | _=>none) else none
  | _,_=>none
 | _=>none
theorem run_eqSlice {P:Program}{w:World}{t e:TypeId}(hu:P.underlying t=some (.slice e)) {a b:Option Addr}{l c m n:Nat}(h:(a.isNone||b.isNone)=true) :
  ∀d,(Op.equalIn (d+1) t (.slice a l c) (.slice b m n)).run P w=.ok (a.isNone&&b.isNone) w:=by
 intro d;unfold Op.equalIn;simp only[Sem.run_bind,run_underlying hu,Result.andThen_ok]
 cases a<;>cases b<;>first | rfl | (simp at h)
theorem nilCmp_sound {P:Program} {φ:Phi}{op:BinOp}{t:TypeId} {x y x' y' v:Value}(h:nilCmp P op t x y=some v) (hx:VR φ x x') (hy:VR φ y y') (ox oy:Operand) (w:World) :
  (do eqGuard op t ox oy x' y';binOp op t x' y':Sem Value).run P w=.ok v w∧gr v=true:=by
 unfold nilCmp at h
 split at h
 case h_2=>cases h
 rename_i e hu
 split at h
 case h_2=>cases h
 rename_i a b ha hb
 split at h
 case isFalse=>cases h
 rename_i hab;obtain ⟨a',l,c,rfl,rfl⟩:=nilS_ok ha hx;obtain ⟨b',m,n,rfl,rfl⟩:=nilS_ok hb hy
 have hg:∀op,(eqGuard op t ox oy (.slice a' l c) (.slice b' m n)).run P w=.ok () w:=by
  intro op;unfold eqGuard
  cases op<;>rfl
 have he:(Op.equal t (.slice a' l c) (.slice b' m n)).run P w=.ok (a'.isNone&&b'.isNone) w:=run_eqSlice hu hab 9999
 split at h
 ·simp only[Option.some.injEq]at h
  subst h
  refine ⟨?_,rfl⟩
  simp only[Sem.run_bind,hg,Result.andThen_ok,binOp,he,Sem.run_pure]
 ·simp only[Option.some.injEq]at h
  subst h
  refine ⟨?_,rfl⟩
  simp only[Sem.run_bind,hg,Result.andThen_ok,binOp,he,Sem.run_pure]
 ·cases h
def numB:Builtin→Bool
 | .len | .min | .max=>true
 | _=>false
def aread (P:Program) (ρ:Operand→Value)(H:List Ob)(o:Oper):Option Value :=
 match o.op with
 | .move x | .assign x=>if okO x then some (ρ x) else none
 | .pick c a b=>if okO c&&okO a&&okO b then (match ρ c with | .bool t=>some (if t then ρ a else ρ b) | _=>none) else none
 | .load t x=>if okO x then rLoad P H t (ρ x) else none
 | .nilCheck x=>if okO x then rNil (ρ x) else none
 | .binOp op t x y _=>if okO x&&okO y&&gr (ρ x)&&gr (ρ y) then (match fastBin op (ρ x) (ρ y) with | some v=>some v | none=>pureVal P (execOp ρ o)) else if okO x&&okO y then nilCmp P op t (ρ x) (ρ y) else none
 | .unOp _ _ x=>if okO x&&gr (ρ x) then pureVal P (execOp ρ o) else none
 | .convert src dst x=>if okO x then (if gr (ρ x) then pureVal P (execOp ρ o) else match ρ x with | .slice (some a) n c=>rBytes P H src dst (.slice (some a) n c) | .func (.via 0 ⟨[]⟩ 0 true) c k=>rBytesF P src dst c k | _=>none) else none
 | .makeInterface t x=>if okO x then (match P.underlying t with | some (.interface _) | none=>none | some _=>some (.iface t (ρ x))) else none
 | .makeFunc fn fi ca=>if plainFn fn&&fi.toList.all okO&&ca.toList.all okO then some (.func fn (fi.map ρ) (ca.map ρ)) else none
 | .slice t x lo hi mx=>if okO x&&lo.all okO&&hi.all okO&&mx.isNone then
   (if gr (ρ x)&&lo.all (fun x=>gr (ρ x))&&hi.all (fun x=>gr (ρ x)) then pureVal P (execOp ρ o) else rSlice P H t (lo.map ρ) (hi.map ρ) (ρ x)) else none
 | .fieldAddr s x f=>if okO x then rFieldAddr P s f (ρ x) else none
 | .field t x f=>if okO x then rField P t f (ρ x) else none
 | .indexAddr t x ix=>if okO x&&okO ix then rIndexAddr P t (ρ x) (ρ ix) else none
 | .index t x ix=>if okO x&&okO ix&&gr (ρ x)&&gr (ρ ix) then pureVal P (execOp ρ o) else if okO x&&okO ix then rIndex P t (ρ x) (ρ ix) else none
 | .lookup t x k ok=>if okO x&&okO k then (if gr (ρ x)&&gr (ρ k) then pureVal P (execOp ρ o) else rLookup P H t ok (ρ k) (ρ x)) else none
 | .extract x i=>if okO x then rExtract i (ρ x) else none
 | .build t ps=>if ps.toList.all (fun x=>okO x.2&&notT (ρ x.2)) then rBuild P t (ps.toList.map fun (i,x)=>(i,ρ x)) else none
 | .call { callee:=.builtin b,args,argTypes } =>
  if args.toList.all okO then
   if args.toList.all (fun x=>gr (ρ x))&&numB b then pureVal P (execOp ρ o)
   else match b,args.toList,argTypes.toList with
    | .len,[x],[t]=>rLen P H t (ρ x)
    | _,_,_=>none
  else none
 | .typeAssert x _ _ _=>if okO x&&gr (ρ x) then pureVal P (execOp ρ o) else none
 | _=>none
section
variable {P:Program}{K:Nat→Prop}{w0 w:World} {φ:Phi}{H:List Ob} {ρ ρ':Operand→Value}
theorem vrs_map (hρ:Evs φ ρ ρ') {xs:Array Operand}(h:xs.toList.all okO=true):VRs φ (xs.map ρ) (xs.map ρ'):=by
 intro i
 rw[Array.getElem?_map,Array.getElem?_map]
 cases hx:xs[i]? with
 | none=>exact .none
 | some x =>
  rw[List.all_eq_true]at h
  exact .some (hρ x (h x (by rw[Array.mem_toList_iff];exact Array.mem_of_getElem? hx)))
theorem map_gr (hρ:Evs φ ρ ρ') {xs:Array Operand}(h:xs.toList.all okO=true) (hg:xs.toList.all (fun x=>gr (ρ x))=true):xs.map ρ'=xs.map ρ:=by
 apply Array.ext_getElem?
 intro i
 rw[Array.getElem?_map,Array.getElem?_map]
 cases hx:xs[i]? with
 | none=>rfl
 | some x =>
  rw[List.all_eq_true]at h hg
  have hm:x∈xs.toList:=by rw[Array.mem_toList_iff];exact Array.mem_of_getElem? hx
  simp only[Option.map_some];rw[gr_eq (hg x hm) (hρ x (h x hm))]
theorem opt_gr (hρ:Evs φ ρ ρ') {x:Option Operand}(h:x.all okO=true) (hg:x.all (fun x=>gr (ρ x))=true):x.map ρ'=x.map ρ:=by
 cases x with
 | none=>rfl
 | some x=>simp only[Option.all_some]at h hg;simp only[Option.map_some];rw[gr_eq hg (hρ x h)]
theorem opt_or (hρ:Evs φ ρ ρ') {x:Option Operand}(h:x.all okO=true):OR (VR φ) (x.map ρ) (x.map ρ'):=by
 cases x with
 | none=>exact .none
 | some x=>exact .some (hρ x h)
theorem ground_case {o:Oper}{v:Value}(he:execOp ρ' o=execOp ρ o) (h:pureVal P (execOp ρ o)=some v):∃v',(execOp ρ' o).run P w=.ok (.value v') w∧VR φ v v':=by
 rw[he];exact ⟨v,pureVal_sound h φ w⟩
theorem value_case {s:Sem Value} {v':Value}(h:s.run P w=.ok v' w):(do pure (.value (← s)):Sem Next).run P w=.ok (.value v') w:=by
 simp only[Sem.run_bind,h,Result.andThen_ok,Sem.run_pure]
theorem rNil_sound {o:Oper}{x:Operand} {x' v:Value}(ho:o.op=.nilCheck x) (hx':ρ' x=x') (h:rNil (ρ x)=some v) (hx:VR φ (ρ x) x'):∃v',(execOp ρ' o).run P w=.ok (.value v') w∧VR φ v v':=by
 simp only[execOp,ho,hx'];unfold rNil at h
 split at h
 ·rename_i a ha
  rw[ha]at hx;simp only[Option.some.injEq]at h;subst h
  cases hx with
  | ptr hφ=>exact ⟨_,rfl,.ptr hφ⟩
 ·rename_i f fi ca ha
  rw[ha]at hx;simp only[Option.some.injEq]at h;subst h
  cases hx with
  | fn hg h1 h2 h3 h4=>exact ⟨_,rfl,.fn hg h1 h2 h3 h4⟩
 ·rename_i c b off ha
  rw[ha]at hx;simp only[Option.some.injEq]at h;subst h
  cases hx with
  | fn hg=>cases hg
  | fz hf =>
   obtain ⟨C,el,fr,B,base,rfl,rfl,hz,h1,h2⟩:=hf.dpt_inv;exact ⟨_,rfl,.fz (.dpt hz h1 h2)⟩
 ·cases h
theorem rLen_sound (hI:Inv K w0 φ H w) {t ty:TypeId} {x x' v:Value}(h:rLen P H t x=some v) (hx:VR φ x x'):∃v',(Builtin.len_ #[t] ty #[x']).run P w=.ok v' w∧VR φ v v':=by
 unfold rLen at h
 split at h
 ·rename_i a n c
  split at h
  ·rename_i e hu
   simp only[Option.some.injEq]at h;subst h
   refine ⟨goInt n,?_,.int _ _⟩
   cases hx with
   | sliceN=>simp [Builtin.len_,run_underlying hu]
   | sliceZ hφ a' c=>simp [Builtin.len_,run_underlying hu]
   | slice hφ hl hc=>simp [Builtin.len_,run_underlying hu]
  ·cases h
 ·rename_i c b off n sz
  split at h
  ·rename_i e hu
   simp only[Option.some.injEq]at h;subst h
   refine ⟨goInt n,?_,.int _ _⟩
   cases hx with
   | fn hg=>cases hg
   | fz hf =>
    rcases hf.lst_inv with ⟨C,el,fr,cap',B,base,_,rfl,_⟩ | ⟨a',_,rfl,rfl⟩
    ·simp [Builtin.len_,run_underlying hu]
    ·simp [Builtin.len_,run_underlying hu]
  ·cases h
 ·rename_i r
  split at h
  ·rename_i k e es hu hr
   simp only[Option.some.injEq]at h;subst h
   cases hx with
   | @map _ B tot hφ =>
    obtain ⟨B',base',tot',h1,h0,E,clock,h2,h3,_⟩:=hI.obs r _ hr rfl;rw[hφ]at h1;cases h1
    refine ⟨goInt E.size,?_,?_⟩
    ·simp [Builtin.len_,run_underlying hu,getObj,Sem.run,h2]
    ·rw[h3];exact .int _ _
  ·cases h
 ·cases h
theorem aread_sound (hI:Inv K w0 φ H w)(hρ:Evs φ ρ ρ') {o:Oper}{v:Value}(h:aread P ρ H o=some v):∃v',(execOp ρ' o).run P w=.ok (.value v') w∧VR φ v v':=by
 unfold aread at h
 split at h
 case h_1 x ho =>
  split at h
  ·rename_i hx
   simp only[Option.some.injEq]at h;subst h
   exact ⟨ρ' x,by simp only[execOp,ho];rfl,hρ x hx⟩
  ·cases h
 case h_2 x ho =>
  split at h
  ·rename_i hx
   simp only[Option.some.injEq]at h;subst h
   exact ⟨ρ' x,by simp only[execOp,ho];rfl,hρ x hx⟩
  ·cases h
 case h_3 c a b ho =>
  split at h
  ·rename_i hx
   simp only[Bool.and_eq_true]at hx;obtain ⟨⟨hc,ha⟩,hb⟩:=hx;have hcv:=hρ c hc
   split at h
   ·rename_i t ht
    rw[ht]at hcv
    generalize hc':ρ' c=c' at hcv
    cases hcv
    simp only[Option.some.injEq]at h;subst h
    refine ⟨if t then ρ' a else ρ' b,by simp only[execOp,ho,hc',asBool,Sem.run_bind,Sem.run_pure,Result.andThen_ok],?_⟩
    cases t
    ·exact hρ b hb
    ·exact hρ a ha
   ·cases h
  ·cases h
 case h_4 t x ho =>
  split at h
  ·rename_i hx
   obtain ⟨v',hr,hv⟩:=rLoad_sound hI h (hρ x hx)
   exact ⟨v',by simp only[execOp,ho];exact value_case hr,hv⟩
  ·cases h
 case h_5 x ho =>
  split at h
  ·rename_i hx
   exact rNil_sound ho rfl h (hρ x hx)
  ·cases h
 case h_6 op t x y yt ho =>
  split at h
  ·rename_i hx
   simp only[Bool.and_eq_true]at hx;obtain ⟨⟨⟨hx,hy⟩,gx⟩,gy⟩:=hx
   split at h
   ·rename_i v' hf
    simp only[Option.some.injEq]at h;subst h;obtain ⟨q1,q2⟩:=fastBin_sound (P:=P) hf t x y w
    refine ⟨_,?_,gr_refl q2⟩
    simp only[execOp,ho,gr_eq gx (hρ x hx),gr_eq gy (hρ y hy)];exact value_case q1
   ·exact ground_case (by simp only[execOp,ho,gr_eq gx (hρ x hx),gr_eq gy (hρ y hy)]) h
  ·split at h
   ·rename_i hx
    rw[Bool.and_eq_true]at hx;obtain ⟨q1,q2⟩:=nilCmp_sound h (hρ x hx.1) (hρ y hx.2) x y w
    refine ⟨_,?_,gr_refl q2⟩
    simp only[execOp,ho];exact value_case q1
   ·cases h
 case h_7 op t x ho =>
  split at h
  ·rename_i hx
   simp only[Bool.and_eq_true]at hx
   exact ground_case (by simp only[execOp,ho,gr_eq hx.2 (hρ x hx.1)]) h
  ·cases h
 case h_8 src dst x ho =>
  split at h
  ·rename_i hx
   split at h
   ·rename_i hg
    exact ground_case (by simp only[execOp,ho,gr_eq hg (hρ x hx)]) h
   ·split at h
    ·rename_i a n c hv
     have hxv:=hρ x hx;rw[hv]at hxv;obtain ⟨v',hr,hv⟩:=rBytes_sound hI h hxv
     exact ⟨v',by simp only[execOp,ho];exact value_case hr,hv⟩
    ·rename_i c k hv
     have hxv:=hρ x hx;rw[hv]at hxv;obtain ⟨v',hr,hv⟩:=rBytesF_sound hI h hxv
     exact ⟨v',by simp only[execOp,ho];exact value_case hr,hv⟩
    ·cases h
  ·cases h
 case h_9 t x ho =>
  split at h
  ·rename_i hx
   split at h
   ·cases h
   ·cases h
   ·rename_i d hni hu
    simp only[Option.some.injEq]at h;subst h
    refine ⟨.iface t (ρ' x),?_,.iface t (hρ x hx)⟩
    simp only[execOp,ho]
    refine value_case ?_
    simp only[Instr.makeInterface,Sem.run_bind,run_underlying hu,Result.andThen_ok]
    cases d<;>first | rfl | exact absurd hu (hni _)
  ·cases h
 case h_10 fn fi ca ho =>
  split at h
  ·rename_i hx
   simp only[Bool.and_eq_true]at hx;obtain ⟨⟨hp,h1⟩,h2⟩:=hx;simp only[Option.some.injEq]at h;subst h;have v1:=vrs_map hρ h1;have v2:=vrs_map hρ h2
   exact ⟨.func fn (fi.map ρ') (ca.map ρ'),by simp only[execOp,ho];exact value_case rfl,.fn hp v1.size (fun i _=>v1.getD i) v2.size (fun i _=>v2.getD i)⟩
  ·cases h
 case h_11 t x lo hi mx ho =>
  split at h
  ·rename_i hx
   simp only[Bool.and_eq_true]at hx;obtain ⟨⟨⟨hx,hlo⟩,hhi⟩,hmx⟩:=hx
   obtain rfl:mx=none:=by cases mx<;>first | rfl | cases hmx
   split at h
   ·rename_i hg
    simp only[Bool.and_eq_true]at hg
    exact ground_case (by simp only[execOp,ho,gr_eq hg.1.1 (hρ x hx),opt_gr hρ hlo hg.1.2,opt_gr hρ hhi hg.2,Option.map_none]) h
   ·obtain ⟨v',hr,hv⟩:=rSlice_sound hI h (hρ x hx) (opt_or hρ hlo) (opt_or hρ hhi)
    exact ⟨v',by simp only[execOp,ho];exact value_case hr,hv⟩
  ·cases h
 case h_12 s x f ho =>
  split at h
  ·rename_i hx
   obtain ⟨v',hr,hv⟩:=rFieldAddr_sound (w:=w) h (hρ x hx)
   exact ⟨v',by simp only[execOp,ho];exact value_case hr,hv⟩
  ·cases h
 case h_13 t x f ho =>
  split at h
  ·rename_i hx
   obtain ⟨v',hr,hv⟩:=rField_sound (w:=w) h (hρ x hx)
   exact ⟨v',by simp only[execOp,ho];exact value_case hr,hv⟩
  ·cases h
 case h_14 t x ix ho =>
  split at h
  ·rename_i hx
   simp only[Bool.and_eq_true]at hx;obtain ⟨v',hr,hv⟩:=rIndexAddr_sound (w:=w) h (hρ x hx.1) (hρ ix hx.2)
   exact ⟨v',by simp only[execOp,ho];exact value_case hr,hv⟩
  ·cases h
 case h_15 t x ix ho =>
  split at h
  ·rename_i hx
   simp only[Bool.and_eq_true]at hx;obtain ⟨⟨⟨hx,hy⟩,gx⟩,gy⟩:=hx
   exact ground_case (by simp only[execOp,ho,gr_eq gx (hρ x hx),gr_eq gy (hρ ix hy)]) h
  ·split at h
   ·rename_i hx
    simp only[Bool.and_eq_true]at hx;obtain ⟨v',hr,hv⟩:=rIndex_sound (w:=w) h (hρ x hx.1) (hρ ix hx.2)
    exact ⟨v',by simp only[execOp,ho];exact value_case hr,hv⟩
   ·cases h
 case h_16 t x k ok ho =>
  split at h
  ·rename_i hx
   simp only[Bool.and_eq_true]at hx
   split at h
   ·rename_i hg
    simp only[Bool.and_eq_true]at hg
    exact ground_case (by simp only[execOp,ho,gr_eq hg.1 (hρ x hx.1),gr_eq hg.2 (hρ k hx.2)]) h
   ·obtain ⟨v',hr,hv⟩:=rLookup_sound hI h (hρ x hx.1) (hρ k hx.2)
    exact ⟨v',by simp only[execOp,ho];exact value_case hr,hv⟩
  ·cases h
 case h_17 x i ho =>
  split at h
  ·rename_i hx
   obtain ⟨v',hr,hv⟩:=rExtract_sound (P:=P) (w:=w) h (hρ x hx)
   exact ⟨v',by simp only[execOp,ho];exact value_case hr,hv⟩
  ·cases h
 case h_18 t ps ho =>
  split at h
  ·rename_i hx
   have e:∀f:Operand→Value,(ps.map fun (i,x)=>(i,f x)).toList=ps.toList.map fun (i,x)=>(i,f x):=fun f=>by simp
   obtain ⟨v',hr,hv⟩:=rBuild_sound (P:=P) (w:=w) (parts:=ps.map fun (i,x)=>(i,ρ x)) (parts':=ps.map fun (i,x)=>(i,ρ' x)) (by rw[e];exact h) (by rw[e,e];exact parts_of hρ hx)
   exact ⟨v',by simp only[execOp,ho];exact value_case hr,hv⟩
  ·cases h
 case h_19 b args argTypes ho =>
  split at h
  ·rename_i hx
   split at h
   ·rename_i hg
    simp only[Bool.and_eq_true]at hg
    exact ground_case (by simp only[execOp,ho,resolve,map_gr hρ hx hg.1]) h
   ·rename_i hng
    split at h
    ·rename_i x t ha ht
     obtain rfl:args=#[x]:=by cases args;simp_all
     obtain rfl:argTypes=#[t]:=by cases argTypes;simp_all
     simp only[List.all_cons,List.all_nil,Bool.and_true]at hx;obtain ⟨v',hr,hv⟩:=rLen_sound (ty:=o.type) hI h (hρ x hx)
     refine ⟨v',?_,hv⟩
     have e:Array.map ρ' #[x]=#[ρ' x]:=by simp
     simp only[execOp,ho,resolve,Sem.run_bind,Sem.run_pure,Result.andThen_ok,invoke,builtin,e,hr]
    ·cases h
  ·cases h
 case h_20 x xt ta ok ho =>
  split at h
  ·rename_i hx
   simp only[Bool.and_eq_true]at hx
   exact ground_case (by simp only[execOp,ho,gr_eq hx.2 (hρ x hx.1)]) h
  ·cases h
 case h_21=>cases h
end
structure Hp where
 bl:List Ob
 base:Nat
 wr:List Nat
 deriving Inhabited
def Hp.push (h:Hp)(ob:Ob):Hp:={ h with bl:=h.bl++[ob] }
def Hp.put (h:Hp)(b:Nat)(ob:Ob):Hp:={ h with bl:=h.bl.set b ob,wr:=if b<h.base then b::h.wr else h.wr }
section
variable {P:Program}{K:Nat→Prop}{w0 w:World} {φ:Phi}{H:List Ob}
theorem Inv.cells (h:Inv K w0 φ H w) {c C:Array Value}{el:TypeId}(tot:Nat) (hc:∀(i:Nat) (v:Value),c[i]?=some v→∃v',C[i]?=some v'∧VR φ v v') (h1:c.size≤tot) (h2:tot≤C.size) :
  Inv K w0 (up φ H.length (w.heap.size,0,tot)) (H++[.cells c false]) (w.alloc (.cells C el)):=by
 refine h.alloc _ _ tot ?_
 have hle:=le_up (x:=(w.heap.size,0,tot)) (h.top _ (Nat.le_refl _))
 refine ⟨C,el,(0,0),World.alloc_heap_new w _,fun i v hv=>?_,fun _=>⟨h1,by omega,NF.zero _ _⟩⟩
 obtain ⟨v',hv',r⟩:=hc i v hv
 exact ⟨v',by rw[Nat.zero_add];exact hv',r.mono hle⟩
theorem vrs_some {xs ys:Array Value}(h:VRs φ xs ys) {i:Nat}{v:Value}(hv:xs[i]?=some v):∃v',ys[i]?=some v'∧VR φ v v':=by
 have:=h i;rw[hv]at this
 generalize ys[i]?=y at this
 cases this with
 | some h=>exact ⟨_,rfl,h⟩
theorem Inv.row (h:Inv K w0 φ H w) {c C:Array Value}{el:TypeId}(hc:VRs φ c C) :
  Inv K w0 (up φ H.length (w.heap.size,0,c.size)) (H++[.cells c false]) (w.alloc (.cells C el)) :=
 h.cells c.size (fun _ _ hv=>vrs_some hc hv) (Nat.le_refl _) (by rw[hc.size];exact Nat.le_refl _)
theorem Inv.le_new (h:Inv K w0 φ H w)(x:Nat×Nat×Nat):le φ (up φ H.length x):=le_up (h.top _ (Nat.le_refl _))
def Loud (P:Program)(K:Nat→Prop)(w0:World) (φ:Phi)(w:World)(s:Sem Value)(v:Value) (H':List Ob):Prop :=
 ∃φ' v' w',s.run P w=.ok v' w'∧le φ φ'∧VR φ' v v'∧Inv K w0 φ' H' w'
def lAlloc (P:Program)(h:Hp)(t:TypeId):Option (Value×Hp) :=
 match zeroB P t with
 | some z=>some (.pointer (some ⟨h.bl.length,0,none⟩),h.push (.cells z.cells false))
 | none=>none
theorem alloc_sound (hI:Inv K w0 φ H w) {v v':Value}(t:TypeId) (hv:VR φ v v') (hn:notT v=true) :
  Loud P K w0 φ w (do pure (.pointer (some (← newVar t v')))) (.pointer (some ⟨H.length,0,none⟩)) (H++[.cells v.cells false]) :=
 ⟨up φ H.length (w.heap.size,0,v.cells.size),.pointer (some ⟨w.heap.size,0,none⟩),w.alloc (.cells v'.cells t),rfl,hI.le_new _,.ptr (up_same _ _ _),hI.row (hv.cells hn)⟩
theorem lAlloc_sound {h h':Hp}(hI:Inv K w0 φ h.bl w) {t:TypeId}{v:Value}(hl:lAlloc P h t=some (v,h')):Loud P K w0 φ w (Instr.alloc t true (.tuple #[])) v h'.bl:=by
 unfold lAlloc at hl
 split at hl
 ·rename_i z hz
  simp only[Option.some.injEq,Prod.mk.injEq]at hl;obtain ⟨rfl,rfl⟩:=hl;obtain ⟨hz1,hz2⟩:=run_zero hz w;obtain ⟨φ',v',w',hr,r⟩:=alloc_sound (P:=P) hI t (gA_refl (φ:=φ) hz2) (gA_notT hz2)
  refine ⟨φ',v',w',?_,r⟩
  simp only[Instr.alloc,Sem.run_bind,hz1,Result.andThen_ok]
  simpa only [Sem.run_bind] using hr
 ·cases hl
def lBox (h:Hp)(v:Value):Value×Hp:=(.pointer (some ⟨h.bl.length,0,none⟩),h.push (.cells v.cells false))
theorem run_storeCells {B n:Nat}{el:TypeId}{fr:Nat×Nat}:∀(vs:List Value) (i:Nat) (w:World) (C:Array Value),w.heap[B]?=some (.cells C el fr)→n+i+vs.length≤C.size →
  (∀j,n+i≤j→j<n+i+vs.length→¬(fr.1≤j∧j<fr.2))→(∀v∈vs,v.oneCell'=true) →
  ∃w' C',(storeCells ⟨B,n,none⟩ vs i).run P w=.ok () w'∧w'.heap[B]?=some (.cells C' el fr)∧C'.size=C.size ∧
   (∀j,C'[j]?=if n+i≤j∧j<n+i+vs.length then vs[j-(n+i)]? else C[j]?)∧(∀k,k≠B→w'.heap[k]?=w.heap[k]?)∧w'.heap.size=w.heap.size∧w'.os=w.os∧w'.tape=w.tape∧w'.output=w.output
 | [],i,w,C,h,_,_,_=>⟨w,C,rfl,h,rfl,fun j=>by rw[if_neg (by simp)],fun _ _=>rfl,rfl,rfl,rfl,rfl⟩
 | v::vs,i,w,C,h,hle,hfr,h1=>by
  simp only[List.length_cons]at hle hfr
  have hcell:w.cell? ⟨B,n+i,none⟩=some C[n+i]:=by rw[cell_at h,Array.getElem?_eq_getElem (by omega)]
  have hfz:w.frozen? ⟨B,n+i,none⟩=false:=by
   simp only[World.frozen?,h,Bool.and_eq_false_iff,decide_eq_false_iff_not]
   have:=hfr (n+i) (Nat.le_refl _) (by omega)
   omega
  have hs:(store ⟨B,n+i,none⟩ v).run P w=.ok () (w.setCell ⟨B,n+i,none⟩ v):=by
   rw[run_store P w _ _ _ (h1 v (by simp)),hcell,hfz];rfl
  have hB:(w.setCell ⟨B,n+i,none⟩ v).heap[B]?=some (.cells (C.setIfInBounds (n+i) v) el fr):=by
   simp [World.setCell,Array.getElem?_modify,h]
  have hO:∀k,k≠B→(w.setCell ⟨B,n+i,none⟩ v).heap[k]?=w.heap[k]?:=fun k hk=>by
   simp only[World.setCell,Array.getElem?_modify];rw[if_neg (Ne.symm hk)]
  obtain ⟨w',C',r1,r2,r3,r4,r5,r6,r7,r8,r9⟩:=run_storeCells (n:=n) vs (i+1) _ _ hB (by rw[Array.size_setIfInBounds];omega) (fun j h2 h3=>hfr j (by omega) (by omega)) (fun u hu=>h1 u (by simp [hu]))
  refine ⟨w',C',?_,r2,by rw[r3,Array.size_setIfInBounds],?_,fun k hk=>(r5 k hk).trans (hO k hk),by rw[r6];simp [World.setCell],r7,r8,r9⟩
  ·simp only[storeCells,Sem.run_bind,add_none,hs,Result.andThen_ok,r1]
  ·intro j
   rw[r4 j]
   by_cases e:j=n+i
   ·subst e
    rw[if_neg (by omega),if_pos (by simp),Array.getElem?_setIfInBounds,if_pos rfl,if_pos (by omega)]
    simp
   ·by_cases hin:n+(i+1)≤j∧j<n+(i+1)+vs.length
    ·rw[if_pos hin,if_pos (by simp;omega),show j-(n+i)=(j-(n+(i+1)))+1 by omega,List.getElem?_cons_succ]
    ·rw[if_neg hin,if_neg (by simp;omega),Array.getElem?_setIfInBounds,if_neg (Ne.symm e)]
def wcells (c:Array Value)(off:Nat):List Value→Array Value
 | []=>c
 | v::r=>wcells (c.setIfInBounds off v) (off+1) r
theorem wcells_size:∀(vs:List Value) (c:Array Value) (off:Nat),(wcells c off vs).size=c.size
 | [],_,_=>rfl
 | v::r,c,off=>by simp only[wcells];rw[wcells_size r,Array.size_setIfInBounds]
theorem wcells_get:∀(vs:List Value) (c:Array Value) (off j:Nat),off+vs.length≤c.size→(wcells c off vs)[j]?=if off≤j∧j<off+vs.length then vs[j-off]? else c[j]?
 | [],c,off,j,_=>by rw[if_neg (by simp)];rfl
 | v::r,c,off,j,h=>by
  simp only[List.length_cons]at h;simp only[wcells]
  rw[wcells_get r _ (off+1) j (by rw[Array.size_setIfInBounds];omega)]
  by_cases e:j=off
  ·subst e
   rw[if_neg (by omega),if_pos (by simp),Array.getElem?_setIfInBounds,if_pos rfl,if_pos (by omega)]
   simp
  ·by_cases hin:off+1≤j∧j<off+1+r.length
   ·rw[if_pos hin,if_pos (by simp;omega),show j-off=(j-(off+1))+1 by omega,List.getElem?_cons_succ]
   ·rw[if_neg hin,if_neg (by simp;omega),Array.getElem?_setIfInBounds,if_neg (Ne.symm e)]
theorem oneCell_vr {v v':Value}(h:VR φ v v') (h1:v.oneCell'=true):v'.oneCell'=true:=by
 cases h with
 | fz h=>cases h<;>first | rfl | (rename_i hg;cases hg)
 | _=>first | rfl | cases h1
theorem vrl_get {l l':List Value}(h:VRl φ l l'):∀i:Nat,OR (VR φ) l[i]? l'[i]?:=by
 induction h with
 | nil=>intro i;simp;exact .none
 | cons hv _ ih =>
  intro i
  cases i with
  | zero=>exact .some hv
  | succ i=>simpa using ih i
theorem vrl_len {l l':List Value}(h:VRl φ l l'):l.length=l'.length:=by
 induction h with
 | nil=>rfl
 | cons _ _ ih=>simp [ih]
theorem vrl_one {l l':List Value}(h:VRl φ l l') (h1:l.all (·.oneCell')=true):∀v∈l',v.oneCell'=true:=by
 induction h with
 | nil=>intro v hv;cases hv
 | cons hv _ ih =>
  simp only[List.all_cons,Bool.and_eq_true]at h1;intro v hm
  rcases List.mem_cons.1 hm with rfl | hm
  ·exact oneCell_vr hv h1.1
  ·exact ih h1.2 v hm
theorem write_sound (hI:Inv K w0 φ H w) {b off B base tot:Nat}{c:Array Value}(hb:H[b]?=some (.cells c false)) (hφ:φ b=some (B,base,tot)) {vs vs':List Value}(hv:VRl φ vs vs') (h1:vs.all (·.oneCell')=true)
  (hle:off+vs.length≤c.size):∃w',(storeCells ⟨B,base+off,none⟩ vs').run P w=.ok () w'∧Inv K w0 φ (H.set b (.cells (wcells c off vs) false)) w':=by
 obtain ⟨B',base',tot',q1,C,el,fr,q2,q3,q4⟩:=hI.obs b _ hb rfl;rw[hφ]at q1;cases q1;obtain ⟨q4,q5,q6⟩:=q4 rfl;have hlen:=vrl_len hv
 obtain ⟨w',C',r1,r2,r3,r4,r5,r6,r7,r8,r9⟩:=run_storeCells (P:=P) (n:=base+off) vs' 0 w C q2 (by omega) (fun j h2 h3=>by have:=q6.at (j-base) (by omega);rwa [show base+(j-base)=j by omega]at this) (vrl_one hv h1)
 refine ⟨w',r1,hI.write hb rfl hφ r5 r6 r7 r8 r9 ⟨C',el,fr,r2,?_,fun _=>⟨by rw[wcells_size];exact q4,by omega,q6⟩⟩⟩
 intro i v hiv;rw[wcells_get vs c off i hle]at hiv;rw[r4 (base+i)]
 split at hiv
 ·rename_i hin
  rw[if_pos (by omega),show base+i-(base+off+0)=i-off by omega]
  have:=vrl_get hv (i-off);rw[hiv]at this
  generalize vs'[i-off]?=y at this
  cases this with
  | some r=>exact ⟨_,rfl,r⟩
 ·rename_i hin
  rw[if_neg (by omega)]
  exact q3 i v hiv
def lStore (P:Program)(h:Hp)(t:TypeId)(x v:Value):Option Hp :=
 match x with
 | .pointer (some ⟨b,off,none⟩) =>
  match h.bl[b]?,sizeB P t with
  | some (.cells c false),some n =>
   if notT v=true∧v.cells.size=n∧off+n≤c.size∧v.cells.toList.all (·.oneCell')=true then some (h.put b (.cells (wcells c off v.cells.toList) false)) else none
  | _,_=>none
 | _=>none
theorem lStore_sound {h h':Hp}(hI:Inv K w0 φ h.bl w) {t:TypeId} {x x' v v':Value}(hl:lStore P h t x v=some h') (hx:VR φ x x') (hv:VR φ v v') :
  ∃w',(Instr.storeAt t x' v').run P w=.ok () w'∧Inv K w0 φ h'.bl w':=by
 unfold lStore at hl
 split at hl
 ·rename_i b off
  split at hl
  ·rename_i c n hc hn
   split at hl
   ·rename_i hcond
    obtain ⟨e0,e1,e2,e3⟩:=hcond;simp only[Option.some.injEq]at hl;subst hl
    cases hx with
    | @ptr _ _ B base tot hφ =>
     obtain ⟨w',r1,r2⟩:=write_sound (P:=P) (off:=off) hI hc hφ (hv.cells e0).toList e3 (by rw[Array.length_toList];omega)
     refine ⟨w',?_,r2⟩
     have hs:=(hv.cells e0).size;simp only[Instr.storeAt,Instr.sureAddr,storeVar,Sem.run_bind,Sem.run_pure,Result.andThen_ok,run_size hn]
     rw[if_neg (by omega)]
     exact r1
   ·cases hl
  ·cases hl
 ·cases hl
end
end Go.Gi
