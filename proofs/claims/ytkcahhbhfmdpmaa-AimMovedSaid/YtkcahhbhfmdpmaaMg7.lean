/- Part 7 of the texts below the claim. Conditions: none. -/
import Derived.Test.YtkcahhbhfmdpmaaMg6
import Derived.Deep.Slices
import Derived.WalkKit
import Derived.ProofKit
import Derived.OpenShut
import Derived.ChangeOld
import Derived.Below
import Derived.Deep.Strs
import Derived.ChangeMaps5
import Derived.Test.YtkcahhbhfmdpmaaProg
import Derived.Test.YtkcahhbhfmdpmaaRows
set_option linter.unusedVariables false
set_option linter.unusedSimpArgs false
namespace Go.Gi
open Go.RowKit
noncomputable section
structure Agree (σ:Nat→Nat→Prop) (φ ψ:Phi):Prop where
 fn:∀(i j:Nat) (x:Nat×Nat×Nat),σ i j→φ.f i=some x→ψ.f j=some x
 zz:∀B o,φ.z B=some o→ψ.z B=some o
instance {σ:Nat→Nat→Prop} {φ ψ:Phi}:CoeFun (Agree σ φ ψ) (fun _=>∀(i j:Nat) (x:Nat×Nat×Nat),σ i j→φ.f i=some x→ψ.f j=some x):=⟨Agree.fn⟩
def TR (σ:Nat→Nat→Prop) (v v':Value):Prop:=∀φ ψ,Agree σ φ ψ→∀x,VR φ v x→VR ψ v' x
def TRs (σ:Nat→Nat→Prop) (l l':List Value):Prop:=∀φ ψ,Agree σ φ ψ→∀x,VRs φ l.toArray x→VRs ψ l'.toArray x
def ObTR (σ:Nat→Nat→Prop) (o o':Ob):Prop:=∀φ ψ,Agree σ φ ψ→∀w B bs tot,ObR φ w o B bs tot→ObR ψ w o' B bs tot
def inS (ρ:Nat→Nat)(H0:List Ob)(j i:Nat):Prop:=i<H0.length∧ρ i=j
def outS (ρ:Nat→Nat) (κ:Nat→Option Nat)(H0 Hb Hb1:List Ob)(i j:Nat):Prop :=
 (i<H0.length∧ρ i=j)∨(κ j=some i∧Hb.length≤j∧j<Hb1.length)
structure Carry (ρ:Nat→Nat) (κ:Nat→Option Nat) (H0 H1 Hb Hb1:List Ob):Prop where
 inn:∀(i:Nat) (ob:Ob),H0[i]?=some ob→ob.live=true→∃ob',Hb[ρ i]?=some ob'∧ob'.live=true∧(ob.rw=true→ob'.rw=true)∧ObTR (inS ρ H0) ob' ob
 inj:∀(i i':Nat),i<H0.length→i' < H0.length→ρ i=ρ i'→i=i'
 low:∀i,i<H0.length→ρ i<Hb.length
 len:Hb.length≤Hb1.length
 kin:∀j i,κ j=some i→Hb.length≤j→H0.length≤i
 kinj:∀j j' i,Hb.length≤j→Hb.length≤j'→κ j=some i→κ j'=some i→j=j'
 out:∀(j:Nat) (ob':Ob),Hb1[j]?=some ob'→ob'.live=true →
  (Hb[j]?=some ob'∧∀(i:Nat) (ob0:Ob),H0[i]?=some ob0→ob0.rw=true→ρ i≠j) ∨
  (∃(i:Nat) (ob:Ob),H1[i]?=some ob∧ob.live=true∧(ob'.rw=true→ob.rw=true)∧(ob.rw=true∨∃ob0:Ob,H0[i]?=some ob0∧ob0.live=true)∧ObTR (outS ρ κ H0 Hb Hb1) ob ob'∧outS ρ κ H0 Hb Hb1 i j)
def pullP (φ:Phi) (ρ:Nat→Nat)(n:Nat):Phi:=⟨fun i=>if i<n then φ (ρ i) else none,φ.z⟩
open Classical in
def backP (ρ:Nat→Nat)(n j:Nat):Option Nat:=if h:∃i,i<n∧ρ i=j then some (Classical.choose h) else none
def pushP (φ φ1:Phi) (ρ:Nat→Nat) (κ:Nat→Option Nat)(n N N1:Nat):Phi:=⟨fun j=>if j<N then (match φ j with | some x=>some x | none=>(backP ρ n j).bind φ1.f) else if j<N1 then (κ j).bind φ1.f else none,φ1.z⟩
section
variable {P:Program}{K:Nat→Prop} {w0 w w':World} {φ φ1:Phi}{H0 H1 Hb Hb1:List Ob} {ρ:Nat→Nat} {κ:Nat→Option Nat}
theorem lt_of_get {α:Type}{l:List α}{i:Nat}{a:α}(h:l[i]?=some a):i<l.length:=(List.getElem?_eq_some_iff.1 h).1
theorem pull_at {i:Nat}(h:i<H0.length):pullP φ ρ H0.length i=φ (ρ i):=if_pos h
theorem agree_in:Agree (inS ρ H0) φ (pullP φ ρ H0.length):=by
 refine ⟨?_,fun _ _ h=>h⟩
 rintro j i x ⟨h1,h2⟩ h3
 rw[pull_at h1,h2];exact h3
theorem Inv.pull (hI:Inv K w0 φ Hb w)(hc:Carry ρ κ H0 H1 Hb Hb1) :
  Inv (fun k=>k<w.heap.size∧¬RwAt (pullP φ ρ H0.length) H0 k∧φ.z k=none) w (pullP φ ρ H0.length) H0 w:=by
 refine ⟨?_,?_,?_,fun _ _=>rfl,fun _ h=>h.1,Nat.le_refl _,rfl,rfl,rfl,fun b hb=>by unfold pullP;simp only;rw[if_neg (by omega)],hI.frz,?_,fun k hk=>hk.2.2⟩
 ·intro i ob hi hl
  obtain ⟨ob',h1,h2,_,h4⟩:=hc.inn i ob hi hl;obtain ⟨B,base,tot,h5,h6⟩:=hI.obs _ ob' h1 h2;exact ⟨B,base,tot,(pull_at (lt_of_get hi)).trans h5,h4 φ _ agree_in _ _ _ _ h6⟩
 ·intro b b' ob ob' x y hne hb hb' hrw hl hx hy
  rw[pull_at (lt_of_get hb)]at hx;rw[pull_at (lt_of_get hb')]at hy;obtain ⟨o1,h1,h2,h3,_⟩:=hc.inn b ob hb (Ob.live_of_rw hrw);obtain ⟨o2,h4,h5,_,_⟩:=hc.inn b' ob' hb' hl
  exact hI.sep (ρ b) (ρ b') o1 o2 x y (fun he=>hne (hc.inj b b' (lt_of_get hb) (lt_of_get hb') he)) h1 h4 (h3 hrw) h5 hx hy
 ·intro b ob x hb hrw hx hk
  exact hk.2.1 ⟨b,ob,x,hb,hrw,hx,rfl⟩
 ·intro b ob x hb hrw hx
  rw[pull_at (lt_of_get hb)]at hx;obtain ⟨o1,h1,h2,h3,_⟩:=hc.inn b ob hb (Ob.live_of_rw hrw);exact hI.zsep (ρ b) o1 x h1 (h3 hrw) hx
theorem Inv.push (hI:Inv K w0 φ Hb w)(hc:Carry ρ κ H0 H1 Hb Hb1) (hF:Inv (fun k=>k<w.heap.size∧¬RwAt (pullP φ ρ H0.length) H0 k∧φ.z k=none) w φ1 H1 w') (hle:le (pullP φ ρ H0.length) φ1) :
  ∃φ2,le φ φ2∧Agree (outS ρ κ H0 Hb Hb1) φ1 φ2∧Inv K w0 φ2 Hb1 w':=by
 have hdom:∀{j:Nat} {x:Nat×Nat×Nat},φ j=some x→j<Hb.length:=fun {j} {x} hx=>by
  rcases Nat.lt_or_ge j Hb.length with h | h
  ·exact h
  ·rw[hI.top j h]at hx;cases hx
 have hleφ:le φ (pushP φ φ1 ρ κ H0.length Hb.length Hb1.length):=⟨fun j x hx=>by
  show (if j<Hb.length then (match φ j with | some x=>some x | none=>(backP ρ H0.length j).bind φ1.f) else if j<Hb1.length then (κ j).bind φ1.f else none)=some x
  rw[if_pos (hdom hx),hx],hle.zz⟩
 have hlt:∀{j:Nat} {ob':Ob},Hb[j]?=some ob'→ob'.live=true→pushP φ φ1 ρ κ H0.length Hb.length Hb1.length j=φ j:=by
  intro j ob' h1 h2;obtain ⟨B,base,tot,h3,_⟩:=hI.obs j ob' h1 h2;rw[h3];exact hleφ _ _ h3
 have htop1:∀{i:Nat} {x:Nat×Nat×Nat},φ1 i=some x→i<H1.length:=fun {i} {x} hx=>by
  rcases Nat.lt_or_ge i H1.length with h | h
  ·exact h
  ·rw[hF.top i h]at hx;cases hx
 have hold:∀{i:Nat} {ob0:Ob},H0[i]?=some ob0→ob0.live=true→∃x,φ (ρ i)=some x∧φ1 i=some x:=by
  intro i ob0 h1 h2;obtain ⟨ob',h3,h4,_,_⟩:=hc.inn i ob0 h1 h2;obtain ⟨B,base,tot,h5,_⟩:=hI.obs _ ob' h3 h4;exact ⟨_,h5,hle i _ ((pull_at (lt_of_get h1)).trans h5)⟩
 have hnew:∀{j:Nat},Hb.length≤j→j<Hb1.length→pushP φ φ1 ρ κ H0.length Hb.length Hb1.length j=(κ j).bind φ1.f:=fun {j} h1 h2=>by
  show (if j<Hb.length then (match φ j with | some x=>some x | none=>(backP ρ H0.length j).bind φ1.f) else if j<Hb1.length then (κ j).bind φ1.f else none)=_
  rw[if_neg (by omega),if_pos h2]
 have hkeep:∀{j:Nat} {ob':Ob} {x:Nat×Nat×Nat},Hb[j]?=some ob'→ob'.live=true→φ j=some x→x.1<w.heap.size→(∀(i:Nat) (ob0:Ob),H0[i]?=some ob0→ob0.rw=true→ρ i≠j)→x.1<w.heap.size∧¬RwAt (pullP φ ρ H0.length) H0 x.1:=by
  intro j ob' x h1 h2 h3 h4 h5
  refine ⟨h4,?_⟩
  rintro ⟨b0,ob0,y,h6,h7,h8,h9⟩
  rw[pull_at (lt_of_get h6)]at h8;obtain ⟨o1,h10,_,h11,_⟩:=hc.inn b0 ob0 h6 (Ob.live_of_rw h7);exact hI.sep (ρ b0) j o1 ob' y x (h5 b0 ob0 h6 h7) h10 h1 (h11 h7) h2 h8 h3 h9
 have hsz:∀{j:Nat} {ob':Ob} {x:Nat×Nat×Nat},Hb[j]?=some ob'→ob'.live=true→φ j=some x→x.1<w.heap.size:=by
  intro j ob' x h1 h2 h3;obtain ⟨B,base,tot,h4,h5⟩:=hI.obs j ob' h1 h2;rw[h3]at h4;simp only[Option.some.injEq]at h4;subst h4;exact h5.lt h2
 have hsame:∀{k:Nat},k<w.heap.size∧¬RwAt (pullP φ ρ H0.length) H0 k→w'.heap[k]?=w.heap[k]?:=by
  intro k hk
  cases hz:φ.z k with
  | none=>exact hF.keep k ⟨hk.1,hk.2,hz⟩
  | some o=>rw[hI.frz k o hz,hF.frz k o (hle.zz k o hz)]
 have hagree:Agree (outS ρ κ H0 Hb Hb1) φ1 (pushP φ φ1 ρ κ H0.length Hb.length Hb1.length):=by
  refine ⟨?_,fun _ _ h=>h⟩
  rintro i j x (⟨h1,rfl⟩ | ⟨h1,h2,hj⟩) hx
  ·cases hφ:φ (ρ i) with
   | some y =>
    have h4:=hle i y ((pull_at h1).trans hφ);rw[hx]at h4;rw[h4];exact hleφ _ _ hφ
   | none =>
    show (if ρ i<Hb.length then (match φ (ρ i) with | some x=>some x | none=>(backP ρ H0.length (ρ i)).bind φ1.f) else if ρ i<Hb1.length then (κ (ρ i)).bind φ1.f else none)=some x
    rw[if_pos (hc.low i h1),hφ];have hex:∃i',i' < H0.length∧ρ i'=ρ i:=⟨i,h1,rfl⟩
    have hb:backP ρ H0.length (ρ i)=some i:=by
     unfold backP;rw[dif_pos hex];have:=Classical.choose_spec hex;rw[hc.inj _ _ this.1 h1 this.2]
    show (backP ρ H0.length (ρ i)).bind φ1.f=some x
    rw[hb];exact hx
  ·rw[hnew h2 hj,h1]
   exact hx
 have hlen:=hc.len
 have hB:∀{i j:Nat} {ob:Ob} {x:Nat×Nat×Nat},outS ρ κ H0 Hb Hb1 i j→H1[i]?=some ob→ob.live=true→pushP φ φ1 ρ κ H0.length Hb.length Hb1.length j=some x→φ1 i=some x:=by
  intro i j ob x hs h1 h2 hx;obtain ⟨B,base,tot,h3,_⟩:=hF.obs i ob h1 h2;have:=hagree i j _ hs h3;rw[hx]at this;rw[h3,this]
 have hfun:∀{i j j':Nat},outS ρ κ H0 Hb Hb1 i j→outS ρ κ H0 Hb Hb1 i j'→j=j':=by
  rintro i j j' (⟨h1,rfl⟩ | ⟨h1,h2,h3⟩) (⟨h1',rfl⟩ | ⟨h1',h2',h3'⟩)
  ·rfl
  ·have:=hc.kin _ _ h1' h2'
   omega
  ·have:=hc.kin _ _ h1 h2
   omega
  ·exact hc.kinj _ _ _ h2 h2' h1 h1'
 have hKK:∀{k:Nat},K k→k<w.heap.size∧¬RwAt (pullP φ ρ H0.length) H0 k∧φ.z k=none:=by
  intro k hk
  refine ⟨Nat.lt_of_lt_of_le (hI.klt _ hk) hI.size,?_,hI.zk k hk⟩
  rintro ⟨b0,ob0,y,k1,k2,k3,k4⟩
  rw[pull_at (lt_of_get k1)]at k3;obtain ⟨o1,k5,_,k6,_⟩:=hc.inn b0 ob0 k1 (Ob.live_of_rw k2);exact hI.prot (ρ b0) o1 y k5 (k6 k2) k3 (k4 ▸ hk)
 refine ⟨pushP φ φ1 ρ κ H0.length Hb.length Hb1.length,hleφ,hagree,?_,?_,?_,?_,hI.klt,Nat.le_trans hI.size hF.size,hF.os.trans hI.os,hF.tape.trans hI.tape,hF.output.trans hI.output,?_,hF.frz,?_,?_⟩
 ·intro j ob' h1 h2
  rcases hc.out j ob' h1 h2 with ⟨h3,h4⟩ | ⟨i,ob,h3,h4,h5,h6,h7,h8⟩
  ·obtain ⟨B,base,tot,h5,h6⟩:=hI.obs j ob' h3 h2
   exact ⟨B,base,tot,hleφ _ _ h5,h6.keep hleφ (hsame (hkeep h3 h2 h5 (h6.lt h2) h4))⟩
  ·obtain ⟨B,base,tot,h9,h10⟩:=hF.obs i ob h3 h4
   exact ⟨B,base,tot,hagree i j _ h8 h9,h7 _ _ hagree _ _ _ _ h10⟩
 ·intro j j' ob ob' x y hne hj hj' hrw hl hx hy
  rcases hc.out j ob hj (Ob.live_of_rw hrw) with ⟨h3,h4⟩ | ⟨i,o,h3,h4,h5,h6,h7,h8⟩
  ·have hx':φ j=some x:=by rw[← hlt h3 (Ob.live_of_rw hrw)];exact hx
   rcases hc.out j' ob' hj' hl with ⟨h3',h4'⟩ | ⟨i',o',h3',h4',h5',h6',h7',h8'⟩
   ·have hy':φ j'=some y:=by rw[← hlt h3' hl];exact hy
    exact hI.sep j j' ob ob' x y hne h3 h3' hrw hl hx' hy'
   ·have hy':=hB h8' h3' h4' hy
    rcases h6' with hrw' | ⟨ob0,k0,kl⟩
    ·intro he
     exact hF.prot i' o' y h3' hrw' hy' (he ▸ (let q:=hkeep h3 (Ob.live_of_rw hrw) hx' (hsz h3 (Ob.live_of_rw hrw) hx') h4;⟨q.1,q.2,hI.zsep j ob x h3 hrw hx'⟩))
    ·have k3:ρ i'=j':=by
      rcases h8' with ⟨k1,k3⟩ | ⟨k1,k2,_⟩
      ·exact k3
      ·have:=hc.kin _ _ k1 k2
       have:=lt_of_get k0
       omega
     obtain ⟨o1,k4,k5,_,_⟩:=hc.inn i' ob0 k0 kl;obtain ⟨y',k6,k7⟩:=hold k0 kl;rw[hy']at k7;simp only[Option.some.injEq]at k7;subst k7
     exact hI.sep j (ρ i') ob o1 x y (by rw[k3];exact hne) h3 k4 hrw k5 hx' k6
  ·have hx':=hB h8 h3 h4 hx
   rcases hc.out j' ob' hj' hl with ⟨h3',h4'⟩ | ⟨i',o',h3',h4',h5',h6',h7',h8'⟩
   ·have hy':φ j'=some y:=by rw[← hlt h3' hl];exact hy
    intro he;have q:=hkeep h3' hl hy' (hsz h3' hl hy') h4'
    cases hz:φ.z y.1 with
    | none=>exact hF.prot i o x h3 (h5 hrw) hx' (he.symm ▸ ⟨q.1,q.2,hz⟩)
    | some o' =>
     have q1:=hF.zsep i o x h3 (h5 hrw) hx';rw[he,hle.zz _ _ hz]at q1
     cases q1
   ·have hy':=hB h8' h3' h4' hy
    exact hF.sep i i' o o' x y (fun he=>hne (hfun (he ▸ h8) h8')) h3 h3' (h5 hrw) h4' hx' hy'
 ·intro j ob x hj hrw hx hk
  rcases hc.out j ob hj (Ob.live_of_rw hrw) with ⟨h3,h4⟩ | ⟨i,o,h3,h4,h5,h6,h7,h8⟩
  ·have hx':φ j=some x:=by rw[← hlt h3 (Ob.live_of_rw hrw)];exact hx
   exact hI.prot j ob x h3 hrw hx' hk
  ·have hx':=hB h8 h3 h4 hx
   exact hF.prot i o x h3 (h5 hrw) hx' (hKK hk)
 ·intro k hk
  rw[hF.keep k (hKK hk)];exact hI.keep k hk
 ·intro j hj
  show (if j<Hb.length then (match φ j with | some x=>some x | none=>(backP ρ H0.length j).bind φ1.f) else if j<Hb1.length then (κ j).bind φ1.f else none)=none
  rw[if_neg (by omega),if_neg (by omega)]
 ·intro j ob x hj hrw hx
  rcases hc.out j ob hj (Ob.live_of_rw hrw) with ⟨h3,h4⟩ | ⟨i,o,h3,h4,h5,h6,h7,h8⟩
  ·have hx':φ j=some x:=by rw[← hlt h3 (Ob.live_of_rw hrw)];exact hx
   have q:=hkeep h3 (Ob.live_of_rw hrw) hx' (hsz h3 (Ob.live_of_rw hrw) hx') h4;exact hF.zk x.1 ⟨q.1,q.2,hI.zsep j ob x h3 hrw hx'⟩
  ·exact hF.zsep i o x h3 (h5 hrw) (hB h8 h3 h4 hx)
 ·exact fun k hk=>hF.zk k (hKK hk)
theorem Fact.carryCode {c:Code}{t t0 L T:List Value}{base base1 bb:Nat}{wr wr1 wb wb1:List Nat}{e:Ex}
  (hf:Fact P (.code none c ⟨t0,[],⟨H0,base,wr⟩⟩) (.ex e ⟨L,[],⟨H1,base1,wr1⟩⟩)) (hb:base≤H0.length) (hc:Carry ρ κ H0 H1 Hb Hb1)
  (ht:TRs (inS ρ H0) t t0) (hT:TRs (outS ρ κ H0 Hb Hb1) L T) (he:noPanic e=true) (hp:bb≤Hb.length→Pres ⟨Hb,bb,wb⟩ ⟨Hb1,bb,wb1⟩) :
  Fact P (.code none c ⟨t,[],⟨Hb,bb,wb⟩⟩) (.ex e ⟨T,[],⟨Hb1,bb,wb1⟩⟩):=by
 obtain ⟨_,hh⟩:=hf.1 hb
 have key:∀{K:Nat→Prop} {w0 w:World} {φ:Phi} {x:Exit} {a':Act} {w':World},Inv K w0 φ Hb w→CodeR (fun k=>k<w.heap.size∧¬RwAt (pullP φ ρ H0.length) H0 k∧φ.z k=none) w (pullP φ ρ H0.length) e ⟨L,[],⟨H1,base1,wr1⟩⟩ x a' w' →
   CodeR K w0 φ e ⟨T,[],⟨Hb1,bb,wb1⟩⟩ x a' w':=by
  rintro K w0 w φ x a' w' hI ⟨φ1,hle,hx,ht',hd',hI'⟩
  obtain ⟨φ2,h1,h2,h3⟩:=hI.push hc hI' hle
  refine ⟨φ2,h1,hx.any he,hT _ _ h2 _ ht',?_,h3⟩
  have hd0:a'.defers=[]:=by
   have:DRs φ1 [] a'.defers:=hd'
   generalize a'.defers=l at this
   cases this;rfl
  rw[hd0];exact .nil
 have dnil:∀{φ ψ:Phi} {l:List Deferred},DRs φ [] l→DRs ψ [] l:=fun h=>by cases h;exact .nil
 refine ⟨fun hbl=>⟨hp hbl,?_⟩,?_⟩
 ·intro K w0 φ w a F n hI hta hd hF
  exact wpIn_mono (hh _ w (pullP φ ρ H0.length) w a F n (hI.pull hc) (ht _ _ agree_in _ hta) (dnil hd) hF) fun x a' w' h=>key hI h
 ·cases c with
  | loop c =>
   intro _ K w0 φ w a F n hI hta hd hF;have hl:=hf.2 hb
   exact wpLoopIn_mono (hl _ w (pullP φ ρ H0.length) w a F n (hI.pull hc) (ht _ _ agree_in _ hta) (dnil hd) hF) fun x a' w' h=>key hI h
  | _=>trivial
end
end
end Go.Gi
namespace Go.Gi
open Go.RowKit
noncomputable section
section
variable {σ:Nat→Nat→Prop}
theorem TR.ground {v:Value}(h:gr v=true):TR σ v v:=fun φ ψ _ x hx=>by rw[gr_eq h hx];exact gr_refl h
theorem cut_agree {φ ψ:Phi}{n:Nat}(ha:Agree σ φ ψ) (hid:∀i,i<n→σ i i):le (cut φ n) ψ:=by
 refine ⟨?_,fun B o h=>ha.zz B o h⟩
 intro b x hx
 rcases Nat.lt_or_ge b n with h | h
 ·rw[cut_lt h]at hx;exact ha b b x (hid b h) hx
 ·rw[cut_ge h]at hx;cases hx
theorem TR.sc {n:Nat}{v:Value}(hid:∀i,i<n→σ i i) (h:scT n v=true):TR σ v v:=fun φ ψ ha x hx=>(scT_cut h hx).mono (cut_agree ha hid)
theorem ObTR.sc {n:Nat}{o:Ob}(hid:∀i,i<n→σ i i) (h:obSc n o=true):ObTR σ o o:=fun φ ψ ha w B bs tot hx=>(obSc_cut h hx).keep (cut_agree ha hid) rfl
theorem TR.slice {b b' off l z:Nat}(h:σ b b'):TR σ (.slice (some ⟨b,off,none⟩) l z) (.slice (some ⟨b',off,none⟩) l z):=by
 intro φ ψ ha x hx
 cases hx with
 | sliceZ hp a'=>exact .sliceZ (a:=⟨b',off,none⟩) (ha _ _ _ h hp) a' _
 | slice hp hl hc=>exact .slice (ha _ _ _ h hp) hl hc
theorem TR.lo {v:Value}:TR σ v (lo v):=fun φ ψ _ x hx=>cl_vr hx
theorem TRs.of {l l':List Value}(hlen:l.length=l'.length) (h:∀(i:Nat) (v v':Value),l[i]?=some v→l'[i]?=some v'→TR σ v v'):TRs σ l l':=by
 intro φ ψ ha x hx i;have:=hx i
 rw[List.getElem?_toArray]at this ⊢
 rcases Nat.lt_or_ge i l.length with hi | hi
 ·have h1:l[i]?=some l[i]:=List.getElem?_eq_getElem hi
  have h2:l'[i]?=some (l'[i]'(by omega)):=List.getElem?_eq_getElem (by omega)
  rw[h1]at this;rw[h2]
  generalize x[i]?=y at this
  cases this with
  | some hv=>exact .some (h i _ _ h1 h2 _ _ ha _ hv)
 ·rw[List.getElem?_eq_none hi]at this
  rw[List.getElem?_eq_none (by omega)]
  generalize x[i]?=y at this
  cases this
  exact .none
theorem TRs.nil:TRs σ [] []:=.of rfl (fun i v v' h=>by simp at h)
theorem TRs.cons {v v':Value} {l l':List Value}(h:TR σ v v') (hl:TRs σ l l'):TRs σ (v::l) (v'::l'):=by
 intro φ ψ ha x hx;have hsz:=hx.size;obtain ⟨xs⟩:=x
 cases xs with
 | nil=>simp at hsz
 | cons y ys =>
  have h0:=hx 0
  simp only[List.getElem?_toArray,List.getElem?_cons_zero]at h0
  have hr:VRs φ l.toArray ys.toArray:=fun i=>by
   have:=hx (i+1)
   simpa only [List.getElem?_toArray,List.getElem?_cons_succ] using this
  have h2:=hl φ ψ ha _ hr
  cases h0 with
  | some h0 =>
   intro i
   cases i with
   | zero=>simp only[List.getElem?_toArray,List.getElem?_cons_zero];exact .some (h _ _ ha _ h0)
   | succ i =>
    have:=h2 i
    simpa only [List.getElem?_toArray,List.getElem?_cons_succ] using this
theorem TRs.slots {n:Nat}{l l0:List Value}(hid:∀i,i<n→σ i i) (h:SlotRs n l l0):TRs σ l l0:=fun φ ψ ha x hx i=>((h.vrs hx) i).mono fun _ _ hv=>hv.mono (cut_agree ha hid)
theorem ObTR.same {o:Ob}(h:∀n,obSc n o=true):ObTR σ o o:=ObTR.sc (n:=0) (fun i hi=>absurd hi (Nat.not_lt_zero _)) (h 0)
end
structure Grow (r:Nat→Nat) (κ:Nat→Option Nat) (Pre T X G G1:List Ob):Prop where
 sc:Pre.all (obSc Pre.length)=true
 pre:∀(i:Nat) (ob:Ob),T[i]?=some ob→G[r i]?=some ob∧∀n,obSc n ob=true
 inj:∀i i',i<T.length→i' < T.length→r i=r i'→i=i'
 len:G.length≤G1.length
 kin:∀j i,κ j=some i→G.length≤j→T.length≤i
 kinj:∀j j' i,G.length≤j→G.length≤j'→κ j=some i→κ j'=some i→j=j'
 out:∀(j:Nat) (ob:Ob),G1[j]?=some ob→ob.live=true →
  (G[j]?=some ob∧∀i,i<T.length→r i≠j) ∨
  (∃i,X[i]?=some ob∧ob.rw=true∧(∀n,obSc n ob=true)∧((i<T.length∧r i=j)∨(κ j=some i∧G.length≤j∧j<G1.length)))
section
variable {r:Nat→Nat} {κ:Nat→Option Nat}{Pre T X G G1:List Ob}
theorem get_app {A B:List Ob}{j:Nat}{ob:Ob}(h:(A++B)[j]?=some ob):(j<A.length∧A[j]?=some ob)∨(A.length≤j∧B[j-A.length]?=some ob):=by
 rcases Nat.lt_or_ge j A.length with h1 | h1
 ·rw[List.getElem?_append_left h1]at h;exact .inl ⟨h1,h⟩
 ·rw[List.getElem?_append_right h1]at h;exact .inr ⟨h1,h⟩
theorem Grow.same {p:Nat}{A:Ob}(hsc:Pre.all (obSc Pre.length)=true) (hp:G[p]?=some A) (hA:∀n,obSc n A=true) (hw:A.rw=true):Grow (fun _=>p) (fun _=>none) Pre [A] (A::X) G G:=by
 refine ⟨hsc,?_,?_,Nat.le_refl _,by simp,by simp,?_⟩
 ·intro i ob hi
  rcases i with _ | i
  ·simp only[List.getElem?_cons_zero,Option.some.injEq]at hi
   subst hi;exact ⟨hp,hA⟩
  ·simp at hi
 ·intro i i' h1 h2 _
  simp only[List.length_cons,List.length_nil]at h1 h2
  omega
 ·intro j ob hj hl
  by_cases hjp:j=p
  ·subst hjp
   rw[hp]at hj;simp only[Option.some.injEq]at hj;subst hj
   exact .inr ⟨0,rfl,hw,hA,.inl ⟨by simp,rfl⟩⟩
  ·exact .inl ⟨hj,fun i _ he=>hjp he.symm⟩
theorem Grow.first {q:Nat}{B:Ob}(hsc:Pre.all (obSc Pre.length)=true) (hq:X[q]?=some B) (hB:∀n,obSc n B=true) (hw:B.rw=true):Grow (fun _=>0) (fun j=>if j=G.length then some q else none) Pre [] X G (G++[B]):=by
 refine ⟨hsc,by simp,by simp,by simp,by simp,?_,?_⟩
 ·intro j j' i _ _ h1 h2
  split at h1
  ·split at h2
   ·omega
   ·cases h2
  ·cases h1
 ·intro j ob hj hl
  rcases get_app hj with ⟨h1,h2⟩ | ⟨h1,h2⟩
  ·exact .inl ⟨h2,by simp⟩
  ·cases hh:j-G.length with
   | zero =>
    rw[hh]at h2
    simp only[List.getElem?_cons_zero,Option.some.injEq]at h2
    subst h2
    have:j=G.length:=by omega
    exact .inr ⟨q,hq,hw,hB,.inr ⟨by rw[if_pos this],by omega,by simp;omega⟩⟩
   | succ k=>rw[hh]at h2;simp at h2
end
inductive PTs (σ:Nat→Nat→Prop):List Value→List Value→Prop
 | nil:PTs σ [] []
 | cons {v v':Value} {l l':List Value} (h:TR σ v v') (r:PTs σ l l'):PTs σ (v::l) (v'::l')
section
variable {σ:Nat→Nat→Prop}
theorem PTs.trs {l l':List Value}(h:PTs σ l l'):TRs σ l l':=by
 induction h with
 | nil=>exact TRs.nil
 | cons h _ ih=>exact TRs.cons h ih
theorem PTs.lo:∀L:List Value,PTs σ L (L.map Go.Gi.lo)
 | []=>.nil
 | _::L=>.cons TR.lo (PTs.lo L)
theorem PTs.set {v v':Value}(hv:TR σ v v'):∀{L T:List Value},PTs σ L T→∀k,L[k]?=some v→PTs σ L (lset T k v')
 | _,_,.nil,k,h=>by simp at h
 | _,_,.cons h r,0,hk=>by
  simp only[List.getElem?_cons_zero,Option.some.injEq]at hk
  subst hk;exact .cons hv r
 | _,_,.cons h r,k+1,hk=>by
  simp only[List.getElem?_cons_succ]at hk
  exact .cons h (PTs.set hv r k hk)
theorem PTs.sets {L:List Value}{known:List (Nat×Value)}:∀{T:List Value},PTs σ L T→(∀kv∈known,∃v,L[kv.1]?=some v∧TR σ v kv.2)→PTs σ L (Go.Gi.sets T known):=by
 induction known with
 | nil=>intro T h _;exact h
 | cons kv r ih =>
  intro T h hk;obtain ⟨v,h1,h2⟩:=hk kv (List.mem_cons_self ..)
  exact ih (h.set h2 kv.1 h1) fun kv hm=>hk kv (List.mem_cons_of_mem _ hm)
theorem PTs.known {m:Nat}{L:List Value}{known:List (Nat×Value)}(hl:L.length=m) (hk:∀kv∈known,∃v,L[kv.1]?=some v∧TR σ v kv.2):PTs σ L (Go.Gi.sets (junkF m (L.map Go.Gi.lo)) known):=by
 rw[junkF_eq (by simpa using hl)]
 exact (PTs.lo L).sets hk
end
section
variable {P:Program}(hN:NoNG P) (hm:P.follows .mixedOrders=true)
include hN hm
end
def apB (a b:Array Value):Array Value:=a++b
def frzG (m z:Nat)(bl:List Ob):List Value→(List Value→Option Out)→Option Out
 | [],k=>k []
 | v::r,k=>match v with
  | .slice none 0 0=>frzG m z bl r fun r=>k (lstV ⟨[]⟩ 0 0 z::r)
  | v=>if notU v&&scT m v then frzG m z bl r fun r=>k (v::r) else frzA m z bl v fun u=>if notU u&&scT m u then frzG m z bl r fun r=>k (u::r) else none
section
variable {K:Nat→Prop}{w0 w:World} {φ:Phi}{X:List Ob}
theorem frzG_ok {ψ:Phi}{m y:Nat}(h:Made m ψ.z φ X w) (hc:le (cut φ m) ψ) {r:Out}:∀{l l':List Value}{k:List Value→Option Out},frzG m y X l k=some r→VRl φ l l'→∃u,VRl ψ u l'∧k u=some r
 | [],_,k,hk,hv=>by cases hv;exact ⟨[],.nil,hk⟩
 | v::l,_,k,hk,hv=>by
  cases hv with
  | cons hv hr =>
   unfold frzG at hk
   split at hk
   ·cases hv
    obtain ⟨us,h3,h4⟩:=frzG_ok h hc hk hr;exact ⟨_,.cons (FR.vr (.lstZ _ _ _ _)) h3,h4⟩
   ·split at hk
    ·rename_i hs
     rw[Bool.and_eq_true]at hs;obtain ⟨us,h3,h4⟩:=frzG_ok h hc hk hr;exact ⟨_,.cons ((scT_cut hs.2 hv).mono hc) h3,h4⟩
    ·obtain ⟨u,h1,h2⟩:=frzA_ok h hk hv
     split at h2
     ·obtain ⟨us,h3,h4⟩:=frzG_ok h hc h2 hr
      exact ⟨u::us,.cons h1 h3,h4⟩
     ·cases h2
theorem frzG_all {m y:Nat}{r:Out}:∀{l:List Value}{k:List Value→Option Out},frzG m y X l k=some r→∃u,k u=some r∧u.length=l.length∧u.all (fun v=>notU v&&scT m v)=true
 | [],k,hk=>⟨[],hk,rfl,rfl⟩
 | v::l,k,hk=>by
  unfold frzG at hk
  split at hk
  ·obtain ⟨u,h1,h2,h3⟩:=frzG_all hk
   exact ⟨_,h1,by simp [h2],by rw[List.all_cons,h3];rfl⟩
  ·split at hk
   ·rename_i hs
    obtain ⟨u,h1,h2,h3⟩:=frzG_all hk
    exact ⟨_,h1,by simp [h2],by rw[List.all_cons,h3,hs];rfl⟩
   ·have:∀{v:Value} {k:Value→Option Out},frzA m y X v k=some r→∃u,k u=some r:=by
     intro v k h
     have l1:∀{y:Nat} {v:Value} {k:Value→Option Out},frz1 m y X v k=some r→∃u,k u=some r:=by
      intro y v k h;unfold frz1 at h
      split at h
      ·split at h
       ·exact ⟨_,(cond_some h).2⟩
       ·cases h
      ·split at h
       ·exact ⟨_,(cond_some h).2⟩
       ·cases h
      ·exact ⟨_,h⟩
      ·split at h
       ·exact ⟨_,h⟩
       ·cases h
     have l2:∀{l:List Value} {y:Nat} {k:List Value→Option Out},frzL m y X l k=some r→∃u,k u=some r:=by
      intro l
      induction l with
      | nil=>intro y k h;exact ⟨_,h⟩
      | cons v l ih =>
       intro y k h;obtain ⟨u,h⟩:=l1 h;obtain ⟨u',h⟩:=ih h;exact ⟨_,h⟩
     unfold frzA at h
     split at h
     ·obtain ⟨u,h⟩:=l2 h;exact ⟨_,h⟩
     ·split at h
      ·exact ⟨_,h⟩
      ·cases h
     ·obtain ⟨u,h⟩:=l2 h
      obtain ⟨u,h⟩:=l2 h;exact ⟨_,h⟩
     ·exact l1 h
    obtain ⟨u,h2⟩:=this hk
    split at h2
    ·rename_i hs
     obtain ⟨us,h3,h4,h5⟩:=frzG_all h2
     exact ⟨_,h3,by simp [h4],by rw[List.all_cons,h5,hs];rfl⟩
    ·cases h2
theorem Inv.pack (hF:Inv K w0 φ X w) {H1:List Ob}{k b:Nat}{a:Array Value}(hH:∀(b:Nat) (ob:Ob),H1[b]?=some ob→X[b]?=some ob∧obSc H1.length ob=true) (hb:H1.length≤b) (hX:X[b]?=some (.cells a false)) (ha:allFz a=true) :
  Inv K w0 ⟨fun i=>if i<H1.length+k then φ i else if i=H1.length+k then φ b else none,φ.z⟩ (H1++List.replicate k .dead++[.cells a false]) w:=by
 generalize hψ:(⟨fun i=>if i<H1.length+k then φ i else if i=H1.length+k then φ b else none,φ.z⟩:Phi)=ψ
 have hlo:∀{i:Nat},i<H1.length→ψ i=φ i:=by
  intro i hi;subst hψ
  show (if i<H1.length+k then φ i else _)=_
  rw[if_pos (by omega)]
 have hhi:ψ (H1.length+k)=φ b:=by
  subst hψ
  show (if H1.length+k<H1.length+k then φ (H1.length+k) else if H1.length+k=H1.length+k then φ b else none)=φ b
  rw[if_neg (by omega),if_pos rfl]
 have hz:ψ.z=φ.z:=by subst hψ;rfl
 have hget:∀{i:Nat} {ob:Ob},(H1++List.replicate k .dead++[.cells a false])[i]?=some ob→ob.live=true→(i<H1.length∧X[i]?=some ob∧obSc H1.length ob=true)∨(i=H1.length+k∧ob=.cells a false):=by
  intro i ob hi hl;rw[List.append_assoc]at hi
  rcases Nat.lt_or_ge i H1.length with h | h
  ·rw[List.getElem?_append_left h]at hi
   exact .inl ⟨h,hH i ob hi⟩
  ·rw[List.getElem?_append_right h]at hi
   rcases Nat.lt_or_ge (i-H1.length) k with h1 | h1
   ·rw[List.getElem?_append_left (by simpa using h1),List.getElem?_replicate,if_pos h1]at hi
    simp only[Option.some.injEq]at hi;subst hi;cases hl
   ·rw[List.getElem?_append_right (by simpa using h1)]at hi
    simp only[List.length_replicate]at hi
    cases hj:i-H1.length-k with
    | zero =>
     rw[hj]at hi
     simp only[List.getElem?_cons_zero,Option.some.injEq]at hi
     exact .inr ⟨by omega,hi.symm⟩
    | succ j=>rw[hj]at hi;simp at hi
 have hle:le (cut φ H1.length) ψ:=by
  refine ⟨fun i x hx=>?_,fun B o hB=>by rw[hz];exact hB⟩
  rcases Nat.lt_or_ge i H1.length with h | h
  ·rw[cut_lt h]at hx;rw[hlo h];exact hx
  ·rw[cut_ge h]at hx;cases hx
 have hle0:le (cut φ 0) ψ:=by
  refine ⟨fun i x hx=>?_,fun B o hB=>by rw[hz];exact hB⟩
  rw[cut_ge (Nat.zero_le i)]at hx;cases hx
 have hsc:obSc 0 (.cells a false)=true:=by
  unfold allFz at ha;rw[List.all_eq_true]at ha;simp only[obSc,List.all_eq_true];intro v hv;have:=ha v hv;unfold fz0 at this
  split at this
  ·rfl
  ·exact sc1_g0 this
 have hbk:∀{i:Nat} {ob:Ob},(H1++List.replicate k .dead++[.cells a false])[i]?=some ob→ob.live=true→∃i',X[i']?=some ob∧ψ i=φ i'∧(i' < H1.length∧i'=i∨i'=b∧i=H1.length+k):=by
  intro i ob hi hl
  rcases hget hi hl with ⟨h1,h2,_⟩ | ⟨rfl,rfl⟩
  ·exact ⟨i,h2,hlo h1,.inl ⟨h1,rfl⟩⟩
  ·exact ⟨b,hX,hhi,.inr ⟨rfl,rfl⟩⟩
 refine ⟨?_,?_,?_,hF.keep,hF.klt,hF.size,hF.os,hF.tape,hF.output,?_,fun B o hB=>hF.frz B o (hz ▸ hB),?_,fun k hk=>by rw[hz];exact hF.zk k hk⟩
 ·intro i ob hi hl
  rcases hget hi hl with ⟨h1,h2,h3⟩ | ⟨rfl,rfl⟩
  ·obtain ⟨B,base,tot,h4,h5⟩:=hF.obs i ob h2 hl
   exact ⟨B,base,tot,(hlo h1).trans h4,(obSc_cut h3 h5).keep hle rfl⟩
  ·obtain ⟨B,base,tot,h4,h5⟩:=hF.obs b _ hX hl
   exact ⟨B,base,tot,hhi.trans h4,(obSc_cut hsc h5).keep hle0 rfl⟩
 ·intro i i' ob ob' x y hne hi hi' hrw hl hx hy
  obtain ⟨j,k1,k2,k3⟩:=hbk hi (Ob.live_of_rw hrw);obtain ⟨j',l1,l2,l3⟩:=hbk hi' hl;rw[k2]at hx;rw[l2]at hy
  exact hF.sep j j' ob ob' x y (by omega) k1 l1 hrw hl hx hy
 ·intro i ob x hi hrw hx
  obtain ⟨j,k1,k2,_⟩:=hbk hi (Ob.live_of_rw hrw);rw[k2]at hx;exact hF.prot j ob x k1 hrw hx
 ·intro i hi
  simp only[List.length_append,List.length_replicate,List.length_cons,List.length_nil]at hi;subst hψ
  show (if i<H1.length+k then φ i else if i=H1.length+k then φ b else none)=none
  rw[if_neg (by omega),if_neg (by omega)]
 ·intro i ob x hi hrw hx
  obtain ⟨j,k1,k2,_⟩:=hbk hi (Ob.live_of_rw hrw);rw[k2]at hx;rw[hz];exact hF.zsep j ob x k1 hrw hx
end
section
variable {P:Program}
theorem Fact.post {c:Code}{t t0 L T:List Value}{H0 H2 X:List Ob}{e:Ex}{b1:Nat}{wr1:List Nat}(hf:Fact P (.code none c ⟨t0,[],⟨H0,0,[]⟩⟩) (.ex e ⟨L,[],⟨X,b1,wr1⟩⟩)) (he:noPanic e=true)
  (hst:∀{φ:Phi} {tm:Array Value},VRs φ t.toArray tm→VRs φ t0.toArray tm) (hlen:H0.length≤H2.length) (hro:∀(b:Nat) (ob:Ob),H2[b]?=some ob→ob.live=true→ob.rw=true)
  (hp:∀(K:Nat→Prop) (w0:World) (φ φ':Phi) (w w':World) (tm:Array Value),Inv K w0 φ H0 w→Inv K w0 φ' X w'→le φ φ'→VRs φ' L.toArray tm→∃φ'',le φ φ''∧VRs φ'' T.toArray tm∧Inv K w0 φ'' H2 w') :
  Fact P (.code none c ⟨t,[],⟨H0,0,[]⟩⟩) (.ex e ⟨T,[],⟨H2,0,[]⟩⟩):=by
 obtain ⟨_,hh⟩:=hf.1 (Nat.zero_le _)
 have dnil:∀{φ ψ:Phi} {l:List Deferred},DRs φ [] l→DRs ψ [] l:=fun h=>by cases h;exact .nil
 have key:∀{K:Nat→Prop} {w0 w:World} {φ:Phi} {x:Exit} {a':Act} {w':World},Inv K w0 φ H0 w→CodeR K w0 φ e ⟨L,[],⟨X,b1,wr1⟩⟩ x a' w'→CodeR K w0 φ e ⟨T,[],⟨H2,0,[]⟩⟩ x a' w':=by
  rintro K w0 w φ x a' w' hI ⟨φ',hle,hx,ht',hd',hI'⟩
  obtain ⟨φ'',h1,h2,h3⟩:=hp K w0 φ φ' w w' _ hI hI' hle ht';exact ⟨φ'',h1,hx.any he,h2,dnil hd',h3⟩
 refine ⟨fun _=>⟨⟨rfl,hlen,fun b hb _=>absurd hb (Nat.not_lt_zero _),fun b ob hx hl hr=>?_⟩,?_⟩,?_⟩
 ·rw[hro b ob hx hl]at hr;cases hr
 ·intro K w0 φ w a F n hI hta hd hF
  exact wpIn_mono (hh K w0 φ w a F n hI (hst hta) (dnil hd) hF) fun x a' w' h=>key hI h
 ·cases c with
  | loop c =>
   intro _ K w0 φ w a F n hI hta hd hF;have hl:=hf.2 (Nat.zero_le _)
   exact wpLoopIn_mono (hl K w0 φ w a F n hI (hst hta) (dnil hd) hF) fun x a' w' h=>key hI h
  | _=>trivial
end
section
variable {X D:Type}
structure LoopG (X D:Type) extends LoopOf X D where
 os:Nat
 sz:Nat
 z:Nat
 own:X→Option (Array Value×Nat)
def LoopG.ownB (L:LoopG X D)(x:X):List Ob:=match L.own x with
 | none=>[]
 | some (a,_)=>[.cells a false]
def LoopG.ownV (L:LoopG X D)(x:X):Value:=match L.own x with
 | none=>.slice none 0 0
 | some (_,l)=>.slice (some ⟨L.M,0,none⟩) l L.sz
def LoopG.encG (L:LoopG X D):Sum X D→Out
 | .inl x=>.ex .normal ⟨L.ownV x::L.sl x,[],⟨L.hp x++L.ownB x,L.N,[]⟩⟩
 | .inr d=>.ex (L.ex d) ⟨L.dv d,[],⟨L.dh d,L.N,[]⟩⟩
def LoopG.headG (L:LoopG X D)(x:X)(j:List Value):Task:=.code none L.c ⟨sets (junkF L.N j) ((L.os::L.S).zip (L.ownV x::L.sl x)),[],⟨L.hp x++L.ownB x,0,[]⟩⟩
def LoopG.tailG (L:LoopG X D)(x:X)(d:D)(j:List Value):Out:=.ex (L.ex d) ⟨sets (junkF L.N j) ((L.pick (L.ex d)).zip (L.dv d)),[],⟨L.dh d++List.replicate (L.ownB x).length .dead,0,[]⟩⟩
def gK (N M os z:Nat)(S:List Nat)(pick:Ex→List Nat):Kn
 | .ex e s=>match s.d,lenIs s.t N with
  | [],true=>(match e with
   | .normal=>(match lget s.t os with
    | .slice none 0 0=>some (.ex .normal ⟨.slice none 0 0::S.map (lget s.t),[],⟨s.h.bl.take M,N,s.h.wr⟩⟩)
    | .slice (some ⟨b,0,none⟩) l zz=>(match Nat.ble M b,nthO s.h.bl b with
     | true,some (.cells a false)=>cond (allFz a) (some (.ex .normal ⟨.slice (some ⟨M,0,none⟩) l zz::S.map (lget s.t),[],⟨s.h.bl.take M++[.cells a false],N,s.h.wr⟩⟩)) none
     | _,_=>none)
    | _=>none)
   | e=>frzG M z s.h.bl ((pick e).map (lget s.t)) fun vs=>some (.ex e ⟨vs,[],⟨s.h.bl.take M,N,s.h.wr⟩⟩))
  | _,_=>none
 | _=>none
theorem lget_setsL {S:List Nat}{vs:List Value}{N:Nat}(hnd:S.Nodup) (hlt:∀k∈S,k<N) (hl:vs.length=S.length) (j:List Value):∀kv∈S.zip vs,lget (sets (junkF N j) (S.zip vs)) kv.1=kv.2 :=
 lget_sets (X:=Unit) (D:=Unit) (L:={ c:=.skip,N:=N,M:=0,S:=S,sl:=fun _=>vs,hp:=fun _=>[],ex:=fun _=>.ret,pick:=fun _=>[],dv:=fun _=>[],dh:=fun _=>[] }) hnd hlt () j
theorem own_sc {a:Array Value}(ha:allFz a=true) (n:Nat):obSc n (.cells a false)=true:=by
 unfold allFz at ha;rw[List.all_eq_true]at ha;simp only[obSc,List.all_eq_true];intro v hv;have:=ha v hv;unfold fz0 at this
 split at this
 ·rfl
 ·exact sc1_g0 this
section
variable {P:Program}
theorem Fact.under {c:Code} {t t0 T T':List Value}{H H1 O:List Ob}{e:Ex}(hf:Fact P (.code none (.loop c) ⟨t0,[],⟨H++O,0,[]⟩⟩) (.ex e ⟨T,[],⟨H1++List.replicate O.length .dead,0,[]⟩⟩)) (he:noPanic e=true) (k:Nat)
  (hl:H1.length=H.length) (hH:H.all (boxB H.length)=true) (hH1:H1.all (boxB H.length)=true) (hO:∀ob∈O,ob.rw=true∧∀n,obSc n ob=true)
  (ht:PTs (inS (fun i=>if i<H.length then i else i+k) (H++O)) t t0) (hT:SlotRs H.length T T') :
  Fact P (.code none (.loop c) ⟨t,[],⟨H++List.replicate k .dead++O,0,[]⟩⟩) (.ex e ⟨T',[],⟨H1++List.replicate k .dead++List.replicate O.length .dead,0,[]⟩⟩):=by
 have hrep:∀{n j:Nat} {ob:Ob},(List.replicate n Ob.dead)[j]?=some ob→ob=.dead:=by
  intro n j ob h
  rw[List.getElem?_replicate]at h
  split at h
  ·simp only[Option.some.injEq]at h;exact h.symm
  ·cases h
 have hbox:∀{Q:List Ob},Q.all (boxB H.length)=true→∀{j:Nat} {ob:Ob},Q[j]?=some ob→ob.live=true∧ob.rw=true∧obSc H.length ob=true:=by
  intro Q hQ j ob h;rw[List.all_eq_true]at hQ;have:=hQ ob (List.mem_of_getElem? h);simp only[boxB,Bool.and_eq_true]at this;exact ⟨this.1.1,this.1.2,this.2⟩
 have hid:∀i,i<H.length→inS (fun i=>if i<H.length then i else i+k) (H++O) i i:=fun i hi=>⟨by simp;omega,by simp only;rw[if_pos hi]⟩
 have hido:∀i,i<H.length→outS (fun i=>if i<H.length then i else i+k) (fun _=>none) (H++O) (H++List.replicate k .dead++O) (H1++List.replicate k .dead++List.replicate O.length .dead) i i:=fun i hi=>.inl (hid i hi)
 have hc:Carry (fun i=>if i<H.length then i else i+k) (fun _=>none) (H++O) (H1++List.replicate O.length .dead) (H++List.replicate k .dead++O) (H1++List.replicate k .dead++List.replicate O.length .dead):=by
  refine ⟨?_,?_,?_,?_,fun j i h=>(by cases h),fun j j' i _ _ h=>(by cases h),?_⟩
  ·intro i ob hi hlv
   rcases Nat.lt_or_ge i H.length with h | h
   ·rw[List.getElem?_append_left h]at hi
    obtain ⟨k1,k2,k3⟩:=hbox hH hi
    refine ⟨ob,?_,hlv,id,ObTR.sc hid k3⟩
    simp only[if_pos h]
    rw[List.append_assoc,List.getElem?_append_left h];exact hi
   ·rw[List.getElem?_append_right h]at hi
    refine ⟨ob,?_,hlv,id,ObTR.same (hO ob (List.mem_of_getElem? hi)).2⟩
    simp only[if_neg (show ¬i<H.length by omega)]
    rw[List.getElem?_append_right (by simp;omega)]
    rw[show i+k-(H++List.replicate k Ob.dead).length=i-H.length by simp;omega];exact hi
  ·intro i i' _ _ h
   split at h<;>split at h<;>omega
  ·intro i hi
   simp only[List.length_append,List.length_replicate]at hi ⊢
   split<;>omega
  ·simp only[List.length_append,List.length_replicate]
   omega
  ·intro j ob hj hlv
   rcases Nat.lt_or_ge j H1.length with h | h
   ·rw[List.append_assoc,List.getElem?_append_left h]at hj
    obtain ⟨k1,k2,k3⟩:=hbox hH1 hj
    exact .inr ⟨j,ob,by rw[List.getElem?_append_left h];exact hj,hlv,id,.inl k2,ObTR.sc hido k3,hido j (by omega)⟩
   ·exfalso
    rw[List.append_assoc,List.getElem?_append_right h]at hj
    rcases get_app hj with ⟨_,h2⟩ | ⟨_,h2⟩
    ·rw[hrep h2]at hlv;cases hlv
    ·rw[hrep h2]at hlv;cases hlv
 refine hf.carryCode (Nat.zero_le _) hc ht.trs (TRs.slots (n:=H.length) hido hT) he fun _=>⟨rfl,?_,fun b hb _=>absurd hb (Nat.not_lt_zero _),fun b ob hx hlv hr=>?_⟩
 ·simp only[List.length_append,List.length_replicate]
  omega
 ·exfalso
  rcases Nat.lt_or_ge b H1.length with h | h
  ·simp only at hx
   rw[List.append_assoc,List.getElem?_append_left h]at hx
   rw[(hbox hH1 hx).2.1]at hr;cases hr
  ·simp only at hx
   rw[List.append_assoc,List.getElem?_append_right h]at hx
   rcases get_app hx with ⟨_,h2⟩ | ⟨_,h2⟩
   ·rw[hrep h2]at hlv;cases hlv
   ·rw[hrep h2]at hlv;cases hlv
section
variable {P:Program}(hN:NoNG P) (hm:P.follows .mixedOrders=true)
include hN hm
structure LoopG.OkG (L:LoopG X D):Prop where
 ok:L.toLoopOf.Ok
 nd:(L.os::L.S).Nodup
 lt:∀k∈L.os::L.S,k<L.N
 pn:∀d,(L.pick (L.ex d)).Nodup
 pl:∀d,∀k∈L.pick (L.ex d),k<L.N
omit hN hm in
theorem own_cases {L:LoopG X D}(x:X):(L.own x=none∧L.ownB x=[]∧L.ownV x=.slice none 0 0)∨∃a l,L.own x=some (a,l)∧L.ownB x=[.cells a false]∧L.ownV x=.slice (some ⟨L.M,0,none⟩) l L.sz:=by
 unfold LoopG.ownB LoopG.ownV
 cases h:L.own x with
 | none=>exact .inl ⟨rfl,rfl,rfl⟩
 | some al=>obtain ⟨a,l⟩:=al;exact .inr ⟨a,l,rfl,rfl,rfl⟩
omit hN hm in
theorem own_rw {L:LoopG X D}(x:X):∀ob∈L.ownB x,ob.live=true∧ob.rw=true:=by
 rcases own_cases (L:=L) x with ⟨_,h,_⟩ | ⟨a,l,_,h,_⟩
 ·rw[h];intro ob hob;simp at hob
 ·rw[h];intro ob hob;simp only[List.mem_cons,List.not_mem_nil,or_false]at hob;subst hob;exact ⟨rfl,rfl⟩
omit hN hm in
theorem ownV_notU {L:LoopG X D}(x:X):notU (L.ownV x)=true:=by
 rcases own_cases (L:=L) x with ⟨_,_,h⟩ | ⟨a,l,_,_,h⟩<;>rw[h]<;>rfl
theorem LoopG.round {L:LoopG X D}(ok:L.OkG) {a:Ans}(hk:Known P a) {n:Nat}{rd:X→RT (Sum X D)}
  (hr:∀x j,(∀a l,L.own x=some (a,l)→allFz a=true)→evC P a.c n (L.headG x j) (gK L.N L.M L.os L.z L.S L.pick)=(rd x).out L.encG) {x:X} (hx:∀a l,L.own x=some (a,l)→allFz a=true) {y:Sum X D} (hy:(rd x).val=some y)
  {t:List Value} (ht:t.length=L.N) (hS:∀kv∈(L.os::L.S).zip (L.ownV x::L.sl x),lget t kv.1=kv.2) :
  match y with
  | .inl x'=>(∀a l,L.own x'=some (a,l)→allFz a=true)∧∃j,Fact P (.code none L.c ⟨t,[],⟨L.hp x++L.ownB x,0,[]⟩⟩) (.ex .normal ⟨sets (junkF L.N j) ((L.os::L.S).zip ((match L.own x' with
     | none=>.slice none 0 0
     | some (_,l)=>.slice (some ⟨L.M+(L.ownB x).length,0,none⟩) l L.sz)::L.sl x')),[],⟨L.hp x'++List.replicate (L.ownB x).length .dead++L.ownB x',0,[]⟩⟩)
  | .inr d=>∃j,Fact P (.code none L.c ⟨t,[],⟨L.hp x++L.ownB x,0,[]⟩⟩) (L.tailG x d j):=by
 have hMx:=ok.ok.h1 x;have h1:=hr x (t.map lo) hx;rw[RT.out_val,hy,Option.map_some]at h1;obtain ⟨o,h2,hf⟩:=hk.factK hN hm h1
 have hmem:∀{l:List Value},l.all (fun v=>notU v&&scT L.M v)=true→∀v∈l,notU v=true∧scT L.M v=true:=by
  intro l hl v hv;rw[List.all_eq_true]at hl;have:=hl v hv;rw[Bool.and_eq_true]at this;exact this
 have hup:∀{v:Value} {m m':Nat},m≤m'→scT m v=true→scT m' v=true:=by
  intro v m m' hmm
  have u0:∀{v:Value},sc0 m v=true→sc0 m' v=true:=by
   intro v h;unfold sc0 at h ⊢
   split at h<;>first | exact h | (simp only[decide_eq_true_eq]at h ⊢;omega) | rfl
  have ua0:∀{l:List Value},l.all (sc0 m)=true→l.all (sc0 m')=true:=by
   intro l h;rw[List.all_eq_true]at h ⊢
   exact fun v hv=>u0 (h v hv)
  have uB:∀{v:Value},scB m v=true→scB m' v=true:=by
   intro v h;unfold scB at h ⊢
   split at h
   ·exact ua0 h
   ·exact u0 h
  have ua:∀{l:List Value},l.all (scB m)=true→l.all (scB m')=true:=by
   intro l h;rw[List.all_eq_true]at h ⊢
   exact fun v hv=>uB (h v hv)
  have u1:∀{v:Value},sc1 m v=true→sc1 m' v=true:=by
   intro v h;unfold sc1 at h ⊢
   split at h
   ·exact h
   ·simp only[decide_eq_true_eq]at h ⊢;omega
   ·rfl
   ·rw[Bool.and_eq_true]at h ⊢
    exact ⟨ua h.1,ua h.2⟩
   ·exact u0 h
  have ub:∀{l:List Value},l.all (sc1 m)=true→l.all (sc1 m')=true:=by
   intro l h;rw[List.all_eq_true]at h ⊢
   exact fun v hv=>u1 (h v hv)
  have uA:∀{v:Value},scA m v=true→scA m' v=true:=by
   intro v h;unfold scA at h ⊢
   split at h
   ·exact ub h
   ·exact u1 h
  intro h;unfold scT at h ⊢
  split at h
  ·rw[List.all_eq_true]at h ⊢
   exact fun v hv=>uA (h v hv)
  ·exact uA h
 have hH0:(L.hp x++L.ownB x).length=L.M+(L.ownB x).length:=by rw[List.length_append,hMx]
 have hslots:SlotRs (L.hp x++L.ownB x).length t (sets (junkF L.N (t.map lo)) ((L.os::L.S).zip (L.ownV x::L.sl x))):=by
  refine slotRs_known ht fun kv hkv=>?_
  have h3:=hS kv hkv;rw[List.zip_cons_cons,List.mem_cons]at hkv
  rcases hkv with rfl | hkv
  ·refine ⟨getElem_of_lget h3 (ownV_notU x),?_⟩
   rw[hH0]
   rcases own_cases (L:=L) x with ⟨_,h4,h5⟩ | ⟨a',l',_,h4,h5⟩
   ·simp only[h5];rfl
   ·simp only[h5,h4]
    show decide (L.M<L.M+1)=true
    simp
  ·have hv:=hmem (ok.ok.s2 x) _ (List.of_mem_zip hkv).2
   exact ⟨getElem_of_lget h3 hv.1,by rw[hH0];exact hup (Nat.le_add_right _ _) hv.2⟩
 have hf':Fact P (.code none L.c ⟨sets (junkF L.N (t.map lo)) ((L.os::L.S).zip (L.ownV x::L.sl x)),[],⟨L.hp x++L.ownB x,0,[]⟩⟩) o:=hf
 have hbl:∀{Q:List Ob},Q.all (boxB L.M)=true→∀{b:Nat} {ob:Ob},Q[b]?=some ob→ob.live=true∧ob.rw=true∧obSc L.M ob=true:=by
  intro Q hQ b ob h;rw[List.all_eq_true]at hQ;have:=hQ ob (List.mem_of_getElem? h);simp only[boxB,Bool.and_eq_true]at this;exact ⟨this.1.1,this.1.2,this.2⟩
 have hrep:∀{n j:Nat} {ob:Ob},(List.replicate n Ob.dead)[j]?=some ob→ob=.dead:=by
  intro n j ob h
  rw[List.getElem?_replicate]at h
  split at h
  ·simp only[Option.some.injEq]at h;exact h.symm
  ·cases h
 have htk:∀{bl H1:List Ob},bl.take L.M=H1→∀(b:Nat) (ob:Ob),H1[b]?=some ob→bl[b]?=some ob:=by
  intro bl H1 h b ob hb
  rw[← h,List.getElem?_take]at hb
  split at hb
  ·exact hb
  ·cases hb
 unfold gK at h2
 split at h2
 case h_2=>cases h2
 rename_i e s
 split at h2
 case h_2=>cases h2
 rename_i hd hlen;have k4:=lenIs_eq _ _ hlen;obtain ⟨LL,d0,⟨bl,b1,wr1⟩⟩:=s;simp only at hd k4 h2;subst hd
 split at h2
 ·
  have fin:∀(H1:List Ob) (O':List Ob) (v v':Value) (vs:List Value),bl.take L.M=H1→H1.length=L.M→H1.all (boxB L.M)=true→vs.all (fun v=>notU v&&scT L.M v)=true→L.S.map (lget LL)=vs→lget LL L.os=v→notU v=true →
    ((O'=[]∧v=.slice none 0 0∧v'=.slice none 0 0)∨∃a' b l zz,O'=[.cells a' false]∧allFz a'=true∧L.M≤b∧bl[b]?=some (.cells a' false)∧v=.slice (some ⟨b,0,none⟩) l zz∧v'=.slice (some ⟨L.M+(L.ownB x).length,0,none⟩) l zz) →
    ∃j,Fact P (.code none L.c ⟨t,[],⟨L.hp x++L.ownB x,0,[]⟩⟩) (.ex .normal ⟨sets (junkF L.N j) ((L.os::L.S).zip (v'::vs)),[],⟨H1++List.replicate (L.ownB x).length .dead++O',0,[]⟩⟩):=by
   intro H1 O' v v' vs e1 e2 e3 e4 e5 e6 e7 hor
   refine ⟨LL.map lo,hf'.post rfl (fun {φ} {tm} h=>(hslots.vrs h).mono (cut_le φ _)) ?_ ?_ ?_⟩
   ·rw[hH0];simp only[List.length_append,List.length_replicate];omega
   ·intro b ob hb hlv
    rcases get_app hb with ⟨_,h3⟩ | ⟨_,h3⟩
    ·rcases get_app h3 with ⟨_,h4⟩ | ⟨_,h4⟩
     ·exact (hbl e3 h4).2.1
     ·rw[hrep h4]at hlv;cases hlv
    ·rcases hor with ⟨rfl,_⟩ | ⟨a',_,_,_,rfl,_⟩
     ·simp at h3
     ·rw[List.getElem?_singleton]at h3
      split at h3
      ·simp only[Option.some.injEq]at h3;subst h3;rfl
      ·cases h3
   ·intro K w0 φ φ' w w' tm hI hF hle hV
    have hH1:∀(b:Nat) (ob:Ob),H1[b]?=some ob→bl[b]?=some ob∧obSc H1.length ob=true:=fun b ob hb=>⟨htk e1 b ob hb,by rw[e2];exact (hbl e3 hb).2.2⟩
    have hφ:∀{b:Nat} {y:Nat×Nat×Nat},φ b=some y→b<H1.length+(L.ownB x).length:=by
     intro b y hb
     rcases Nat.lt_or_ge b (L.hp x++L.ownB x).length with h | h
     ·rw[hH0]at h;omega
     ·rw[hI.top b h]at hb;cases hb
    have hslot:∀(ψ:Phi),le (cut φ' L.M) ψ→(∀u,VR φ' v u→VR ψ v' u)→VRs ψ (sets (junkF L.N (LL.map lo)) ((L.os::L.S).zip (v'::vs))).toArray tm:=by
     intro ψ hc hv
     have hp:∀(σ:Nat→Nat→Prop),(∀u:Value,TR σ u (lo u)):=fun σ u=>TR.lo
     have:PTs (fun (_ _:Nat)=>False) LL (sets (junkF L.N (LL.map lo)) []):=PTs.known k4 (fun kv h=>by simp at h)
     have key:∀(known:List (Nat×Value)) (T:List Value),VRs ψ T.toArray tm→(∀kv∈known,∃u,LL[kv.1]?=some u∧∀z,VR φ' u z→VR ψ kv.2 z)→VRs ψ (sets T known).toArray tm:=by
      intro known
      induction known with
      | nil=>intro T h _;exact h
      | cons kv r ih =>
       intro T h hkk
       refine ih _ ?_ fun kv' hm'=>hkk kv' (List.mem_cons_of_mem _ hm')
       obtain ⟨u,hu,hz⟩:=hkk kv (List.mem_cons_self ..);have hV1:=hV kv.1
       rw[List.getElem?_toArray,hu]at hV1
       generalize htm:tm[kv.1]?=w1 at hV1
       cases hV1 with
       | some hvr =>
        rename_i b
        have e:tm=tm.setIfInBounds kv.1 b:=by
         apply Array.ext_getElem?
         intro i
         rw[Array.getElem?_setIfInBounds]
         split
         ·rename_i hi
          subst hi
          split
          ·exact htm
          ·rename_i hge
           rw[Array.getElem?_eq_none (by omega)]
         ·rfl
        rw[lset_eq,e];exact h.set (hz _ hvr) kv.1
     refine key _ _ ?_ ?_
     ·rw[junkF_eq (by simpa using k4)]
      intro i;have hVi:=hV i
      rw[List.getElem?_toArray]at hVi ⊢
      rw[List.getElem?_map]
      generalize LL[i]?=q at hVi
      generalize tm[i]?=q' at hVi ⊢
      cases hVi with
      | none=>exact .none
      | some h=>exact .some (cl_vr h)
     ·intro kv hkv
      rw[List.zip_cons_cons,List.mem_cons]at hkv
      rcases hkv with rfl | hkv
      ·exact ⟨v,getElem_of_lget e6 e7,hv⟩
      ·have hm1:=hmem e4 _ (List.of_mem_zip hkv).2
       rw[← e5]at hkv
       have h5:=zip_get (show (kv.1,kv.2)∈L.S.zip (L.S.map (lget LL)) from hkv)
       exact ⟨kv.2,getElem_of_lget h5.symm hm1.1,fun z hz=>(scT_cut hm1.2 hz).mono hc⟩
    rcases hor with ⟨rfl,rfl,rfl⟩ | ⟨a',b,l,zz,rfl,ha',hb,hX,rfl,rfl⟩
    ·have hZ:=hF.freeze (k:=(L.ownB x).length) hH1
     refine ⟨⟨fun b=>if b<H1.length+(L.ownB x).length then φ' b else none,zF φ' bl H1.length w'⟩,?_,hslot _ ?_ (fun u hu=>by cases hu;exact .sliceN),by rw[List.append_nil];exact hZ⟩
     ·refine ⟨fun i y hi=>?_,fun B o hB=>(zF_made hF _).le B o (hle.zz B o hB)⟩
      show (if i<H1.length+(L.ownB x).length then φ' i else none)=some y
      rw[if_pos (hφ hi)];exact hle i y hi
     ·refine ⟨fun i y hi=>?_,fun B o hB=>(zF_made hF _).le B o hB⟩
      rcases Nat.lt_or_ge i L.M with h | h
      ·rw[cut_lt h]at hi
       show (if i<H1.length+(L.ownB x).length then φ' i else none)=some y
       rw[if_pos (by omega)];exact hi
      ·rw[cut_ge h]at hi;cases hi
    ·have hZ:=hF.pack (k:=(L.ownB x).length) hH1 (by rw[e2];exact hb) hX ha'
     refine ⟨_,?_,hslot _ ?_ ?_,hZ⟩
     ·refine ⟨fun i y hi=>?_,fun B o hB=>hle.zz B o hB⟩
      show (if i<H1.length+(L.ownB x).length then φ' i else if i=H1.length+(L.ownB x).length then φ' b else none)=some y
      rw[if_pos (hφ hi)];exact hle i y hi
     ·refine ⟨fun i y hi=>?_,fun B o hB=>hB⟩
      rcases Nat.lt_or_ge i L.M with h | h
      ·rw[cut_lt h]at hi
       show (if i<H1.length+(L.ownB x).length then φ' i else if i=H1.length+(L.ownB x).length then φ' b else none)=some y
       rw[if_pos (by omega)];exact hi
      ·rw[cut_ge h]at hi;cases hi
     ·have hq:∀{y:Nat×Nat×Nat},φ' b=some y→(⟨fun i=>if i<H1.length+(L.ownB x).length then φ' i else if i=H1.length+(L.ownB x).length then φ' b else none,φ'.z⟩:Phi) (L.M+(L.ownB x).length)=some y:=by
       intro y hy'
       show (if L.M+(L.ownB x).length<H1.length+(L.ownB x).length then φ' (L.M+(L.ownB x).length) else if L.M+(L.ownB x).length=H1.length+(L.ownB x).length then φ' b else none)=some y
       rw[if_neg (by omega),if_pos (by omega)];exact hy'
      intro u hu
      cases hu with
      | sliceZ hp a2 c2=>exact .sliceZ (a:=⟨L.M+(L.ownB x).length,0,none⟩) (hq hp) a2 _
      | slice hp hl' hc'=>exact .slice (hq hp) hl' hc'
  split at h2
  ·rename_i hos
   simp only[Option.some.injEq]at h2
   cases y with
   | inr d=>simp only[LoopG.encG,Out.ex.injEq]at h2;exact absurd h2.1.symm (ok.ok.e1 d)
   | inl x' =>
    simp only[LoopG.encG,Out.ex.injEq,St.mk.injEq,Hp.mk.injEq,List.cons.injEq,true_and]at h2;obtain ⟨⟨q1,q2⟩,q3,_,_⟩:=h2
    rcases own_cases (L:=L) x' with ⟨p1,p2,p3⟩ | ⟨a',l',p1,p2,p3⟩
    ·rw[p2,List.append_nil]at q3
     refine ⟨fun a l h=>(by rw[p1]at h;cases h),?_⟩
     simp only[p1,p2];exact fin (L.hp x') [] _ _ (L.sl x') q3 (ok.ok.h1 x') (ok.ok.h2 x') (ok.ok.s2 x') q2 hos rfl (.inl ⟨rfl,rfl,rfl⟩)
    ·rw[p3]at q1;cases q1
  ·rename_i b l zz hos
   split at h2
   case h_2=>cases h2
   rename_i a' hmb hX;rw[nthO_eq]at hX;obtain ⟨ha',h2⟩:=cond_some h2;simp only[Option.some.injEq]at h2
   cases y with
   | inr d=>simp only[LoopG.encG,Out.ex.injEq]at h2;exact absurd h2.1.symm (ok.ok.e1 d)
   | inl x' =>
    simp only[LoopG.encG,Out.ex.injEq,St.mk.injEq,Hp.mk.injEq,List.cons.injEq,true_and]at h2;obtain ⟨⟨q1,q2⟩,q3,_,_⟩:=h2
    rcases own_cases (L:=L) x' with ⟨p1,p2,p3⟩ | ⟨a2,l2,p1,p2,p3⟩
    ·rw[p3]at q1;cases q1
    ·rw[p3]at q1
     simp only[Value.slice.injEq,true_and]at q1;obtain ⟨rfl,rfl⟩:=q1;rw[p2]at q3
     have hlt:L.M≤bl.length:=by
      have:=(List.getElem?_eq_some_iff.1 hX).1
      have:=Nat.le_of_ble_eq_true hmb
      omega
     have hlen':(bl.take L.M).length=(L.hp x').length:=by rw[List.length_take,ok.ok.h1 x'];omega
     obtain ⟨q4,q5⟩:=List.append_inj q3 hlen';simp only[List.cons.injEq,Ob.cells.injEq,and_true]at q5;subst q5
     refine ⟨fun a l h=>(by rw[p1]at h;simp only[Option.some.injEq,Prod.mk.injEq]at h;obtain ⟨rfl,_⟩:=h;exact ha'),?_⟩
     simp only[p1,p2];exact fin (L.hp x') [.cells a' false] _ _ (L.sl x') q4 (ok.ok.h1 x') (ok.ok.h2 x') (ok.ok.s2 x') q2 hos rfl (.inr ⟨a',b,l,_,rfl,ha',Nat.le_of_ble_eq_true hmb,hX,rfl,rfl⟩)
  ·cases h2
 ·
  rename_i hne;obtain ⟨us,g1,g2,g3⟩:=frzG_all h2;simp only[Option.some.injEq]at g1
  cases y with
  | inl x' =>
   simp only[LoopG.encG,Out.ex.injEq]at g1
   exact absurd g1.1 (fun h=>hne h)
  | inr d =>
   simp only[LoopG.encG,Out.ex.injEq,St.mk.injEq,Hp.mk.injEq,true_and]at g1;obtain ⟨rfl,q1,q2,_,_⟩:=g1
   refine ⟨LL.map lo,?_⟩
   show Fact P _ (.ex (L.ex d) ⟨_,[],⟨_,0,[]⟩⟩)
   have hl1:=ok.ok.d2 d;have hb1:=ok.ok.d3 d
   refine hf'.post (ok.ok.e2 d) (fun {φ} {tm} h=>(hslots.vrs h).mono (cut_le φ _)) ?_ ?_ ?_
   ·rw[hH0];simp only[List.length_append,List.length_replicate];omega
   ·intro b ob hb hlv
    rcases get_app hb with ⟨_,h4⟩ | ⟨_,h4⟩
    ·exact (hbl hb1 h4).2.1
    ·rw[hrep h4]at hlv;cases hlv
   ·intro K w0 φ φ' w w' tm hI hF hle hV
    have hH1:∀(b:Nat) (ob:Ob),(L.dh d)[b]?=some ob→bl[b]?=some ob∧obSc (L.dh d).length ob=true:=fun b ob hb=>⟨htk q2 b ob hb,by rw[hl1];exact (hbl hb1 hb).2.2⟩
    have hφ:∀{b:Nat} {y:Nat×Nat×Nat},φ b=some y→b<(L.dh d).length+(L.ownB x).length:=by
     intro b y hb
     rcases Nat.lt_or_ge b (L.hp x++L.ownB x).length with h | h
     ·rw[hH0]at h;omega
     ·rw[hI.top b h]at hb;cases hb
    have hZ:=hF.freeze (k:=(L.ownB x).length) hH1;have hM:=zF_made hF (L.dh d).length;rw[hl1]at hM
    have hc:le (cut φ' L.M) ⟨fun b=>if b<(L.dh d).length+(L.ownB x).length then φ' b else none,zF φ' bl (L.dh d).length w'⟩:=by
     refine ⟨fun i y hi=>?_,fun B o hB=>by rw[hl1];exact hM.le B o hB⟩
     rcases Nat.lt_or_ge i L.M with h | h
     ·rw[cut_lt h]at hi
      show (if i<(L.dh d).length+(L.ownB x).length then φ' i else none)=some y
      rw[if_pos (by omega)];exact hi
     ·rw[cut_ge h]at hi;cases hi
    refine ⟨_,⟨fun i y hi=>?_,fun B o hB=>(zF_made hF _).le B o (hle.zz B o hB)⟩,?_,hZ⟩
    ·show (if i<(L.dh d).length+(L.ownB x).length then φ' i else none)=some y
     rw[if_pos (hφ hi)];exact hle i y hi
    ·
     have hM':Made L.M (⟨fun b=>if b<(L.dh d).length+(L.ownB x).length then φ' b else none,zF φ' bl (L.dh d).length w'⟩:Phi).z φ' bl w':=by
      show Made L.M (zF φ' bl (L.dh d).length w') φ' bl w'
      rw[hl1];exact hM
     have hpick:∃ws:List Value,VRl φ' ((L.pick (L.ex d)).map (lget LL)) ws∧ws=(L.pick (L.ex d)).map (fun i=>tm.getD i undef):=by
      refine ⟨_,?_,rfl⟩
      generalize L.pick (L.ex d)=pk
      induction pk with
      | nil=>exact .nil
      | cons i r ih =>
       refine .cons ?_ ih
       have:=hV.getD i;rw[← lget_eq]at this;exact this
     obtain ⟨ws,hws,rfl⟩:=hpick;obtain ⟨u,hu,hu2⟩:=frzG_ok hM' hc h2 hws;simp only[LoopG.encG,Option.some.injEq,Out.ex.injEq,St.mk.injEq,true_and]at hu2
     have hud:u=L.dv d:=by
      exact hu2.1
     subst hud
     have key:∀(pk:List Nat) (vs:List Value) (T:List Value) (ψ:Phi),VRs ψ T.toArray tm→VRl ψ vs (pk.map fun i=>tm.getD i undef)→vs.all (fun v=>notU v&&scT L.M v)=true→VRs ψ (sets T (pk.zip vs)).toArray tm:=by
      intro pk
      induction pk with
      | nil=>intro vs T ψ h _ _;cases vs<;>exact h
      | cons i r ih =>
       intro vs T ψ h hv hall
       cases hv with
       | cons h1' h2' =>
        rename_i v vs';simp only[List.all_cons,Bool.and_eq_true]at hall
        refine ih vs' _ ψ ?_ h2' hall.2
        rcases Nat.lt_or_ge i tm.size with hi | hi
        ·have e:tm=tm.setIfInBounds i (tm.getD i undef):=by
          apply Array.ext_getElem?
          intro q
          rw[Array.getElem?_setIfInBounds]
          split
          ·rename_i hq
           subst hq
           first
           | (rw[Array.getElem?_eq_getElem hi];rfl)
           | (rw[if_pos hi,Array.getD_eq_getD_getElem?,Array.getElem?_eq_getElem hi];rfl)
          ·rfl
         rw[lset_eq];have:=h.set h1' i;rw[← e]at this;exact this
        ·have hT:T.length≤i:=by have:=h.size;simp at this;omega
         have e:lset T i v=T:=by
          have hset:∀(t:List Value) (k:Nat) (v:Value),lset t k v=t.set k v:=by
           intro t
           induction t with
           | nil=>intro k v;rfl
           | cons y r ih=>intro k v;cases k with | zero=>rfl | succ k=>simp [lset,ih]
          rw[hset,List.set_eq_of_length_le hT]
         rw[e];exact h
     refine key _ _ _ _ ?_ hu (ok.ok.d1 d)
     rw[junkF_eq (by simpa using k4)]
     intro i;have hVi:=hV i
     rw[List.getElem?_toArray]at hVi ⊢
     rw[List.getElem?_map]
     generalize LL[i]?=q at hVi
     generalize tm[i]?=q' at hVi ⊢
     cases hVi with
     | none=>exact .none
     | some h=>exact .some (cl_vr h)
theorem LoopG.fact {L:LoopG X D}(ok:L.OkG) {a:Ans}(hk:Known P a) {n:Nat}{rd:X→RT (Sum X D)}
  (hr:∀x j,(∀a l,L.own x=some (a,l)→allFz a=true)→evC P a.c n (L.headG x j) (gK L.N L.M L.os L.z L.S L.pick)=(rd x).out L.encG):∀{m:Nat} {x:X} {d:D},loopV rd m x=some d→(∀a l,L.own x=some (a,l)→allFz a=true) →
  ∀{t:List Value},t.length=L.N→(∀kv∈(L.os::L.S).zip (L.ownV x::L.sl x),lget t kv.1=kv.2)→∃j,Fact P (.code none (.loop L.c) ⟨t,[],⟨L.hp x++L.ownB x,0,[]⟩⟩) (L.tailG x d j)
 | 0,_,_,h,_,_,_,_=>by cases h
 | m+1,x,d,h,hx,t,ht,hS=>by
  unfold loopV at h
  split at h
  ·rename_i y hy
   obtain ⟨hoy,j,hj⟩:=LoopG.round hN hm ok hk hr hx hy ht hS;have hMx:=ok.ok.h1 x;have hMy:=ok.ok.h1 y;have hMd:=ok.ok.d2 d
   generalize hv':(match L.own y with
     | none=>.slice none 0 0
     | some (_,l)=>.slice (some ⟨L.M+(L.ownB x).length,0,none⟩) l L.sz:Value)=v' at hj
   generalize hT1:sets (junkF L.N j) ((L.os::L.S).zip (v'::L.sl y))=T1 at hj
   have hlT1:T1.length=L.N:=by rw[← hT1];exact len_sets _
   have hgT1:∀kv∈(L.os::L.S).zip (v'::L.sl y),lget T1 kv.1=kv.2:=by
    rw[← hT1]
    exact lget_setsL ok.nd ok.lt (by simp [ok.ok.s1 y]) j
   obtain ⟨j',hj'⟩:=LoopG.fact ok hk hr h hoy (t:=sets (junkF L.N (T1.map lo)) ((L.os::L.S).zip (L.ownV y::L.sl y))) (len_sets _) (lget_setsL ok.nd ok.lt (by simp [ok.ok.s1 y]) _)
   have hmem:∀{l:List Value},l.all (fun v=>notU v&&scT L.M v)=true→∀v∈l,notU v=true∧scT L.M v=true:=by
    intro l hl v hv;rw[List.all_eq_true]at hl;have:=hl v hv;rw[Bool.and_eq_true]at this;exact this
   have hO:∀ob∈L.ownB y,ob.rw=true∧∀n,obSc n ob=true:=by
    rcases own_cases (L:=L) y with ⟨p1,p2,_⟩ | ⟨a',l',p1,p2,_⟩
    ·rw[p2];intro ob hob;simp at hob
    ·rw[p2]
     intro ob hob;simp only[List.mem_cons,List.not_mem_nil,or_false]at hob;subst hob;exact ⟨rfl,own_sc (hoy a' l' p1)⟩
   have hpts:PTs (inS (fun i=>if i<(L.hp y).length then i else i+(L.ownB x).length) (L.hp y++L.ownB y)) T1 (sets (junkF L.N (T1.map lo)) ((L.os::L.S).zip (L.ownV y::L.sl y))):=by
    refine PTs.known hlT1 fun kv hkv=>?_
    rw[List.zip_cons_cons,List.mem_cons]at hkv
    rcases hkv with rfl | hkv
    ·have h1:=hgT1 (L.os,v') (by rw[List.zip_cons_cons];exact List.mem_cons_self ..)
     rcases own_cases (L:=L) y with ⟨p1,p2,p3⟩ | ⟨a',l',p1,p2,p3⟩
     ·rw[p1]at hv'
      simp only at hv';subst hv'
      refine ⟨_,getElem_of_lget h1 rfl,?_⟩
      simp only[p3];exact TR.ground rfl
     ·rw[p1]at hv'
      simp only at hv';subst hv'
      refine ⟨_,getElem_of_lget h1 rfl,?_⟩
      simp only[p3]
      refine TR.slice ⟨by simp [p2,hMy],?_⟩
      simp only[hMy];rw[if_neg (Nat.lt_irrefl _)]
    ·have h1:=hgT1 kv (by rw[List.zip_cons_cons];exact List.mem_cons_of_mem _ hkv)
     have h2:=hmem (ok.ok.s2 y) _ (List.of_mem_zip hkv).2
     refine ⟨_,getElem_of_lget h1 h2.1,TR.sc (n:=L.M) (fun i hi=>⟨by simp [hMy];omega,?_⟩) h2.2⟩
     simp only[hMy];rw[if_pos hi]
   have hlT:∀j,(sets (junkF L.N j) ((L.pick (L.ex d)).zip (L.dv d))).length=L.N:=fun j=>len_sets _
   have hself:∀(T:List Value),T.length=L.N→(∀kv∈(L.pick (L.ex d)).zip (L.dv d),T[kv.1]?=some kv.2)→SlotRs L.M T (sets (junkF L.N (T.map lo)) ((L.pick (L.ex d)).zip (L.dv d))) :=
    fun T hT hk2=>slotRs_known hT fun kv hkv=>⟨hk2 kv hkv,(hmem (ok.ok.d1 d) _ (List.of_mem_zip hkv).2).2⟩
   have hTk:∀j,∀kv∈(L.pick (L.ex d)).zip (L.dv d),(sets (junkF L.N j) ((L.pick (L.ex d)).zip (L.dv d)))[kv.1]?=some kv.2:=fun j kv hkv =>
    getElem_of_lget (lget_setsL (ok.pn d) (ok.pl d) (ok.ok.e3 d).symm j kv hkv) (hmem (ok.ok.d1 d) _ (List.of_mem_zip hkv).2).1
   have hu:=Fact.under hj' (ok.ok.e2 d) (L.ownB x).length (by rw[hMd,hMy]) (by rw[hMy];exact ok.ok.h2 y) (by rw[hMy];exact ok.ok.d3 d) hO hpts (by rw[hMy];exact hself _ (hlT j') (hTk j'))
   have hn:=hj.loopNext hN hm hu
   refine ⟨_,hn.post (T:=sets (junkF L.N ((sets (junkF L.N ((sets (junkF L.N j') ((L.pick (L.ex d)).zip (L.dv d))).map lo)) ((L.pick (L.ex d)).zip (L.dv d))).map lo)) ((L.pick (L.ex d)).zip (L.dv d))) (ok.ok.e2 d) (fun h=>h) ?_ ?_ ?_⟩
   ·simp only[List.length_append,List.length_replicate,hMx,hMd]
    exact Nat.le_refl _
   ·intro b ob hb hlv
    rcases get_app hb with ⟨_,h4⟩ | ⟨_,h4⟩
    ·have:=ok.ok.d3 d
     rw[List.all_eq_true]at this;have:=this ob (List.mem_of_getElem? h4);simp only[boxB,Bool.and_eq_true]at this;exact this.1.2
    ·rw[List.getElem?_replicate]at h4
     split at h4
     ·simp only[Option.some.injEq]at h4;subst h4;cases hlv
     ·cases h4
   ·intro K w0 φ φ' w w' tm hI hF hle hV
    have hH1:∀(b:Nat) (ob:Ob),(L.dh d)[b]?=some ob→(L.dh d++List.replicate (L.ownB x).length Ob.dead++List.replicate (L.ownB y).length Ob.dead)[b]?=some ob∧obSc (L.dh d).length ob=true:=by
     intro b ob hb
     refine ⟨by rw[List.append_assoc,List.getElem?_append_left (lt_of_get hb)];exact hb,?_⟩
     have:=ok.ok.d3 d;rw[List.all_eq_true]at this;have:=this ob (List.mem_of_getElem? hb);simp only[boxB,Bool.and_eq_true]at this;rw[hMd];exact this.2
    have hφ:∀{b:Nat} {y:Nat×Nat×Nat},φ b=some y→b<(L.dh d).length+(L.ownB x).length:=by
     intro b y hb
     rcases Nat.lt_or_ge b (L.hp x++L.ownB x).length with h | h
     ·rw[List.length_append,hMx]at h;omega
     ·rw[hI.top b h]at hb;cases hb
    have hZ:=hF.freeze (k:=(L.ownB x).length) hH1
    refine ⟨_,⟨fun i y hi=>?_,fun B o hB=>(zF_made hF _).le B o (hle.zz B o hB)⟩,?_,hZ⟩
    ·show (if i<(L.dh d).length+(L.ownB x).length then φ' i else none)=some y
     rw[if_pos (hφ hi)];exact hle i y hi
    ·have h5:=(hself _ (hlT _) (hTk ((sets (junkF L.N j') ((L.pick (L.ex d)).zip (L.dv d))).map lo))).vrs hV
     refine VRs.mono (φ:=cut φ' L.M) ⟨fun i y hi=>?_,fun B o hB=>(zF_made hF _).le B o hB⟩ h5
     rcases Nat.lt_or_ge i L.M with h | h
     ·rw[cut_lt h]at hi
      show (if i<(L.dh d).length+(L.ownB x).length then φ' i else none)=some y
      rw[if_pos (by omega)];exact hi
     ·rw[cut_ge h]at hi;cases hi
  ·rename_i d' hd
   simp only[Option.some.injEq]at h;subst h;obtain ⟨j,hj⟩:=LoopG.round hN hm ok hk hr hx hd ht hS;exact ⟨j,Fact.loopDone hN hm hj (ok.ok.e1 d')⟩
  ·cases h
theorem LoopG.known {L:LoopG X D}(ok:L.OkG) {a:Ans}(hk:Known P a) {n:Nat}{rd:X→RT (Sum X D)}
  (hr:∀x j,(∀a l,L.own x=some (a,l)→allFz a=true)→evC P a.c n (L.headG x j) (gK L.N L.M L.os L.z L.S L.pick)=(rd x).out L.encG) (dec:Task→Option (Code×X)) (alt:X→List Value→AT)
  (hd:∀t c x,dec t=some (c,x)→c=L.c→∃T,t=.code none (.loop L.c) ⟨T,[],⟨L.hp x++L.ownB x,0,[]⟩⟩∧T.length=L.N∧∀kv∈(L.os::L.S).zip (L.ownV x::L.sl x),lget T kv.1=kv.2)
  (ha:∀x j o,(alt x j).out=some o→(∀a l,L.own x=some (a,l)→allFz a=true)∧∃d,loopR rd x=some d∧o=L.tailG x d j) :
  ∃J:Task→List Value,Known P (loopAns L.c dec alt J):=by
 classical
 let good:Task→List Value→Prop:=fun t j=>∀c x d,dec t=some (c,x)→c=L.c→(∀a l,L.own x=some (a,l)→allFz a=true)→loopR rd x=some d→Fact P t (L.tailG x d j)
 have hex:∀t,∃j,good t j:=by
  intro t
  cases hdt:dec t with
  | none=>exact ⟨[],fun c x d h=>by rw[hdt]at h;cases h⟩
  | some cx =>
   obtain ⟨c,x⟩:=cx
   by_cases hc:c=L.c
   ·by_cases hx:∀a l,L.own x=some (a,l)→allFz a=true
    ·cases hl:loopR rd x with
     | none=>exact ⟨[],fun c' x' d h _ _ hr=>by rw[hdt]at h;cases h;rw[hl]at hr;cases hr⟩
     | some d =>
      obtain ⟨T,rfl,hT,hS⟩:=hd t c x hdt hc;obtain ⟨m,hm'⟩:=loopR_some hl;obtain ⟨j,hj⟩:=LoopG.fact hN hm ok hk hr hm' hx hT hS
      exact ⟨j,fun c' x' d' h _ _ hr=>by rw[hdt]at h;cases h;rw[hl]at hr;cases hr;exact hj⟩
    ·exact ⟨[],fun c' x' d h _ h' _=>by rw[hdt]at h;cases h;exact absurd h' hx⟩
   ·exact ⟨[],fun c' x' d h h' _ _=>by rw[hdt]at h;cases h;exact absurd h' hc⟩
 refine ⟨fun t=>Classical.choose (hex t),?_⟩
 intro t at' o ht ho
 cases hdt:dec t with
 | none=>simp only[loopAns,hdt]at ht;cases ht
 | some cx =>
  obtain ⟨c,x⟩:=cx;simp only[loopAns,hdt,Option.some.injEq]at ht;subst ht;simp only[AT.out]at ho;obtain ⟨h1,h2⟩:=cond_some ho;obtain ⟨hx,d,h3,rfl⟩:=ha x _ o h2;exact Classical.choose_spec (hex t) c x d hdt (eqCode_eq h1) hx h3
end
end
end
def okLeaf:Leaf→Value→Prop
 | .int q,v=>∃n,v=.int q n∧(Lit.int q n).wf=true
 | .bool,v=>∃b,v=.bool b
 | .str,v=>∃s,v=.string s∧s.size≤maxLen
 | .lst _,_=>False
 | .any,_=>False
def offsOk (P:Program)(d:Nat):Nat→List Field→Bool
 | _,[]=>true
 | o,f::r=>((f.offset == o)&&(P.cellsOf f.type == (leaves P false d f.type).length))&&offsOk P d (o+(leaves P false d f.type).length) r
def flatT (P:Program):Nat→TypeId→Bool
 | 0,_=>false
 | d+1,t =>
  match P.underlying t with
  | some .bool | some (.int _) | some .string=>true
  | some (.struct fs)=>((P.cellsOf t == (leaves P false (d+1) t).length)&&offsOk P d 0 fs.toList)&&fs.toList.all fun f=>flatT P d f.type
  | _=>false
inductive All2 {α β:Type} (R:α→β→Prop):List α→List β→Prop
 | nil:All2 R [] []
 | cons {a:α} {b:β} {l:List α} {m:List β} (h:R a b) (r:All2 R l m):All2 R (a::l) (b::m)
theorem All2.append {α β:Type}{R:α→β→Prop} {l l':List α} {m m':List β}(h:All2 R l m) (h':All2 R l' m'):All2 R (l++l') (m++m'):=by
 induction h with
 | nil=>exact h'
 | cons h _ ih=>exact .cons h ih
theorem All2.len {α β:Type}{R:α→β→Prop}{l:List α}{m:List β}(h:All2 R l m):m.length=l.length:=by
 induction h with
 | nil=>rfl
 | cons _ _ ih=>simp [ih]
theorem All2.get {α β:Type}{R:α→β→Prop}{l:List α}{m:List β}(h:All2 R l m):∀{j:Nat}{a:α},l[j]?=some a→∃b,m[j]?=some b∧R a b:=by
 induction h with
 | nil=>intro j a h;simp at h
 | cons h _ ih =>
  intro j a hj
  cases j with
  | zero=>simp only[List.getElem?_cons_zero,Option.some.injEq]at hj;subst hj;exact ⟨_,rfl,h⟩
  | succ j=>simp only[List.getElem?_cons_succ]at hj ⊢;exact ih hj
section
variable {H:Type}{enc:TypeId×Value→H}{P:Program}{w:World}{base:Nat}{spare:Nat→Bool}{held:Bool}
theorem mapM_all {α β:Type}{f:α→Option β}:∀{l:List α}{r:List β},l.mapM f=some r→∀a∈l,∃b,f a=some b
 | [],_,_,a,ha=>by simp at ha
 | x::l,r,h,a,ha=>by
  rw[List.mapM_cons]at h
  cases hx:f x with
  | none=>rw[hx]at h;cases h
  | some y =>
   rw[hx]at h
   cases hl:l.mapM f with
   | none=>rw[hl]at h;cases h
   | some ys =>
    rcases List.mem_cons.1 ha with rfl | ha
    ·exact ⟨y,hx⟩
    ·exact mapM_all hl a ha
theorem okLeaf_g0 {l:Leaf}{v:Value}(h:okLeaf l v):g0 v=true:=by
 cases l with
 | int q=>obtain ⟨n,rfl,_⟩:=h;rfl
 | bool=>obtain ⟨b,rfl⟩:=h;rfl
 | str=>obtain ⟨s,rfl,_⟩:=h;rfl
 | lst=>exact h.elim
 | any=>exact h.elim
theorem okLeaf_rd {l:Leaf}{c:Array Value}{i:Nat}{v:Value}(hc:c[i]?=some v) (h:okLeaf l v):(rdLeaf c l i).1=true:=by
 have hl:lget c.toList i=v:=by rw[lget_eq,Array.toArray_toList,Array.getD_eq_getD_getElem?,hc];rfl
 cases l with
 | int q=>obtain ⟨n,rfl,_⟩:=h;simp [rdLeaf,isInt,hl]
 | bool=>obtain ⟨b,rfl⟩:=h;simp [rdLeaf,isBool,hl]
 | str=>obtain ⟨s,rfl,_⟩:=h;simp [rdLeaf,isStr,hl]
 | lst=>exact h.elim
 | any=>exact h.elim
theorem rdOk_of {c:Array Value}:∀{L:List Leaf}{x:Nat},(∀(j:Nat) (l:Leaf),L[j]?=some l→∃v,c[x+j]?=some v∧okLeaf l v)→rdOk c L x=true
 | [],_,_=>rfl
 | l::L,x,h=>by
  obtain ⟨v,h1,h2⟩:=h 0 l rfl;simp only[rdOk,Bool.and_eq_true]
  refine ⟨okLeaf_rd h1 h2,rdOk_of fun j l' hj=>?_⟩
  obtain ⟨v',h3,h4⟩:=h (j+1) l' (by simpa using hj)
  exact ⟨v',by rw[show x+1+j=x+(j+1) by omega];exact h3,h4⟩
def GoodL (L:List Leaf)(c:Array Value)(off n:Nat):Prop:=c.toList.all g0=true∧∀k,k<n→rdOk c L (off+k*L.length)=true
theorem cell_some {a:Addr}{v:Value}(h:w.cell? a=some v):a.spot=none∧∃C el fr,w.heap[a.block]?=some (.cells C el fr)∧C[a.off]?=some v:=by
 unfold World.cell? at h
 split at h
 ·rename_i C el fr hh
  split at h
  ·cases h
  ·rename_i hs
   exact ⟨by simpa using hs,C,el,fr,hh,h⟩
 ·cases h
theorem add_at (B off k:Nat):(⟨B,off,none⟩:Addr).add k=⟨B,off+k,none⟩:=by
 unfold Addr.add
 split<;>simp_all
end
def Ty (P:Program):Nat→TypeId→List Value→Prop
 | 0,_,_=>False
 | d+1,t,cs=>match P.underlying t with
  | some .bool=>∃b,cs=[.bool b]
  | some (.int q)=>∃n,cs=[.int q n]∧(Lit.int q n).wf=true
  | some .string=>∃s,cs=[.string s]∧s.size≤maxLen
  | some (.struct fs)=>∃ps:List (List Value),cs=ps.flatten∧All2 (fun (f:Field) p=>Ty P d f.type p) fs.toList ps
  | some (.array n e)=>∃ps:List (List Value),cs=ps.flatten∧ps.length=n∧∀p∈ps,Ty P d e p
  | some (.slice e)=>∃(c:Array Value) (n:Nat),cs=[lstV c 0 n (P.cellsOf e)]∧c.size=n*P.cellsOf e∧n≤maxLen∧∀k,k<n→Ty P d e ((c.toList.drop (k*P.cellsOf e)).take (P.cellsOf e))
  | _=>False
def tyB (P:Program):Nat→TypeId→Bool
 | 0,_=>false
 | d+1,t=>match P.underlying t with
  | some .bool | some (.int _) | some .string=>true
  | some (.struct fs)=>offsB P 0 fs.toList&&(P.cellsOf t == (fs.toList.map fun f=>P.cellsOf f.type).sum)&&fs.toList.all fun f=>tyB P d f.type
  | some (.array n e)=>(P.cellsOf t == n*P.cellsOf e)&&tyB P d e
  | some (.slice e)=>Nat.blt 0 (P.cellsOf e)&&tyB P d e
  | _=>false
where offsB (P:Program):Nat→List Field→Bool
 | _,[]=>true
 | o,f::r=>(f.offset == o)&&offsB P (o+P.cellsOf f.type) r
section
variable {H:Type}{enc:TypeId×Value→H}{P:Program}{w:World}{base:Nat}{held:Bool}
theorem rows_of {z:Nat}{Q:Nat→List Value→Prop}:∀{n:Nat},(∀i,i<n→∃r:List Value,r.length=z∧Q i r)→∃c:List Value,c.length=n*z∧∀i,i<n→Q i ((c.drop (i*z)).take z)
 | 0,_=>⟨[],by simp,fun i hi=>absurd hi (Nat.not_lt_zero _)⟩
 | n+1,h=>by
  obtain ⟨c,h1,h2⟩:=rows_of (n:=n) fun i hi=>h i (by omega)
  obtain ⟨r,h3,h4⟩:=h n (by omega)
  refine ⟨c++r,by rw[List.length_append,h1,h3,Nat.add_mul,Nat.one_mul],fun i hi=>?_⟩
  rcases Nat.lt_or_ge i n with hlt | hge
  ·have hle:i*z+z≤c.length:=by
    rw[h1];have:=Nat.mul_le_mul_right z hlt;rw[Nat.succ_mul]at this;exact this
   rw[List.drop_append_of_le_length (by omega),List.take_append_of_le_length (by rw[List.length_drop];omega)]
   exact h2 i hlt
  ·obtain rfl:i=n:=by omega
   rw[← h1,List.drop_left,← h3,List.take_length];exact h4
theorem fr_fields {z:Nat→Option Obj}{d:Nat}{cs:List Value}(ih:∀(f:TypeId) (q:List Value),tyB P d f=true→(∃fuel x,DataW.trod enc P w base (fun _=>true) held fuel f q=some x)→∃abs,All2 (FR z) abs q∧Ty P d f abs) :
  ∀{fs:List Field} {o:Nat},tyB.offsB P o fs=true→(∀f∈fs,tyB P d f.type=true∧∃fuel x,DataW.trod enc P w base (fun _=>true) held fuel f.type ((cs.drop f.offset).take (P.cellsOf f.type))=some x) →
  ∃ps:List (List Value),All2 (FR z) ps.flatten ((cs.drop o).take (fs.map fun f=>P.cellsOf f.type).sum)∧All2 (fun (f:Field) p=>Ty P d f.type p) fs ps
 | [],o,_,_=>⟨[],by simp;exact .nil,.nil⟩
 | f::r,o,h,hf=>by
  simp only[tyB.offsB,Bool.and_eq_true,beq_iff_eq]at h;obtain ⟨h1,h2⟩:=h;obtain ⟨k1,k2⟩:=hf f (List.mem_cons_self ..);obtain ⟨abs,a1,a2⟩:=ih f.type _ k1 k2
  obtain ⟨ps,b1,b2⟩:=fr_fields ih h2 fun g hg=>hf g (List.mem_cons_of_mem _ hg)
  refine ⟨abs::ps,?_,.cons a2 b2⟩
  rw[List.flatten_cons,List.map_cons,List.sum_cons,List.take_add,List.drop_drop];rw[h1]at a1;exact a1.append b1
theorem fr_rows {z:Nat→Option Obj}{k:Nat}{cs:List Value}{Q:List Value→Prop}:∀{n:Nat},(∀i,i<n→∃abs,All2 (FR z) abs ((cs.drop (i*k)).take k)∧Q abs) →
  ∃ps:List (List Value),ps.length=n∧All2 (FR z) ps.flatten (cs.take (n*k))∧∀p∈ps,Q p
 | 0,_=>⟨[],rfl,by simp;exact .nil,fun p hp=>by simp at hp⟩
 | n+1,h=>by
  obtain ⟨ps,h1,h2,h3⟩:=fr_rows (n:=n) fun i hi=>h i (by omega)
  obtain ⟨r,h4,h5⟩:=h n (by omega)
  refine ⟨ps++[r],by simp [h1],?_,fun p hp=>?_⟩
  ·rw[List.flatten_append,Nat.add_mul,Nat.one_mul,List.take_add]
   simp only[List.flatten_cons,List.flatten_nil,List.append_nil];exact h2.append h4
  ·rw[List.mem_append,List.mem_singleton]at hp
   rcases hp with hp | rfl
   ·exact h3 p hp
   ·exact h5
theorem fr_trod:∀{d:Nat}{t:TypeId}{fuel:Nat}{cs:List Value}{x:DataW H×List MemPlace},tyB P d t=true→DataW.trod enc P w base (fun _=>true) held fuel t cs=some x →
  ∃abs,All2 (FR fun B=>w.heap[B]?) abs cs∧Ty P d t abs
 | 0,_,_,_,_,h,_=>by cases h
 | d+1,t,0,cs,x,_,h=>by simp [DataW.trod]at h
 | d+1,t,fuel+1,cs,x,hf,h=>by
  have h0:=h;unfold tyB at hf
  split at hf
  ·rename_i hu
   unfold DataW.trod at h;rw[hu]at h;simp only at h
   split at h<;>first | (cases h;done) | skip
   all_goals first | (rename_i he;cases he;done) | skip
   exact ⟨_,.cons (.gnd rfl) .nil,by unfold Ty;rw[hu];exact ⟨_,rfl⟩⟩
  ·rename_i q hu
   unfold DataW.trod at h;rw[hu]at h;simp only at h
   split at h<;>first | (cases h;done) | skip
   all_goals first | (rename_i he;cases he;done) | skip
   rename_i k k' n he
   cases he
   split at h
   ·rename_i hc
    obtain ⟨rfl,hw⟩:=hc
    exact ⟨_,.cons (.gnd rfl) .nil,by unfold Ty;rw[hu];exact ⟨_,rfl,hw⟩⟩
   ·cases h
  ·rename_i hu
   unfold DataW.trod at h;rw[hu]at h;simp only at h
   split at h<;>first | (cases h;done) | skip
   all_goals first | (rename_i he;cases he;done) | skip
   split at h
   ·rename_i hc;exact ⟨_,.cons (.gnd rfl) .nil,by unfold Ty;rw[hu];exact ⟨_,rfl,hc⟩⟩
   ·cases h
  ·rename_i fs hu
   simp only[Bool.and_eq_true,beq_iff_eq,List.all_eq_true]at hf;obtain ⟨⟨h1,h2⟩,h3⟩:=hf;unfold DataW.trod at h;rw[hu]at h;simp only at h
   split at h
   ·rename_i hl
    rw[Option.map_eq_some_iff]at h;obtain ⟨ys,hy,_⟩:=h;have h4:=mapM_all hy
    obtain ⟨ps,a1,a2⟩:=fr_fields (z:=fun B=>w.heap[B]?) (d:=d) (cs:=cs) (P:=P) (w:=w) (enc:=enc) (base:=base) (held:=held) (fun f q hq ⟨fu,x,hx⟩=>fr_trod hq hx) h1 fun f hm=>by
     obtain ⟨y,h5⟩:=h4 f hm;exact ⟨h3 f hm,_,_,h5⟩
    rw[List.drop_zero,← h2,← hl,List.take_length]at a1
    exact ⟨_,a1,by unfold Ty;rw[hu];exact ⟨ps,rfl,a2⟩⟩
   ·cases h
  ·rename_i n e hu
   simp only[Bool.and_eq_true,beq_iff_eq]at hf;obtain ⟨h1,h2⟩:=hf;unfold DataW.trod at h;rw[hu]at h;simp only at h
   split at h
   ·rename_i hl
    rw[Option.map_eq_some_iff]at h;obtain ⟨ys,hy,_⟩:=h;have h4:=mapM_all hy
    obtain ⟨ps,a1,a2,a3⟩:=fr_rows (z:=fun B=>w.heap[B]?) (n:=n) (k:=P.cellsOf e) (cs:=cs) (Q:=Ty P d e) fun i hi=>by
     obtain ⟨y,h5⟩:=h4 i (List.mem_range.2 hi);exact fr_trod h2 h5
    rw[← h1,← hl,List.take_length]at a2
    exact ⟨_,a2,by unfold Ty;rw[hu];exact ⟨ps,rfl,a1,a3⟩⟩
   ·cases h
  ·rename_i e hu
   rw[Bool.and_eq_true,Nat.blt_eq]at hf;obtain ⟨hpos,he⟩:=hf
   rcases Go.Deep.open_slice hu h0 with ⟨hcs,_⟩ | ⟨a,len,cap,m,k,D,Pl,hcs,hb,hl,hm,hmm,_,hx⟩
   ·subst hcs
    exact ⟨_,.cons (.lstZ #[] 0 (P.cellsOf e) none) .nil,by unfold Ty;rw[hu];exact ⟨#[],0,rfl,by simp,Nat.zero_le _,fun k hk=>absurd hk (Nat.not_lt_zero _)⟩⟩
   ·subst hcs
    simp only[if_true]at hmm;subst hmm
    by_cases hc0:m=0
    ·subst hc0
     obtain rfl:len=0:=by omega
     exact ⟨_,.cons (.lstZ #[] 0 (P.cellsOf e) (some a)) .nil,by unfold Ty;rw[hu];exact ⟨#[],0,rfl,by simp,Nat.zero_le _,fun k hk=>absurd hk (Nat.not_lt_zero _)⟩⟩
    ·have hrow:∀i,i<m→∃r:List Value,r.length=P.cellsOf e∧(Ty P d e r∧∀j,j<P.cellsOf e→∃u,w.cell? ((a.add (i*P.cellsOf e)).add j)=some u∧FR (fun B=>w.heap[B]?) (r.getD j undef) u):=by
      intro i hi;obtain ⟨cs',h1,h2⟩:=hx i hi
      obtain ⟨h5,h3,h4⟩:=World.cells?_some h1
      obtain ⟨abs,a1,a2⟩:=fr_trod he h2;have hlen:=a1.len;have hcl:cs'.length=P.cellsOf e:=h3
      refine ⟨abs,by omega,a2,fun j hj=>?_⟩
      obtain ⟨u,hu1,hu2⟩:=a1.get (List.getElem?_eq_getElem (show j<abs.length by omega))
      refine ⟨u,?_,?_⟩
      ·rw[h4 j (by omega)];exact hu1
      ·rw[List.getD_eq_getElem?_getD,List.getElem?_eq_getElem (show j<abs.length by omega)];exact hu2
     obtain ⟨c,hc1,hc2⟩:=rows_of (n:=len) fun i hi=>hrow i (by omega)
     have hcz:c.length=len*P.cellsOf e:=hc1
     obtain ⟨r0,hr0,_,hq0⟩:=hrow 0 (by omega)
     obtain ⟨u0,hu0,_⟩:=hq0 0 hpos;obtain ⟨hs,C,el,fr,hh,_⟩:=cell_some hu0;obtain ⟨B,off,spot⟩:=a;simp only[Nat.zero_mul,Addr.add,if_true]at hs hh;subst hs
     have hcell:∀i,i<len→∀j,j<P.cellsOf e→∃u,C[off+(i*P.cellsOf e+j)]?=some u∧FR (fun B=>w.heap[B]?) (c.getD (i*P.cellsOf e+j) undef) u:=by
      intro i hi j hj;obtain ⟨_,hq⟩:=hc2 i hi;obtain ⟨u,k1,k2⟩:=hq j hj;obtain ⟨_,C',el',fr',hh',k3⟩:=cell_some k1;simp only[add_at]at hh' k3;rw[hh]at hh'
      cases hh'
      refine ⟨u,by rw[← Nat.add_assoc];exact k3,?_⟩
      have hle:i*P.cellsOf e+j<c.length:=by
       rw[hcz];have:=Nat.mul_le_mul_right (P.cellsOf e) hi;rw[Nat.succ_mul]at this
       omega
      rw[List.getD_eq_getElem?_getD,List.getElem?_take,if_pos hj,List.getElem?_drop]at k2
      rw[List.getD_eq_getElem?_getD]
      exact k2
     have hall:∀i,i<c.length→∃u,C[off+i]?=some u∧FR (fun B=>w.heap[B]?) (c.getD i undef) u:=by
      intro i hi;rw[hcz]at hi
      have hd:i / P.cellsOf e<len:=Nat.div_lt_of_lt_mul (by rw[Nat.mul_comm];exact hi)
      obtain ⟨u,k1,k2⟩:=hcell _ hd _ (Nat.mod_lt i hpos)
      have e1:i / P.cellsOf e*P.cellsOf e+i % P.cellsOf e=i:=by
       have:=Nat.div_add_mod i (P.cellsOf e);rw[Nat.mul_comm]at this;exact this
      rw[e1]at k1 k2;exact ⟨u,k1,k2⟩
     rcases Nat.eq_zero_or_pos len with rfl | hlen
     ·refine ⟨_,.cons (.lst (c:=#[]) (C:=C) (el:=el) (fr:=fr) (off:=0) (len:=0) (sz:=P.cellsOf e) (cap':=m) (B:=B) (base:=off) hh (by
       obtain ⟨_,C',el',fr',hh',k3⟩:=cell_some hu0;simp only[add_at]at hh' k3;rw[hh]at hh';cases hh'
       have:=(Array.getElem?_eq_some_iff.1 k3).1
       simp;omega) (fun i hi=>absurd hi (Nat.not_lt_zero _)) (Nat.zero_le _) (by simp)) .nil,?_⟩
      unfold Ty;rw[hu];exact ⟨#[],0,rfl,by simp,Nat.zero_le _,fun k hk=>absurd hk (Nat.not_lt_zero _)⟩
     ·refine ⟨_,.cons (.lst (c:=⟨c⟩) (C:=C) (el:=el) (fr:=fr) (off:=0) (len:=len) (sz:=P.cellsOf e) (cap':=m) (B:=B) (base:=off) hh ?_ (fun i hi=>?_) hl (by simp;omega)) .nil,?_⟩
      ·have hlc:0<c.length:=by rw[hcz];exact Nat.mul_pos hlen hpos
       obtain ⟨u,k1,_⟩:=hall (c.length-1) (by omega)
       have:=(Array.getElem?_eq_some_iff.1 k1).1
       simp;omega
      ·obtain ⟨u,k1,k2⟩:=hall i (by simpa using hi)
       rw[Array.getD_eq_getD_getElem?,Array.getD_eq_getD_getElem?,k1]
       rw[List.getD_eq_getElem?_getD]at k2
       simpa using k2
      ·unfold Ty;rw[hu]
       exact ⟨⟨c⟩,len,rfl,by simpa using hcz,by omega,fun k hk=>(hc2 k hk).1⟩
  ·cases hf
theorem fr_one {t:TypeId}{v:Value}{fuel:Nat}{x:DataW H×List MemPlace}(ht:tyB P 20 t=true) (h:DataW.trod enc P w base (fun _=>true) held fuel t [v]=some x):∃a,VR (zAll w) a v∧Ty P 20 t [a]:=by
 obtain ⟨abs,h1,h2⟩:=fr_trod ht h
 cases h1 with
 | cons h3 h4 =>
  cases h4
  exact ⟨_,FR.vr (φ:=zAll w) h3,h2⟩
theorem fr_agg {t:TypeId}{cs:Array Value}{fuel:Nat}{x:DataW H×List MemPlace}(ht:tyB P 20 t=true) (h:DataW.trod enc P w base (fun _=>true) held fuel t cs.toList=some x):∃abs:List Value,VR (zAll w) (.agg ⟨abs⟩) (.agg cs)∧Ty P 20 t abs:=by
 obtain ⟨abs,h1,h2⟩:=fr_trod ht h
 refine ⟨abs,VR.agg (by simpa using h1.len.symm) fun i hi=>?_,h2⟩
 have hi':i<abs.length:=by simpa using hi
 obtain ⟨b,h3,h4⟩:=h1.get (List.getElem?_eq_getElem hi')
 have h5:cs[i]?=some b:=by rw[← Array.getElem?_toList];exact h3
 rw[Array.getD_eq_getD_getElem?,Array.getD_eq_getD_getElem?,h5]
 simp only[List.getElem?_toArray,List.getElem?_eq_getElem hi',Option.getD_some]
 exact FR.vr (φ:=zAll w) h4
theorem flat_fields {d:Nat}(ih:∀(t:TypeId) (cs:List Value),flatT P d t=true→Ty P d t cs→All2 okLeaf (leaves P false d t) cs):∀{fs:List Field}{ps:List (List Value)},
  All2 (fun (f:Field) p=>Ty P d f.type p) fs ps→(∀f∈fs,flatT P d f.type=true)→All2 okLeaf (fs.flatMap fun f=>leaves P false d f.type) ps.flatten
 | [],_,.nil,_=>.nil
 | f::fs,_,.cons h r,hf=>by
  rw[List.flatMap_cons,List.flatten_cons]
  exact (ih _ _ (hf f (List.mem_cons_self ..)) h).append (flat_fields ih r fun g hg=>hf g (List.mem_cons_of_mem _ hg))
theorem ty_flat:∀{d:Nat}{t:TypeId}{cs:List Value},flatT P d t=true→Ty P d t cs→All2 okLeaf (leaves P false d t) cs
 | 0,_,_,h,_=>by cases h
 | d+1,t,cs,hf,h=>by
  unfold flatT at hf;unfold Ty at h
  split at hf
  ·rename_i hu
   rw[hu]at h
   rw[leaves,hu,show leafOf P false t=.bool by unfold leafOf;rw[hu]]
   obtain ⟨b,rfl⟩:=h;exact .cons ⟨_,rfl⟩ .nil
  ·rename_i q hu
   rw[hu]at h
   rw[leaves,hu,show leafOf P false t=.int q by unfold leafOf;rw[hu]]
   obtain ⟨n,rfl,hw⟩:=h;exact .cons ⟨_,rfl,hw⟩ .nil
  ·rename_i hu
   rw[hu]at h
   rw[leaves,hu,show leafOf P false t=.str by unfold leafOf;rw[hu]]
   obtain ⟨n,rfl,hw⟩:=h;exact .cons ⟨_,rfl,hw⟩ .nil
  ·rename_i fs hu
   rw[hu]at h;simp only[Bool.and_eq_true,List.all_eq_true]at hf;obtain ⟨ps,rfl,h2⟩:=h
   have hlv:leaves P false (d+1) t=fs.toList.flatMap fun f=>leaves P false d f.type:=by rw[leaves,hu]
   rw[hlv]
   exact flat_fields (fun t cs h1 h2=>ty_flat h1 h2) h2 hf.2
  ·cases hf
theorem ty_good {d:Nat}{e:TypeId}{c:Array Value}{n:Nat}(hf:flatT P d e=true) (hz:P.cellsOf e=(leaves P false d e).length) (hs:c.size=n*P.cellsOf e) (hpos:0<P.cellsOf e)
  (h:∀k,k<n→Ty P d e ((c.toList.drop (k*P.cellsOf e)).take (P.cellsOf e))):GoodL (leaves P false d e) c 0 n:=by
 have hrow:∀k,k<n→∀j l,(leaves P false d e)[j]?=some l→∃v,c[k*P.cellsOf e+j]?=some v∧okLeaf l v:=by
  intro k hk j l hj;obtain ⟨v,h1,h2⟩:=(ty_flat hf (h k hk)).get hj
  refine ⟨v,?_,h2⟩
  rw[List.getElem?_take]at h1
  split at h1
  ·rw[List.getElem?_drop,Array.getElem?_toList]at h1;exact h1
  ·cases h1
 refine ⟨?_,fun k hk=>rdOk_of fun j l hj=>?_⟩
 ·rw[List.all_eq_true]
  intro u hu;rw[Array.mem_toList_iff,Array.mem_iff_getElem?]at hu;obtain ⟨i,hu⟩:=hu
  have hi:=(Array.getElem?_eq_some_iff.1 hu).1
  rw[hs]at hi
  have hd:i / P.cellsOf e<n:=Nat.div_lt_of_lt_mul (by rw[Nat.mul_comm];exact hi)
  have hm:=Nat.mod_lt i hpos
  obtain ⟨l,hl⟩:∃l,(leaves P false d e)[i % P.cellsOf e]?=some l:=⟨_,List.getElem?_eq_getElem (by omega)⟩
  obtain ⟨v,h1,h2⟩:=hrow _ hd _ l hl
  have e1:i / P.cellsOf e*P.cellsOf e+i % P.cellsOf e=i:=by
   have:=Nat.div_add_mod i (P.cellsOf e);rw[Nat.mul_comm]at this;exact this
  rw[e1,hu]at h1
  cases h1
  exact okLeaf_g0 h2
 ·obtain ⟨v,h1,h2⟩:=hrow k hk j l hj
  exact ⟨v,by rw[Nat.zero_add,← hz];exact h1,h2⟩
end
end
end Go.Gi
namespace Go.Gi
open Go.ChangeShapes Go.WideShapes Go.ChangeAt Go.RowKit
section
variable {P:Program}
theorem tyI {d:Nat}{t:TypeId}{cs:List Value}(hu:P.underlying t=some (.int .i64)) (h:Ty P (d+1) t cs):∃n,cs=[.int .i64 n]∧(Lit.int .i64 n).wf=true:=by
 unfold Ty at h;rw[hu]at h;exact h
theorem tyL {d:Nat}{t e:TypeId}{cs:List Value}(hu:P.underlying t=some (.slice e)) (h:Ty P (d+1) t cs) :
  ∃(c:Array Value) (n:Nat),cs=[lstV c 0 n (P.cellsOf e)]∧c.size=n*P.cellsOf e∧n≤maxLen∧∀k,k<n→Ty P d e ((c.toList.drop (k*P.cellsOf e)).take (P.cellsOf e)):=by
 unfold Ty at h;rw[hu]at h;exact h
theorem tyS {d:Nat}{t:TypeId}{fs:Array Field}{cs:List Value}(hu:P.underlying t=some (.struct fs)) (h:Ty P (d+1) t cs):∃ps:List (List Value),cs=ps.flatten∧All2 (fun (f:Field) p=>Ty P d f.type p) fs.toList ps:=by
 unfold Ty at h;rw[hu]at h;exact h
theorem tyA {d:Nat}{t e:TypeId}{n:Nat}{cs:List Value}(hu:P.underlying t=some (.array n e)) (h:Ty P (d+1) t cs):∃ps:List (List Value),cs=ps.flatten∧ps.length=n∧∀p∈ps,Ty P d e p:=by
 unfold Ty at h;rw[hu]at h;exact h
theorem tyS2 {d:Nat}{t:TypeId}{f0 f1:Field}{cs:List Value}(hu:P.underlying t=some (.struct #[f0,f1])) (h:Ty P (d+1) t cs) :
  ∃p0 p1,cs=p0++p1∧Ty P d f0.type p0∧Ty P d f1.type p1:=by
 obtain ⟨ps,rfl,g⟩:=tyS hu h;clear h
 cases g with
 | cons h1 g =>
 cases g with
 | cons h2 g =>
 cases g
 exact ⟨_,_,by simp,h1,h2⟩
theorem tyS7 {d:Nat}{t:TypeId}{f0 f1 f2 f3 f4 f5 f6:Field}{cs:List Value}(hu:P.underlying t=some (.struct #[f0,f1,f2,f3,f4,f5,f6])) (h:Ty P (d+1) t cs) :
  ∃p0 p1 p2 p3 p4 p5 p6,cs=p0++(p1++(p2++(p3++(p4++(p5++p6)))))∧Ty P d f0.type p0∧Ty P d f1.type p1∧Ty P d f2.type p2∧Ty P d f3.type p3∧Ty P d f4.type p4∧Ty P d f5.type p5∧Ty P d f6.type p6:=by
 obtain ⟨ps,rfl,g⟩:=tyS hu h;clear h
 cases g with
 | cons h1 g =>
 cases g with
 | cons h2 g =>
 cases g with
 | cons h3 g =>
 cases g with
 | cons h4 g =>
 cases g with
 | cons h5 g =>
 cases g with
 | cons h6 g =>
 cases g with
 | cons h7 g =>
 cases g
 exact ⟨_,_,_,_,_,_,_,by simp,h1,h2,h3,h4,h5,h6,h7⟩
structure GL (L:List Leaf) (z:Nat) (c:Array Value) (n:Nat):Prop where
 good:GoodL L c 0 n
 size:c.size=n*z
 few:n≤maxLen
theorem tyG {d z:Nat}{t e:TypeId}{L:List Leaf}{cs:List Value}(hu:P.underlying t=some (.slice e)) (hf:flatT P d e=true) (hz:P.cellsOf e=z) (hL:leaves P false d e=L) (hl:L.length=z) (hp:0<z)
  (h:Ty P (d+1) t cs):∃c n,cs=[lstV c 0 n z]∧GL L z c n:=by
 obtain ⟨c,n,h1,h2,h3,h4⟩:=tyL hu h;subst hz;subst hL;exact ⟨c,n,h1,ty_good hf hl.symm h2 hp h4,h2,h3⟩
end
theorem GL.or {L:List Leaf}{z n:Nat}{c:Array Value}(h:GL L z c n):n=0∨GoodL L c 0 n:=.inr h.good
theorem tyK {P:Program}{q:IntKind}{d:Nat}{t:TypeId}{cs:List Value}(hu:P.underlying t=some (.int q)) (h:Ty P (d+1) t cs):∃n,cs=[.int q n]∧(Lit.int q n).wf=true:=by
 unfold Ty at h;rw[hu]at h;exact h
theorem okWide_arr {P:Program}{w:World}{r:Reach}{base:Nat}{t:TypeId}{v:Value}{n:Nat}{e:TypeId}(ht:P.underlying t=some (.array n e)) (h:Value.okWide P w r base t v):∃cs,v=.agg cs∧cs.size=P.cellsOf t:=by
 simp only[Value.okWide,ht]at h;obtain ⟨cs,rfl,hs,_⟩:=h;exact ⟨cs,rfl,hs⟩
section
variable {P:Program}{H:Type}{enc:TypeId×Value→H}{w:World}{r:Reach}{b0:Nat}{v:Value}{dd:DataW H}{p:List MemPlace}{t e:TypeId}
theorem argS {fs:Array Field}(hu:P.underlying t=some (.struct fs)) (ht:tyB P 20 t=true) (hval:Value.okWide P w r b0 t v) (h:DataW.Trod enc P w 0 (fun _=>true) true t v dd p):∃abs,VR (zAll w) (.agg ⟨abs⟩) v∧Ty P 20 t abs:=by
 obtain ⟨cs,rfl,hcs⟩:=okWide_struct hu hval;obtain ⟨fu,hf⟩:=h;exact fr_agg ht hf
theorem argA {n:Nat}(hu:P.underlying t=some (.array n e)) (ht:tyB P 20 t=true) (hval:Value.okWide P w r b0 t v) (h:DataW.Trod enc P w 0 (fun _=>true) true t v dd p):∃abs,VR (zAll w) (.agg ⟨abs⟩) v∧Ty P 20 t abs:=by
 obtain ⟨cs,rfl,hcs⟩:=okWide_arr hu hval;obtain ⟨fu,hf⟩:=h;exact fr_agg ht hf
end
end Go.Gi
namespace Go.Gi
open Go.RowKit
section
variable {P:Program}{H:Type}{enc:TypeId×Value→H}{w:World}{r:Reach}{b0:Nat}{v:Value}{dd:DataW H}{p:List MemPlace}{t e:TypeId}
open Go.WideShapes in
theorem argSl (hu:P.underlying t=some (.slice e))(ht:tyB P 20 t=true)(hval:Value.okWide P w r b0 t v)(h:DataW.Trod enc P w 0 (fun _=>true) true t v dd p):∃a,VR (zAll w) a v∧Ty P 20 t [a]:=by
 obtain ⟨a0,len,cap,rfl⟩:=okWide_slice hu hval;obtain ⟨fu,hf⟩:=h;exact fr_one ht hf
theorem argRows {z:Nat}{L:List Leaf}(hu:P.underlying t=some (.slice e)) (hf:flatT P 19 e=true) (hz:P.cellsOf e=z) (hL:leaves P false 19 e=L) (hl:L.length=z) (hp:0<z) (ht:tyB P 20 t=true) (hval:Value.okWide P w r b0 t v) (h:DataW.Trod enc P w 0 (fun _=>true) true t v dd p) :
  ∃c n,VR (zAll w) (lstV c 0 n z) v∧GL L z c n:=by
 obtain ⟨a,h1,h2⟩:=argSl hu ht hval h;obtain ⟨c,n,e1,e2⟩:=tyG hu hf hz hL hl hp h2
 obtain rfl:a=lstV c 0 n z:=by simpa using e1
 exact ⟨c,n,h1,e2⟩
end
def iterN {σ:Type}(f:Nat→σ→σ):Nat→Nat→σ→σ
 | 0,_,s=>s
 | m+1,k,s=>iterN f m (k+1) (f k s)
theorem iterN_inv {σ:Type}{f:Nat→σ→σ}{I:σ→Prop}{n:Nat}(hI:∀k s,k<n→I s→I (f k s)):∀m k s,k+m=n→I s→I (iterN f m k s)
 | 0,_,_,_,h=>h
 | m+1,k,s,e,h=>iterN_inv hI m (k+1) _ (by omega) (hI k s (by omega) h)
theorem loop_iter {X D σ:Type}{rd:X→RT (Sum X D)}{S:Nat→σ→X}{f:Nat→σ→σ}{n:Nat}{fin:σ→D}{I:σ→Prop}(hI:∀k s,k<n→I s→I (f k s))
  (hs:∀k s,k<n→I s→(rd (S k s)).val=some (.inl (S (k+1) (f k s)))) (hf:∀s,I s→(rd (S n s)).val=some (.inr (fin s))) :
  ∀m k s,k+m=n→I s→loopR rd (S k s)=some (fin (iterN f m k s))
 | 0,k,s,e,h=>by
  obtain rfl:k=n:=by omega
  exact loopR_done (hf s h)
 | m+1,k,s,e,h=>by
  rw[loopR_next (hs k s (by omega) h)]
  exact loop_iter hI hs hf m (k+1) (f k s) (by omega) (hI k s (by omega) h)
end Go.Gi
namespace Go.Gi
open Go.RowKit
noncomputable section
set_option maxRecDepth 100000
section
variable {α:Type}{row:α→List Value}{z:Nat}
def rowsL (row:α→List Value):List α→List Value
 | []=>[]
 | a::r=>row a++rowsL row r
def arrL (row:α→List Value)(L:List α):Array Value:=⟨rowsL row L⟩
def encL (row:α→List Value)(L:List α):Option (Array Value×Nat):=match L with
 | []=>none
 | a::r=>some (arrL row (a::r),(a::r).length)
theorem rowsL_app:∀L M:List α,rowsL row (L++M)=rowsL row L++rowsL row M
 | [],_=>rfl
 | a::r,M=>by simp only[List.cons_append,rowsL,rowsL_app r M,List.append_assoc]
theorem rowsL_len (hz:∀a,(row a).length=z):∀L:List α,(rowsL row L).length=L.length*z
 | []=>by simp [rowsL]
 | a::r=>by simp only[rowsL,List.length_append,rowsL_len hz r,hz,List.length_cons,Nat.add_mul,Nat.one_mul];omega
theorem size_arrL (hz:∀a,(row a).length=z)(L:List α):(arrL row L).size=L.length*z:=rowsL_len hz L
theorem drop_rowsL (hz:∀a,(row a).length=z):∀(L:List α) (i:Nat) (h:i<L.length),∃r,(rowsL row L).drop (i*z)=row L[i]++r
 | a::r,0,_=>⟨rowsL row r,by simp [rowsL]⟩
 | a::r,i+1,h=>by
  obtain ⟨q,e⟩:=drop_rowsL hz r i (by simpa using h)
  refine ⟨q,?_⟩
  rw[Nat.add_mul,Nat.one_mul,Nat.add_comm]
  show (row a++rowsL row r).drop (z+i*z)=_
  rw[← List.drop_drop,List.drop_left' (hz a)];exact e
theorem lget_drop (l:List Value)(i j:Nat):lget (l.drop i) j=lget l (i+j):=by
 rw[lget_eq,lget_eq]
 simp [Array.getD_eq_getD_getElem?,List.getElem?_drop]
theorem lget_left (l m:List Value)(j:Nat)(h:j<l.length):lget (l++m) j=lget l j:=by
 rw[lget_eq,lget_eq]
 simp [Array.getD_eq_getD_getElem?,List.getElem?_append_left h]
theorem lget_arrL (hz:∀a,(row a).length=z)(L:List α) {i j:Nat}(h:i<L.length) (hj:j<z):lget (arrL row L).toList (i*z+j)=lget (row L[i]) j:=by
 obtain ⟨r,e⟩:=drop_rowsL hz L i h
 show lget (rowsL row L) (i*z+j)=_
 rw[← lget_drop,e,lget_left _ _ _ (by rw[hz];exact hj)]
theorem getInt_arrL (hz:∀a,(row a).length=z)(L:List α) {i j:Nat}(h:i<L.length) (hj:j<z):getInt (arrL row L) (i*z+j)=getInt ⟨row L[i]⟩ j:=by
 simp only[getInt,lget_arrL hz L h hj]
theorem isInt_arrL (hz:∀a,(row a).length=z)(L:List α) {q:IntKind}{i j:Nat}(h:i<L.length) (hj:j<z):isInt q (arrL row L) (i*z+j)=isInt q ⟨row L[i]⟩ j:=by
 simp only[isInt,lget_arrL hz L h hj]
theorem rdLeaf_arrL (hz:∀a,(row a).length=z)(L:List α) {l:Leaf}{i j:Nat}(h:i<L.length) (hj:j<z):(rdLeaf (arrL row L) l (i*z+j)).1=(rdLeaf ⟨row L[i]⟩ l j).1:=by
 have g:=lget_arrL hz L h hj;have g2:(arrL row L).size=L.length*z:=size_arrL hz L
 cases l with
 | int q=>simp only[rdLeaf,isInt,g]
 | bool=>simp only[rdLeaf,isBool,g]
 | str=>simp only[rdLeaf,isStr,g]
 | lst y=>simp only[rdLeaf,isLsz,g]
 | any =>
  have h1:i*z+j<L.length*z:=by
   have:(i+1)*z≤L.length*z:=Nat.mul_le_mul_right z h;rw[Nat.add_mul,Nat.one_mul]at this
   omega
  have h3:(rowsL row L).length=L.length*z:=rowsL_len hz L;simp only[rdLeaf,inArr,arrL,h3,hz];have k1:Nat.blt (i*z+j) (L.length*z)=true:=Nat.ble_eq_true_of_le h1;have k2:Nat.blt j z=true:=Nat.ble_eq_true_of_le hj;rw[k1,k2]
theorem rdOk_arrL (hz:∀a,(row a).length=z)(L:List α) {i:Nat}(h:i<L.length):∀(ls:List Leaf) (j:Nat),j+ls.length≤z→rdOk (arrL row L) ls (i*z+j)=rdOk ⟨row L[i]⟩ ls j
 | [],_,_=>rfl
 | l::r,j,hl=>by
  simp only[List.length_cons]at hl
  simp only[rdOk,rdLeaf_arrL hz L h (show j<z by omega)]
  rw[Nat.add_assoc,rdOk_arrL hz L h r (j+1) (by omega)]
theorem allFz_arrL (hf:∀a,(row a).all fz0=true):∀L:List α,allFz (arrL row L)=true:=by
 intro L;simp only[allFz,arrL]
 induction L with
 | nil=>rfl
 | cons a r ih=>simp only[rowsL,List.all_append,ih,hf,Bool.and_self]
theorem apB_arrL (hz:∀a,(row a).length=z)(L:List α)(b:α):apB (Array.extract (arrL row L) 0 (0+L.length*z)) ⟨row b⟩=arrL row (L++[b]):=by
 simp only[apB,arrL,Nat.zero_add,List.extract_toArray,rowsL_app];rw[List.extract_eq_take_drop];simp only[List.drop_zero,Nat.sub_zero,rowsL,List.append_nil]
 rw[List.take_of_length_le (by rw[rowsL_len hz];exact Nat.le_refl _)]
 simp
theorem encL_app (L:List α)(b:α):encL row (L++[b])=some (arrL row (L++[b]),L.length+1):=by
 cases L with
 | nil=>rfl
 | cons a r=>simp [encL]
end
end
end Go.Gi
namespace Go.Gi
noncomputable section
def fst1 (E:Nat→Int):Nat→Nat→Option (Nat×Int)
 | 0,_=>none
 | m+1,k=>if E k=0 then fst1 E m (k+1) else some (k,E k)
theorem fst1_congr {E E':Nat→Int}{n:Nat}(h:∀k,k<n→E k=E' k):∀m k,k+m=n→fst1 E m k=fst1 E' m k
 | 0,_,_=>rfl
 | m+1,k,e=>by
  unfold fst1
  rw[h k (by omega),fst1_congr h m (k+1) (by omega)]
theorem loop_fst {X D:Type}{rd:X→RT (Sum X D)}{S:Nat→X}{E:Nat→Int}{n:Nat}{err:Nat→Int→D}{fin:D}
  (hs:∀k,k<n→(rd (S k)).val=some (if E k=0 then .inl (S (k+1)) else .inr (err k (E k)))) (hf:(rd (S n)).val=some (.inr fin)) :
  ∀m k,k+m=n→loopR rd (S k)=some (match fst1 E m k with | some (i,r)=>err i r | none=>fin)
 | 0,k,e=>by
  obtain rfl:k=n:=by omega
  exact loopR_done hf
 | m+1,k,e=>by
  have h:=hs k (by omega)
  unfold fst1
  by_cases he:E k=0
  ·rw[if_pos he]at h ⊢
   exact (loopR_next h).trans (loop_fst hs hf m (k+1) (by omega))
  ·rw[if_neg he]at h ⊢
   exact loopR_done h
end
end Go.Gi
namespace Go.Proofs.Ytkcahhbhfmdpmaa
open Go.Gi Go.RowKit
theorem noNG_of {P : Program} (h : (P.funcs.toList.all fun fn=>!(fn.name == "runtime.NumGoroutine")) = true) : NoNG P:=by
 intro f fn hf _;rw[List.all_eq_true]at h
 have:=h fn (by rw[Array.mem_toList_iff];exact Array.mem_of_getElem? hf)
 simpa using this
theorem noNG:NoNG Try.prog:=noNG_of (by decide +kernel)
theorem mixed:Try.prog.follows .mixedOrders=true:=by decide +kernel
end Go.Proofs.Ytkcahhbhfmdpmaa
namespace Go.Proofs.Ytkcahhbhfmdpmaa.Old
end Go.Proofs.Ytkcahhbhfmdpmaa.Old
namespace Go.Proofs.Ytkcahhbhfmdpmaa
open Go.ChangeShapes Go.WideShapes Go.ChangeAt Go.RowKit Go.Gi
set_option maxRecDepth 100000
def I4:List Leaf:=[.int .i64,.int .i64,.int .i64,.int .i64]
def I5:List Leaf:=[.int .i64,.int .i64,.int .i64,.int .i64,.int .i64]
theorem own:ownKnob Try.prog.godebug=none:=by kernel_rfl
theorem laidOut:laidOutB Try.prog=true:=by kernel_rfl
theorem flat82:flatT Try.prog 18 82=true:=by kernel_rfl
theorem leaves82:leaves Try.prog false 18 82=I4:=by kernel_rfl
theorem cells82:Try.prog.cellsOf 82=4:=by kernel_rfl
theorem flat77:flatT Try.prog 18 77=true:=by kernel_rfl
theorem leaves77:leaves Try.prog false 18 77=I5:=by kernel_rfl
theorem cells77:Try.prog.cellsOf 77=5:=by kernel_rfl
theorem tyB31:tyB Try.prog 20 31=true:=by kernel_rfl
theorem tySpan {d:Nat}{cs:List Value}(h:Ty Try.prog (d+1+1) 27 cs):∃a b,cs=[.int .i64 a,.int .i64 b]∧(Lit.int .i64 a).wf=true∧(Lit.int .i64 b).wf=true:=by
 obtain ⟨p0,p1,rfl,h0,h1⟩:=tyS2 Try.underlying27 h;obtain ⟨a,rfl,wa⟩:=tyI Try.underlying3 h0;obtain ⟨b,rfl,wb⟩:=tyI Try.underlying3 h1;exact ⟨a,b,rfl,wa,wb⟩
theorem tyPlace {d:Nat}{cs:List Value}(h:Ty Try.prog (d+1+1) 25 cs):∃a b,cs=[.int .i64 a,.int .i64 b]∧(Lit.int .i64 a).wf=true∧(Lit.int .i64 b).wf=true:=by
 obtain ⟨p0,p1,rfl,h0,h1⟩:=tyS2 Try.underlying25 h;obtain ⟨a,rfl,wa⟩:=tyI Try.underlying3 h0;obtain ⟨b,rfl,wb⟩:=tyI Try.underlying3 h1;exact ⟨a,b,rfl,wa,wb⟩
theorem tyArea {d:Nat}{cs:List Value}(h:Ty Try.prog (d+1+1+1) 29 cs):∃a b c e,cs=[.int .i64 a,.int .i64 b,.int .i64 c,.int .i64 e]∧(Lit.int .i64 a).wf=true∧(Lit.int .i64 b).wf=true∧(Lit.int .i64 c).wf=true∧(Lit.int .i64 e).wf=true:=by
 obtain ⟨p0,p1,rfl,h0,h1⟩:=tyS2 Try.underlying29 h;obtain ⟨a,b,rfl,wa,wb⟩:=tySpan h0;obtain ⟨c,e,rfl,wc,we⟩:=tySpan h1;exact ⟨a,b,c,e,rfl,wa,wb,wc,we⟩
def Amt (abs:List Value):Prop:=∃c1 n1 c2 n2 x y a b c e g u z,abs=[lstV c1 0 n1 4,lstV c2 0 n2 5,.int .i64 x,.int .i64 y,.int .i64 a,.int .i64 b,.int .i64 c,.int .i64 e,.int .i64 g,.int .i64 u,.int .i64 z]∧GL I4 4 c1 n1∧GL I5 5 c2 n2
set_option maxRecDepth 100000 in
theorem amt {abs:List Value}(h:Ty Try.prog 20 31 abs):Amt abs:=by
 obtain ⟨p0,p1,p2,p3,p4,p5,p6,rfl,h0,h1,h2,h3,h4,h5,h6⟩:=tyS7 Try.underlying31 h
 obtain ⟨c1,n1,rfl,g1⟩:=tyG Try.underlying22 flat82 cells82 leaves82 rfl (by decide) h0
 obtain ⟨c2,n2,rfl,g2⟩:=tyG Try.underlying23 flat77 cells77 leaves77 rfl (by decide) h1
 obtain ⟨x,y,rfl,_,_⟩:=tyPlace h2;obtain ⟨a,b,c,e,rfl,_,_,_,_⟩:=tyArea h3;obtain ⟨g,rfl,_⟩:=tyI Try.underlying3 h4;obtain ⟨u,rfl,_⟩:=tyI Try.underlying3 h5;obtain ⟨z,rfl,_⟩:=tyI Try.underlying3 h6;exact ⟨c1,n1,c2,n2,x,y,a,b,c,e,g,u,z,rfl,g1,g2⟩
section
variable {H:Type}{enc:TypeId×Value→H}{w:World}{r:Reach}{b0:Nat}{v:Value}{dd:DataW H}{p:List MemPlace}
set_option maxRecDepth 100000 in
theorem amtArg (hval:Value.okWide Try.prog w r b0 31 v)(h:DataW.Trod enc Try.prog w 0 (fun _=>true) true 31 v dd p):∃abs,VR (zAll w) (.agg ⟨abs⟩) v∧Amt abs:=by
 obtain ⟨abs,h1,h2⟩:=argS Try.underlying31 tyB31 hval h;exact ⟨abs,h1,amt h2⟩
end
end Go.Proofs.Ytkcahhbhfmdpmaa
