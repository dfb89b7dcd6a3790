/- Part 6 of the texts below the claim. Conditions: none. -/
import Derived.Test.YtnagkgghkoolpaaGreatMg5
import Derived.Test.YtnagkgghkoolpaaGreatMg4
import Derived.Test.YtnagkgghkoolpaaGreatProg
set_option linter.unusedVariables false
set_option linter.unusedSimpArgs false
namespace Go.Gi
open Go.RowKit
noncomputable section
def obKept (n:Nat) (ob ob':Ob):Bool:=(!ob'.live||ob.live)&&(!ob'.rw||ob.rw)&&obSc n ob'
inductive ObsKept (n:Nat):List Ob→List Ob→Prop
  | nil:ObsKept n [] []
  | cons {o o':Ob} {l l':List Ob} (h:obKept n o o'=true) (r:ObsKept n l l'):ObsKept n (o::l) (o'::l')
theorem ObsKept.len {n:Nat} {l l':List Ob}(h:ObsKept n l l'):l'.length=l.length:=by
  induction h with
  | nil=>rfl
  | cons _ _ ih=>simp [ih]
theorem ObsKept.get {n:Nat} {l l':List Ob}(h:ObsKept n l l'):∀{b:Nat} {ob':Ob},l'[b]?=some ob'→∃ob,l[b]?=some ob∧(ob'.live=true→ob.live=true)∧(ob'.rw=true→ob.rw=true)∧obSc n ob'=true:=by
  induction h with
  | nil=>intro b ob' h;simp at h
  | @cons o o' l l' h _ ih =>
    intro b ob' hb
    cases b with
    | zero =>
      simp only [List.getElem?_cons_zero,Option.some.injEq]at hb
      subst hb
      simp only [obKept,Bool.and_eq_true,Bool.or_eq_true,Bool.not_eq_true']at h
      refine ⟨o,rfl,fun hl=>?_,fun hr=>?_,h.2⟩
      · rcases h.1.1 with h1 | h1
        · rw [hl]at h1;cases h1
        · exact h1
      · rcases h.1.2 with h1 | h1
        · rw [hr]at h1;cases h1
        · exact h1
    | succ b =>
      simp only [List.getElem?_cons_succ]at hb ⊢
      exact ih hb
section
variable {P:Program}{K:Nat→Prop} {w0 w w':World} {φ φ':Phi}{H0 G H1 X:List Ob}
def RwAt (φ:Phi)(H:List Ob)(k:Nat):Prop:=∃(b:Nat) (ob:Ob) (x:Nat×Nat×Nat),H[b]?=some ob∧ob.rw=true∧φ b=some x∧x.1=k
theorem get_left {b:Nat}{ob:Ob}(h:H0[b]?=some ob):(H0++G)[b]?=some ob:=by
  rw [List.getElem?_append_left (List.getElem?_eq_some_iff.1 h).1];exact h
theorem Inv.narrow (hI:Inv K w0 φ (H0++G) w)(hsc:∀(b:Nat)(ob:Ob),H0[b]?=some ob→obSc H0.length ob=true) :
    Inv (fun k=>k<w.heap.size∧¬RwAt φ H0 k∧φ.z k=none) w (cut φ H0.length) H0 w:=by
  refine ⟨?_,?_,?_,fun _ _=>rfl,fun _ h=>h.1,Nat.le_refl _,rfl,rfl,rfl,fun b hb=>cut_ge hb,hI.frz,?_,fun k hk=>hk.2.2⟩
  · intro b ob hb hl
    obtain ⟨B,base,tot,h1,h2⟩:=hI.obs b ob (get_left hb) hl
    exact ⟨B,base,tot,(cut_lt (List.getElem?_eq_some_iff.1 hb).1).trans h1,obSc_cut (hsc b ob hb) h2⟩
  · intro b b' ob ob' x y hne hb hb' hrw hl hx hy
    rw [cut_lt (List.getElem?_eq_some_iff.1 hb).1]at hx
    rw [cut_lt (List.getElem?_eq_some_iff.1 hb').1]at hy
    exact hI.sep b b' ob ob' x y hne (get_left hb) (get_left hb') hrw hl hx hy
  · intro b ob x hb hrw hx hk
    rw [cut_lt (List.getElem?_eq_some_iff.1 hb).1]at hx
    exact hk.2.1 ⟨b,ob,x,hb,hrw,hx,rfl⟩
  · intro b ob x hb hrw hx
    rw [cut_lt (List.getElem?_eq_some_iff.1 hb).1]at hx
    exact hI.zsep b ob x (get_left hb) hrw hx
theorem Inv.widen (hI:Inv K w0 φ (H0++G) w)(hF:Inv (fun k=>k<w.heap.size∧¬RwAt φ H0 k∧φ.z k=none) w φ' (H1++X) w')(hle:le (cut φ H0.length) φ')(hk:ObsKept H0.length H0 H1) :
    ∃φ'',le φ φ''∧le (cut φ' H0.length) φ''∧Inv K w0 φ'' (H1++G) w':=by
  have hlen:=hk.len
  refine ⟨⟨fun b=>if b<H0.length then φ' b else φ b,φ'.z⟩,⟨?_,hle.zz⟩,⟨?_,fun _ _ h=>h⟩,?_⟩
  · intro b x hx
    show (if b<H0.length then φ' b else φ b)=some x
    split
    · rename_i hlt;exact hle b x ((cut_lt hlt).trans hx)
    · exact hx
  · intro b x hx
    show (if b<H0.length then φ' b else φ b)=some x
    split
    · rename_i hlt;rwa [cut_lt hlt]at hx
    · rename_i hge;rw [cut_ge (by omega)]at hx;cases hx
  have hφlt:∀{b:Nat},b<H0.length→(if b<H0.length then φ' b else φ b)=φ' b:=fun h=>if_pos h
  have hφge:∀{b:Nat},¬b<H0.length→(if b<H0.length then φ' b else φ b)=φ b:=fun h=>if_neg h
  have hleφ:le φ ⟨fun b=>if b<H0.length then φ' b else φ b,φ'.z⟩:=by
    refine ⟨?_,hle.zz⟩
    intro b x hx
    show (if b<H0.length then φ' b else φ b)=some x
    split
    · rename_i hlt;exact hle b x ((cut_lt hlt).trans hx)
    · exact hx
  have hlec:le (cut φ' H0.length) ⟨fun b=>if b<H0.length then φ' b else φ b,φ'.z⟩:=by
    refine ⟨?_,fun _ _ h=>h⟩
    intro b x hx
    show (if b<H0.length then φ' b else φ b)=some x
    split
    · rename_i hlt;rwa [cut_lt hlt]at hx
    · rename_i hge;rw [cut_ge (by omega)]at hx;cases hx
  have hcase:∀{b:Nat} {ob:Ob},(H1++G)[b]?=some ob→(b<H0.length∧H1[b]?=some ob)∨(¬b<H0.length∧(H0++G)[b]?=some ob):=by
    intro b ob hb
    by_cases hlt:b<H0.length
    · rw [List.getElem?_append_left (by omega)]at hb;exact .inl ⟨hlt,hb⟩
    · rw [List.getElem?_append_right (by omega)]at hb
      refine .inr ⟨hlt,?_⟩
      rw [List.getElem?_append_right (by omega),← hlen];exact hb
  have hold:∀k,k<w.heap.size→¬RwAt φ H0 k→w'.heap[k]?=w.heap[k]?:=fun k h1 h2=>by
    cases hz:φ.z k with
    | none=>exact hF.keep k ⟨h1,h2,hz⟩
    | some o=>rw [hI.frz k o hz,hF.frz k o (hle.zz k o hz)]
  have hwas:∀{b:Nat} {ob:Ob} {x:Nat×Nat×Nat},H1[b]?=some ob→ob.live=true→φ' b=some x→φ b=some x:=by
    intro b ob x hb hl hx
    obtain ⟨ob0,h0,hl0,_,_⟩:=hk.get hb
    obtain ⟨B,base,tot,h1,_⟩:=hI.obs b ob0 (get_left h0) (hl0 hl)
    have:=hle b _ ((cut_lt (List.getElem?_eq_some_iff.1 h0).1).trans h1)
    rw [hx]at this
    rw [h1,this]
  refine ⟨?_,?_,?_,?_,hI.klt,Nat.le_trans hI.size hF.size,hF.os.trans hI.os,hF.tape.trans hI.tape,hF.output.trans hI.output,?_,hF.frz,?_,?_⟩
  · intro b ob hb hl
    rcases hcase hb with ⟨hlt,h1⟩ | ⟨hge,h1⟩
    · obtain ⟨B,base,tot,h2,h3⟩:=hF.obs b ob (get_left h1) hl
      obtain ⟨_,_,_,_,hsc⟩:=hk.get h1
      exact ⟨B,base,tot,(hφlt hlt).trans h2,(obSc_cut hsc h3).keep hlec rfl⟩
    · obtain ⟨B,base,tot,h2,h3⟩:=hI.obs b ob h1 hl
      refine ⟨B,base,tot,(hφge hge).trans h2,h3.keep hleφ (hold B (h3.lt hl) ?_)⟩
      rintro ⟨b0,ob0,x,h4,h5,h6,h7⟩
      have hb0:=(List.getElem?_eq_some_iff.1 h4).1
      exact hI.sep b0 b ob0 ob x _ (by omega) (get_left h4) h1 h5 hl h6 h2 h7
  · intro b b' ob ob' x y hne hb hb' hrw hl hx hy
    rcases hcase hb with ⟨hlt,h1⟩ | ⟨hge,h1⟩
    · simp only [hφlt hlt]at hx
      obtain ⟨ob0,h0,_,hrw0,_⟩:=hk.get h1
      have hx0:=hwas h1 (Ob.live_of_rw hrw) hx
      rcases hcase hb' with ⟨hlt',h2⟩ | ⟨hge',h2⟩
      · simp only [hφlt hlt']at hy
        exact hF.sep b b' ob ob' x y hne (get_left h1) (get_left h2) hrw hl hx hy
      · simp only [hφge hge']at hy
        exact hI.sep b b' ob0 ob' x y hne (get_left h0) h2 (hrw0 hrw) hl hx0 hy
    · simp only [hφge hge]at hx
      rcases hcase hb' with ⟨hlt',h2⟩ | ⟨hge',h2⟩
      · simp only [hφlt hlt']at hy
        obtain ⟨ob0,h0,hl0,_,_⟩:=hk.get h2
        exact hI.sep b b' ob ob0 x y hne h1 (get_left h0) hrw (hl0 hl) hx (hwas h2 hl hy)
      · simp only [hφge hge']at hy
        exact hI.sep b b' ob ob' x y hne h1 h2 hrw hl hx hy
  · intro b ob x hb hrw hx
    rcases hcase hb with ⟨hlt,h1⟩ | ⟨hge,h1⟩
    · simp only [hφlt hlt]at hx
      obtain ⟨ob0,h0,_,hrw0,_⟩:=hk.get h1
      exact hI.prot b ob0 x (get_left h0) (hrw0 hrw) (hwas h1 (Ob.live_of_rw hrw) hx)
    · simp only [hφge hge]at hx
      exact hI.prot b ob x h1 hrw hx
  · intro k hkk
    have h1:=hI.klt k hkk
    have h2:=hI.size
    rw [hold k (by omega) ?_]
    · exact hI.keep k hkk
    · rintro ⟨b0,ob0,x,h4,h5,h6,h7⟩
      exact hI.prot b0 ob0 x (get_left h4) h5 h6 (h7 ▸ hkk)
  · intro b hb
    simp only [List.length_append]at hb
    have hge:¬b<H0.length:=by omega
    simp only [hφge hge]
    exact hI.top b (by simp only [List.length_append];omega)
  · intro b ob x hb hrw hx
    rcases hcase hb with ⟨hlt,h1⟩ | ⟨hge,h1⟩
    · simp only [hφlt hlt]at hx
      exact hF.zsep b ob x (get_left h1) hrw hx
    · simp only [hφge hge]at hx
      obtain ⟨B,base,tot,h2,h3⟩:=hI.obs b ob h1 (Ob.live_of_rw hrw)
      rw [h2]at hx;cases hx
      refine hF.zk B ⟨h3.lt (Ob.live_of_rw hrw),?_,hI.zsep b ob _ h1 hrw h2⟩
      rintro ⟨b0,ob0,y,h4,h5,h6,h7⟩
      have hb0:=(List.getElem?_eq_some_iff.1 h4).1
      exact hI.sep b0 b ob0 ob y _ (by omega) (get_left h4) h1 h5 (Ob.live_of_rw hrw) h6 h2 h7
  · intro k hkk
    have h1:=hI.klt k hkk
    have h2:=hI.size
    refine hF.zk k ⟨by omega,?_,hI.zk k hkk⟩
    rintro ⟨b0,ob0,x,h4,h5,h6,h7⟩
    exact hI.prot b0 ob0 x (get_left h4) h5 h6 (h7 ▸ hkk)
end
def fz0:Value→Bool
  | .func (.via 0 ⟨[]⟩ 0 _) _ _=>true
  | v=>g0 v
def allFz (c:Array Value):Bool:=c.toList.all fz0
def frz1 (m z:Nat)(bl:List Ob)(v:Value)(k:Value→Option Out):Option Out :=
  match v with
  | .slice (some ⟨b,off,none⟩) len sz =>
    match Nat.ble m b,nthO bl b with
    | true,some (.cells c false)=>cond (allFz c&&decide (off+len*sz≤c.size)) (k (lstV c off len sz)) none
    | _,_=>none
  | .pointer (some ⟨b,off,none⟩) =>
    match Nat.ble m b,nthO bl b with
    | true,some (.cells c false)=>cond (allFz c) (k (dptV c off)) none
    | _,_=>none
  | .slice none 0 0=>k (lstV ⟨[]⟩ 0 0 z)
  | v=>if fz0 v then k v else none
def frzL (m z:Nat)(bl:List Ob):List Value→(List Value→Option Out)→Option Out
  | [],k=>k []
  | v::r,k=>frz1 m z bl v fun v=>frzL m z bl r fun r=>k (v::r)
def frzA (m z:Nat)(bl:List Ob)(v:Value)(k:Value→Option Out):Option Out :=
  match v with
  | .agg ⟨l⟩=>frzL m z bl l fun l=>k (.agg ⟨l⟩)
  | .iface t v=>if gA v then k (.iface t v) else none
  | .func (.func g) ⟨l⟩ ⟨n⟩=>frzL m z bl l fun l=>frzL m z bl n fun n=>k (.func (.func g) ⟨l⟩ ⟨n⟩)
  | v=>frz1 m z bl v k
def frzT (bl:List Ob):List Nat→List Value→(List Value→Option Out)→Option Out
  | _,[],k=>k []
  | zs,v::r,k=>frzA 0 (zs.headD 0) bl v fun v=>frzT bl zs.tail r fun r=>k (v::r)
def frzV (zs:List Nat)(bl:List Ob)(v:Value)(k:Value→Option Out):Option Out :=
  match v with
  | .tuple ⟨x::l⟩=>frzT bl zs (x::l) fun l=>k (.tuple ⟨l⟩)
  | v=>frzA 0 (zs.headD 0) bl v k
def frzK (zs:List Nat):Kn
  | .ret v h=>frzV zs h.bl v fun v=>some (.ret v ⟨[],0,[]⟩)
  | _=>none
structure Made (m:Nat) (z:Nat→Option Obj) (φ:Phi) (X:List Ob) (w:World):Prop where
  le:∀B o,φ.z B=some o→z B=some o
  obs:∀b c,X[b]?=some (.cells c false)→m≤b→∃B base tot C el fr,φ b=some (B,base,tot)∧z B=some (.cells C el fr)∧base+c.size≤C.size∧(∀(i:Nat) (v:Value),c[i]?=some v→∃v',C[base+i]?=some v'∧VR φ v v')
section
variable {K:Nat→Prop}{w0 w:World} {φ:Phi}{X:List Ob}{z:Nat→Option Obj}{m:Nat}
theorem fz0_fr (h:Made m z φ X w) {v v':Value}(hf:fz0 v=true) (hv:VR φ v v'):FR z v v':=by
  unfold fz0 at hf
  split at hf
  · cases hv with
    | fn hg=>cases hg
    | fz hh=>exact hh.mono h.le
  · rw [g0_eq hf hv];exact .gnd hf
theorem cells_fr (h:Made m z φ X w) {c C:Array Value}{base:Nat}(hc:allFz c=true) (h2:∀(i:Nat) (v:Value),c[i]?=some v→∃v',C[base+i]?=some v'∧VR φ v v') :
    ∀i,i<c.size→FR z (c.getD i undef) (C.getD (base+i) undef):=by
  intro i hi
  have h1:c[i]?=some c[i]:=Array.getElem?_eq_getElem hi
  obtain ⟨v',h3,h4⟩:=h2 i _ h1
  rw [Array.getD_eq_getD_getElem?,Array.getD_eq_getD_getElem?,h1,h3]
  unfold allFz at hc
  rw [List.all_eq_true]at hc
  exact fz0_fr h (hc _ (by rw [Array.mem_toList_iff];exact Array.mem_of_getElem? h1)) h4
theorem frz1_ok {y:Nat}(h:Made m z φ X w) {v v':Value}{k:Value→Option Out}{r:Out}(hk:frz1 m y X v k=some r) (hv:VR φ v v'):∃u,FR z u v'∧k u=some r:=by
  unfold frz1 at hk
  split at hk
  · rename_i b off len sz
    rw [nthO_eq]at hk
    split at hk
    · rename_i c hmb hb
      obtain ⟨h1,h2⟩:=cond_some hk
      simp only [Bool.and_eq_true,decide_eq_true_eq]at h1
      obtain ⟨B,base,tot,C,el,fr,h3,hz,h8,h6⟩:=h.obs b _ hb (Nat.le_of_ble_eq_true hmb)
      cases hv with
      | sliceZ _ a' k'=>exact ⟨_,.lstZ _ _ _ _,h2⟩
      | slice hφ hl hc =>
        rw [h3]at hφ;cases hφ
        exact ⟨_,.lst hz h8 (cells_fr h h1.1 h6) hl h1.2,h2⟩
    · cases hk
  · rename_i b off
    rw [nthO_eq]at hk
    split at hk
    · rename_i c hmb hb
      obtain ⟨h1,h2⟩:=cond_some hk
      obtain ⟨B,base,tot,C,el,fr,h3,hz,h8,h6⟩:=h.obs b _ hb (Nat.le_of_ble_eq_true hmb)
      cases hv with
      | ptr hφ =>
        rw [h3]at hφ;cases hφ
        exact ⟨_,.dpt hz h8 (cells_fr h h1 h6),h2⟩
    · cases hk
  · cases hv
    exact ⟨_,.lstZ _ _ _ _,hk⟩
  · split at hk
    · rename_i hf
      exact ⟨_,fz0_fr h hf hv,hk⟩
    · cases hk
inductive FRl (z:Nat→Option Obj):List Value→List Value→Prop
  | nil:FRl z [] []
  | cons {v v':Value} {l l':List Value} (h:FR z v v') (r:FRl z l l'):FRl z (v::l) (v'::l')
theorem FRl.agg {z:Nat→Option Obj} {l l':List Value}(h:FRl z l l'):l.length=l'.length∧∀i,FR z ((⟨l⟩:Array Value).getD i undef) ((⟨l'⟩:Array Value).getD i undef)∨l.length≤i:=by
  induction h with
  | nil=>exact ⟨rfl,fun i=>.inr (Nat.zero_le _)⟩
  | cons h _ ih =>
    refine ⟨by simp [ih.1],fun i=>?_⟩
    cases i with
    | zero=>exact .inl (by simpa [Array.getD_eq_getD_getElem?] using h)
    | succ i =>
      rcases ih.2 i with h1 | h1
      · exact .inl (by simpa [Array.getD_eq_getD_getElem?] using h1)
      · exact .inr (by simp;omega)
theorem FRl.fr {z:Nat→Option Obj} {l l':List Value}(h:FRl z l l'):FR z (.agg ⟨l⟩) (.agg ⟨l'⟩):=by
  refine .agg (by simpa using h.agg.1) fun i hi=>?_
  rcases h.agg.2 i with h1 | h1
  · exact h1
  · simp at hi;omega
theorem frzL_ok {y:Nat}(h:Made m z φ X w) {r:Out}:∀{l l':List Value}{k:List Value→Option Out},frzL m y X l k=some r→VRl φ l l'→∃u,FRl z u l'∧k u=some r
  | [],_,k,hk,hv=>by cases hv;exact ⟨[],.nil,hk⟩
  | v::l,_,k,hk,hv=>by
    cases hv with
    | cons hv hr =>
      obtain ⟨u,h1,h2⟩:=frz1_ok h hk hv
      obtain ⟨us,h3,h4⟩:=frzL_ok h h2 hr
      exact ⟨u::us,.cons h1 h3,h4⟩
theorem frzA_ok {ψ:Phi}{y:Nat}(h:Made m ψ.z φ X w) {v v':Value}{k:Value→Option Out}{r:Out}(hk:frzA m y X v k=some r) (hv:VR φ v v'):∃u,VR ψ u v'∧k u=some r:=by
  unfold frzA at hk
  split at hk
  · rename_i l
    obtain ⟨⟨ys⟩,rfl,hs⟩:=hv.agg_inv
    obtain ⟨us,h1,h2⟩:=frzL_ok h hk hs.toList
    exact ⟨_,h1.fr.vr,h2⟩
  · split at hk
    · rename_i hg
      cases hv with
      | iface _ hv=>rw [gA_eq hg hv];exact ⟨_,.iface _ (gA_refl hg),hk⟩
    · cases hk
  · rename_i g l n
    cases hv with
    | fn hg h1 h2 h3 h4 =>
      obtain ⟨us,k1,k2⟩:=frzL_ok h hk (VRs.toList (VRs.of h1 h2))
      obtain ⟨ws,k3,k4⟩:=frzL_ok h k2 (VRs.toList (VRs.of h3 h4))
      have hh:∀{us:List Value} {ys:Array Value},FRl ψ.z us ys.toList→(⟨us⟩:Array Value).size=ys.size∧∀i,i<(⟨us⟩:Array Value).size→FR ψ.z ((⟨us⟩:Array Value).getD i undef) (ys.getD i undef):=by
        intro us ys hf
        obtain ⟨ys⟩:=ys
        refine ⟨by simpa using hf.agg.1,fun i hi=>?_⟩
        rcases hf.agg.2 i with h5 | h5
        · exact h5
        · simp at hi;omega
      exact ⟨_,(FR.fn (hh k1).1 (hh k1).2 (hh k3).1 (hh k3).2).vr,k4⟩
  · obtain ⟨u,h1,h2⟩:=frz1_ok h hk hv
    exact ⟨u,h1.vr,h2⟩
theorem frzT_ok {ψ:Phi}(h:Made 0 ψ.z φ X w) {r:Out}:∀{zs:List Nat} {l l':List Value}{k:List Value→Option Out},frzT X zs l k=some r→VRl φ l l'→∃u,VRl ψ u l'∧k u=some r
  | _,[],_,k,hk,hv=>by cases hv;exact ⟨[],.nil,hk⟩
  | _,v::l,_,k,hk,hv=>by
    cases hv with
    | cons hv hr =>
      obtain ⟨u,h1,h2⟩:=frzA_ok h hk hv
      obtain ⟨us,h3,h4⟩:=frzT_ok h h2 hr
      exact ⟨u::us,.cons h1 h3,h4⟩
theorem VRl.vrs {l l':List Value}(h:VRl φ l l'):VRs φ ⟨l⟩ ⟨l'⟩:=by
  induction h with
  | nil=>exact VRs.nil φ
  | cons h _ ih =>
    intro i
    cases i with
    | zero=>simpa using OR.some h
    | succ i=>have:=ih i;simpa using this
theorem frzV_ok {ψ:Phi}{zs:List Nat}(h:Made 0 ψ.z φ X w) {v v':Value}{k:Value→Option Out}{r:Out}(hk:frzV zs X v k=some r) (hv:VR φ v v'):∃u,VR ψ u v'∧k u=some r:=by
  unfold frzV at hk
  split at hk
  · rename_i x l
    obtain ⟨⟨ys⟩,rfl,hs⟩:=hv.tuple_inv rfl
    obtain ⟨us,h1,h2⟩:=frzT_ok h hk hs.toList
    exact ⟨_,h1.vrs.tuple,h2⟩
  · exact frzA_ok h hk hv
open Classical in
def zF (φ:Phi)(X:List Ob)(m:Nat)(w:World):Nat→Option Obj:=fun B=>if ∃b ob x,m≤b∧X[b]?=some ob∧ob.rw=true∧φ b=some x∧x.1=B then w.heap[B]? else φ.z B
theorem zF_made (hF:Inv K w0 φ X w)(m:Nat):Made m (zF φ X m w) φ X w:=by
  refine ⟨fun B o hB=>?_,fun b c hb hmb=>?_⟩
  · unfold zF
    split
    · exact hF.frz B o hB
    · exact hB
  · obtain ⟨B,base,tot,h3,C,el,fr,h5,h6,h7⟩:=hF.obs b _ hb rfl
    obtain ⟨h8,h9,_⟩:=h7 rfl
    refine ⟨B,base,tot,C,el,fr,h3,?_,by omega,h6⟩
    unfold zF
    rw [if_pos ⟨b,_,_,hmb,hb,rfl,h3,rfl⟩];exact h5
theorem zF_k (hF:Inv K w0 φ X w)(m:Nat) {k:Nat}(hk:K k):zF φ X m w k=none:=by
  unfold zF
  rw [if_neg]
  · exact hF.zk k hk
  · rintro ⟨b,ob,x,_,h2,h3,h4,rfl⟩
    exact hF.prot b ob x h2 h3 h4 hk
theorem Inv.freeze (hF:Inv K w0 φ X w) {H1:List Ob}{k:Nat}(hH:∀(b:Nat) (ob:Ob),H1[b]?=some ob→X[b]?=some ob∧obSc H1.length ob=true) :
    Inv K w0 ⟨fun b=>if b<H1.length+k then φ b else none,zF φ X H1.length w⟩ (H1++List.replicate k .dead) w:=by
  have hm:=zF_made hF H1.length
  have hget:∀{b:Nat} {ob:Ob},(H1++List.replicate k .dead)[b]?=some ob→ob.live=true→b<H1.length∧X[b]?=some ob∧obSc H1.length ob=true:=by
    intro b ob hb hl
    rcases Nat.lt_or_ge b H1.length with h | h
    · rw [List.getElem?_append_left h]at hb
      exact ⟨h,hH b ob hb⟩
    · rw [List.getElem?_append_right h,List.getElem?_replicate]at hb
      split at hb
      · simp only [Option.some.injEq]at hb;subst hb;cases hl
      · cases hb
  have hlec:Gi.le (cut φ H1.length) ⟨fun b=>if b<H1.length+k then φ b else none,zF φ X H1.length w⟩:=by
    refine ⟨fun b x hx=>?_,hm.le⟩
    rcases Nat.lt_or_ge b H1.length with h | h
    · rw [cut_lt h]at hx
      show (if b<H1.length+k then φ b else none)=some x
      rw [if_pos (by omega)];exact hx
    · rw [cut_ge h]at hx;cases hx
  have hx:∀{b:Nat} {x:Nat×Nat×Nat},b<H1.length→(⟨fun b=>if b<H1.length+k then φ b else none,zF φ X H1.length w⟩:Phi) b=some x→φ b=some x:=by
    intro b x hb h
    have h':(if b<H1.length+k then φ b else none)=some x:=h
    rwa [if_pos (by omega)]at h'
  refine ⟨?_,?_,?_,hF.keep,hF.klt,hF.size,hF.os,hF.tape,hF.output,?_,?_,?_,fun k hk=>zF_k hF _ hk⟩
  · intro b ob hb hl
    obtain ⟨h1,h2,h3⟩:=hget hb hl
    obtain ⟨B,base,tot,h4,h5⟩:=hF.obs b ob h2 hl
    exact ⟨B,base,tot,hlec b _ ((cut_lt h1).trans h4),(obSc_cut h3 h5).keep hlec rfl⟩
  · intro b b' ob ob' x y hne hb hb' hrw hl hx1 hy1
    obtain ⟨h1,h2,_⟩:=hget hb (Ob.live_of_rw hrw)
    obtain ⟨h3,h4,_⟩:=hget hb' hl
    exact hF.sep b b' ob ob' x y hne h2 h4 hrw hl (hx h1 hx1) (hx h3 hy1)
  · intro b ob x hb hrw hx1
    obtain ⟨h1,h2,_⟩:=hget hb (Ob.live_of_rw hrw)
    exact hF.prot b ob x h2 hrw (hx h1 hx1)
  · intro b hb
    simp only [List.length_append,List.length_replicate]at hb
    show (if b<H1.length+k then φ b else none)=none
    rw [if_neg (by omega)]
  · intro B o hB
    have hB':zF φ X H1.length w B=some o:=hB
    unfold zF at hB'
    split at hB'
    · exact hB'
    · exact hF.frz B o hB'
  · intro b ob x hb hrw hx1
    obtain ⟨h1,h2,_⟩:=hget hb (Ob.live_of_rw hrw)
    have hx2:=hx h1 hx1
    show zF φ X H1.length w x.1=none
    unfold zF
    rw [if_neg]
    · exact hF.zsep b ob x h2 hrw hx2
    · rintro ⟨b',ob',x',k1,k2,k3,k4,k5⟩
      exact hF.sep b b' ob ob' x x' (by omega) h2 k2 hrw (Ob.live_of_rw k3) hx2 k4 k5.symm
end
section
variable {P:Program}
def pureA (v:Value):Bool:=scT 0 v
theorem Fact.lift {zs:List Nat}{f:FuncId}{args:Array Value}{v u:Value}{h1:Hp}(hf:Fact P (.call f args ⟨[],0,[]⟩) (.ret v h1)) (hfz:frzK zs (.ret v h1)=some (.ret u ⟨[],0,[]⟩))
    (ha:args.toList.all pureA=true) (h:Hp):Fact P (.call f args h) (.ret u h):=by
  obtain ⟨_,hh⟩:=hf.1 (Nat.le_refl _)
  refine ⟨fun hb=>⟨Pres.refl _,?_⟩,trivial⟩
  intro K w0 φ w args' n hI hA
  have hI':Inv K w0 φ ([]++h.bl) w:=hI
  have hN:=hI'.narrow (H0:=[]) (fun b ob h=>by simp at h)
  have hA1:VRs (cut φ ([]:List Ob).length) args args':=VRs.of hA.size fun i hi=>scT_cut (all_getD (p:=pureA) ha hi) (hA.getD i)
  refine (hh _ w _ w args' n hN hA1).mono ?_
  intro e w' he
  cases e with
  | returned v' =>
    obtain ⟨φ',hle,hv',hF⟩:=he
    have hfz':frzV zs h1.bl v (fun v=>some (.ret v ⟨[],0,[]⟩))=some (.ret u ⟨[],0,[]⟩):=hfz
    have hZ:=hF.freeze (H1:=[]) (k:=0) (fun b ob h=>by simp at h)
    obtain ⟨u',k1,k2⟩:=frzV_ok (ψ:=⟨fun b=>if b<([]:List Ob).length+0 then φ' b else none,zF φ' h1.bl 0 w'⟩) (zF_made hF 0) hfz' hv'
    simp only [Option.some.injEq,Out.ret.injEq,and_true]at k2
    subst k2
    have hle2:le (cut φ ([]:List Ob).length) ⟨fun b=>if b<([]:List Ob).length+0 then φ' b else none,zF φ' h1.bl 0 w'⟩:=by
      refine ⟨fun b x hx=>?_,fun B o hB=>(zF_made hF 0).le B o (hle.zz B o hB)⟩
      rw [cut_ge (show ([]:List Ob).length≤b from Nat.zero_le b)]at hx;cases hx
    obtain ⟨φ'',q1,q2,q3⟩:=hI'.widen (H1:=[]) (X:=[]) hZ hle2 .nil
    refine ⟨φ'',q1,?_,q3⟩
    have hc:cut ⟨fun b=>if b<([]:List Ob).length+0 then φ' b else none,zF φ' h1.bl ([]:List Ob).length w'⟩ ([]:List Ob).length=⟨fun b=>if b<([]:List Ob).length+0 then φ' b else none,zF φ' h1.bl 0 w'⟩:=by
      unfold cut
      simp
    rw [hc]at q2
    exact k1.mono q2
  | panicked ch=>exact he.elim
  | outgrown=>exact he.elim
def zAll (w:World):Phi:=⟨fun _=>none,fun B=>w.heap[B]?⟩
theorem inv_all (w:World):Inv (fun _=>False) w (zAll w) [] w :=
  ⟨fun b ob h=>by simp at h,fun b b' ob ob' x y _ h=>by simp at h,fun b ob x h=>by simp at h,fun _ h=>h.elim,fun _ h=>h.elim,Nat.le_refl _,rfl,rfl,rfl,fun _ _=>rfl,fun _ _ h=>h,fun b ob x h=>by simp at h,fun _ h=>h.elim⟩
theorem calls_frozen {w:World}{f:FuncId} {args args':Array Value}{v:Value} {h':Hp}(hf:Fact P (.call f args ⟨[],0,[]⟩) (.ret v h')) (hg:gr v=true) (hA:VRs (zAll w) args args') :
    Calls P f args' w fun e w'=>e=.returned v∧Below w.heap.size w w':=by
  obtain ⟨_,hh⟩:=hf.1 (Nat.le_refl _)
  refine callsIn_wide.1 ((hh _ w (zAll w) w args' 0 (inv_all w) hA).mono ?_)
  intro e w' he
  cases e with
  | returned v' =>
    obtain ⟨φ',hle,hv,hI⟩:=he
    refine ⟨by rw [gr_eq hg hv],hI.os,hI.tape,hI.output,hI.size,fun k hk=>?_⟩
    have h1:(zAll w).z k=some w.heap[k]:=by show w.heap[k]?=_;rw [Array.getElem?_eq_getElem hk]
    rw [hI.frz k _ (hle.zz k _ h1),Array.getElem?_eq_getElem hk]
  | panicked ch=>exact he.elim
  | outgrown=>exact he.elim
end
inductive RT (A:Type) where
  | leaf (a:A)
  | no
  | br (b:Bool) (x y:RT A)
  | sw (b b':Bool) (h:b=b') (x y:RT A)
section
variable {A:Type}
def RT.val:RT A→Option A
  | .leaf a=>some a
  | .no=>none
  | .br b x y=>cond b x.val y.val
  | .sw _ b _ x y=>cond b x.val y.val
def RT.out (enc:A→Out):RT A→Option Out
  | .leaf a=>some (enc a)
  | .no=>none
  | .br b x y=>cond b (x.out enc) (y.out enc)
  | .sw b _ _ x y=>cond b (x.out enc) (y.out enc)
theorem RT.out_val (enc:A→Out):∀r:RT A,r.out enc=r.val.map enc
  | .leaf _=>rfl
  | .no=>rfl
  | .br b x y=>by
    cases b
    · exact RT.out_val enc y
    · exact RT.out_val enc x
  | .sw b b' h x y=>by
    subst h
    cases b
    · exact RT.out_val enc y
    · exact RT.out_val enc x
end
section
variable {X D:Type}
def loopAns (c0:Code)(dec:Task→Option (Code×X))(alt:X→List Value→AT)(J:Task→List Value):Ans:=fun t=>match dec t with
  | some (c,x)=>some (.br (eqCode c c0) (alt x (J t)) .no)
  | none=>none
def fnAns (dec:Task→Option (X×Hp))(alt:X→Hp→AT):Ans:=fun t=>match dec t with
  | some (x,h)=>some (alt x h)
  | none=>none
section
variable {P:Program}(hN:NoNG P) (hm:P.follows .mixedOrders=true)
include hN hm
theorem Known.factK {a:Ans}(hk:Known P a) {n:Nat}{t:Task}{k:Kn}{r:Out}(h:evC P a.c n t k=some r):∃o,k o=some r∧Fact P t o:=by
  obtain ⟨o',h1,h2⟩:=evC_ok (P:=P) a.oc n t k r h
  have hd:DrawnOk P drawnX:=fun self hs rd id os s o h=>drawnX_ok hN hm self hs rd id os s o h
  have hh:=iterO_ok (drawn:=drawnX) hN hd hk.selfOk hk.loopOk n
  refine ⟨o',h2,hh.1 _ _ h1,?_⟩
  unfold LoopFact
  split
  · exact fun hb=>hh.2 _ _ _ _ _ h1 hb
  · trivial
theorem Known.fn {a:Ans}(hk:Known P a) {A R:Type}{n:Nat}{zs:List Nat}(f:FuncId) (args:A→List Value) (rt:A→RT R) (enc:R→Value)
    (hev:∀x,evC P a.c n (.call f ⟨args x⟩ ⟨[],0,[]⟩) (frzK zs)=(rt x).out fun r=>.ret (enc r) ⟨[],0,[]⟩) (hpa:∀x,(args x).all pureA=true) (dec:Task→Option (A×Hp)) (alt:A→Hp→AT)
    (hd:∀t x h,dec t=some (x,h)→t=.call f ⟨args x⟩ h) (ha:∀x h o,(alt x h).out=some o→∃r,(rt x).val=some r∧o=.ret (enc r) h) :
    Known P (fnAns dec alt):=by
  intro t at' o ht ho
  cases hdt:dec t with
  | none=>simp only [loopAns,fnAns,hdt]at ht;cases ht
  | some xh =>
    obtain ⟨x,h⟩:=xh
    simp only [loopAns,fnAns,hdt,Option.some.injEq]at ht
    subst ht
    obtain ⟨r,h1,rfl⟩:=ha x h o ho
    obtain rfl:=hd t x h hdt
    have h2:=hev x
    rw [RT.out_val,h1,Option.map_some]at h2
    obtain ⟨o,h3,hf⟩:=hk.factK hN hm h2
    cases o with
    | ret v h'=>exact hf.lift h3 (hpa x) h
    | _=>cases h3
end
end
end
end Go.Gi
namespace Go.Gi
open Go.RowKit
noncomputable section
structure Agree (σ:Nat→Nat→Prop) (φ ψ:Phi):Prop where
  fn:∀(i j:Nat) (x:Nat×Nat×Nat),σ i j→φ.f i=some x→ψ.f j=some x
  zz:∀B o,φ.z B=some o→ψ.z B=some o
instance {σ:Nat→Nat→Prop} {φ ψ:Phi}:CoeFun (Agree σ φ ψ) (fun _=>∀(i j:Nat) (x:Nat×Nat×Nat),σ i j→φ.f i=some x→ψ.f j=some x):=⟨Agree.fn⟩
def TR (σ:Nat→Nat→Prop) (v v':Value):Prop:=∀φ ψ,Agree σ φ ψ→∀x,VR φ v x→VR ψ v' x
def ObTR (σ:Nat→Nat→Prop) (o o':Ob):Prop:=∀φ ψ,Agree σ φ ψ→∀w B bs tot,ObR φ w o B bs tot→ObR ψ w o' B bs tot
def inS (ρ:Nat→Nat)(H0:List Ob)(j i:Nat):Prop:=i<H0.length∧ρ i=j
def outS (ρ:Nat→Nat) (κ:Nat→Option Nat)(H0 Hb Hb1:List Ob)(i j:Nat):Prop :=
  (i<H0.length∧ρ i=j)∨(κ j=some i∧Hb.length≤j∧j<Hb1.length)
structure Carry (ρ:Nat→Nat) (κ:Nat→Option Nat) (H0 H1 Hb Hb1:List Ob):Prop where
  inn:∀(i:Nat) (ob:Ob),H0[i]?=some ob→ob.live=true→∃ob',Hb[ρ i]?=some ob'∧ob'.live=true∧(ob.rw=true→ob'.rw=true)∧ObTR (inS ρ H0) ob' ob
  inj:∀(i i':Nat),i<H0.length→i' < H0.length→ρ i=ρ i'→i=i'
  low:∀i,i<H0.length→ρ i<Hb.length
  len:Hb.length≤Hb1.length
  kin:∀j i,κ j=some i→Hb.length≤j→H0.length≤i
  kinj:∀j j' i,Hb.length≤j→Hb.length≤j'→κ j=some i→κ j'=some i→j=j'
  out:∀(j:Nat) (ob':Ob),Hb1[j]?=some ob'→ob'.live=true →
    (Hb[j]?=some ob'∧∀(i:Nat) (ob0:Ob),H0[i]?=some ob0→ob0.rw=true→ρ i≠j) ∨
    (∃(i:Nat) (ob:Ob),H1[i]?=some ob∧ob.live=true∧(ob'.rw=true→ob.rw=true)∧(ob.rw=true∨∃ob0:Ob,H0[i]?=some ob0∧ob0.live=true)∧ObTR (outS ρ κ H0 Hb Hb1) ob ob'∧outS ρ κ H0 Hb Hb1 i j)
def pullP (φ:Phi) (ρ:Nat→Nat)(n:Nat):Phi:=⟨fun i=>if i<n then φ (ρ i) else none,φ.z⟩
open Classical in
def backP (ρ:Nat→Nat)(n j:Nat):Option Nat:=if h:∃i,i<n∧ρ i=j then some (Classical.choose h) else none
def pushP (φ φ1:Phi) (ρ:Nat→Nat) (κ:Nat→Option Nat)(n N N1:Nat):Phi:=⟨fun j=>if j<N then (match φ j with | some x=>some x | none=>(backP ρ n j).bind φ1.f) else if j<N1 then (κ j).bind φ1.f else none,φ1.z⟩
section
variable {P:Program}{K:Nat→Prop} {w0 w w':World} {φ φ1:Phi}{H0 H1 Hb Hb1:List Ob} {ρ:Nat→Nat} {κ:Nat→Option Nat}
theorem lt_of_get {α:Type}{l:List α}{i:Nat}{a:α}(h:l[i]?=some a):i<l.length:=(List.getElem?_eq_some_iff.1 h).1
theorem pull_at {i:Nat}(h:i<H0.length):pullP φ ρ H0.length i=φ (ρ i):=if_pos h
theorem Inv.push (hI:Inv K w0 φ Hb w)(hc:Carry ρ κ H0 H1 Hb Hb1) (hF:Inv (fun k=>k<w.heap.size∧¬RwAt (pullP φ ρ H0.length) H0 k∧φ.z k=none) w φ1 H1 w') (hle:le (pullP φ ρ H0.length) φ1) :
    ∃φ2,le φ φ2∧Agree (outS ρ κ H0 Hb Hb1) φ1 φ2∧Inv K w0 φ2 Hb1 w':=by
  have hdom:∀{j:Nat} {x:Nat×Nat×Nat},φ j=some x→j<Hb.length:=fun {j} {x} hx=>by
    rcases Nat.lt_or_ge j Hb.length with h | h
    · exact h
    · rw [hI.top j h]at hx;cases hx
  have hleφ:le φ (pushP φ φ1 ρ κ H0.length Hb.length Hb1.length):=⟨fun j x hx=>by
    show (if j<Hb.length then (match φ j with | some x=>some x | none=>(backP ρ H0.length j).bind φ1.f) else if j<Hb1.length then (κ j).bind φ1.f else none)=some x
    rw [if_pos (hdom hx),hx],hle.zz⟩
  have hlt:∀{j:Nat} {ob':Ob},Hb[j]?=some ob'→ob'.live=true→pushP φ φ1 ρ κ H0.length Hb.length Hb1.length j=φ j:=by
    intro j ob' h1 h2
    obtain ⟨B,base,tot,h3,_⟩:=hI.obs j ob' h1 h2
    rw [h3];exact hleφ _ _ h3
  have htop1:∀{i:Nat} {x:Nat×Nat×Nat},φ1 i=some x→i<H1.length:=fun {i} {x} hx=>by
    rcases Nat.lt_or_ge i H1.length with h | h
    · exact h
    · rw [hF.top i h]at hx;cases hx
  have hold:∀{i:Nat} {ob0:Ob},H0[i]?=some ob0→ob0.live=true→∃x,φ (ρ i)=some x∧φ1 i=some x:=by
    intro i ob0 h1 h2
    obtain ⟨ob',h3,h4,_,_⟩:=hc.inn i ob0 h1 h2
    obtain ⟨B,base,tot,h5,_⟩:=hI.obs _ ob' h3 h4
    exact ⟨_,h5,hle i _ ((pull_at (lt_of_get h1)).trans h5)⟩
  have hnew:∀{j:Nat},Hb.length≤j→j<Hb1.length→pushP φ φ1 ρ κ H0.length Hb.length Hb1.length j=(κ j).bind φ1.f:=fun {j} h1 h2=>by
    show (if j<Hb.length then (match φ j with | some x=>some x | none=>(backP ρ H0.length j).bind φ1.f) else if j<Hb1.length then (κ j).bind φ1.f else none)=_
    rw [if_neg (by omega),if_pos h2]
  have hkeep:∀{j:Nat} {ob':Ob} {x:Nat×Nat×Nat},Hb[j]?=some ob'→ob'.live=true→φ j=some x→x.1<w.heap.size→(∀(i:Nat) (ob0:Ob),H0[i]?=some ob0→ob0.rw=true→ρ i≠j)→x.1<w.heap.size∧¬RwAt (pullP φ ρ H0.length) H0 x.1:=by
    intro j ob' x h1 h2 h3 h4 h5
    refine ⟨h4,?_⟩
    rintro ⟨b0,ob0,y,h6,h7,h8,h9⟩
    rw [pull_at (lt_of_get h6)]at h8
    obtain ⟨o1,h10,_,h11,_⟩:=hc.inn b0 ob0 h6 (Ob.live_of_rw h7)
    exact hI.sep (ρ b0) j o1 ob' y x (h5 b0 ob0 h6 h7) h10 h1 (h11 h7) h2 h8 h3 h9
  have hsz:∀{j:Nat} {ob':Ob} {x:Nat×Nat×Nat},Hb[j]?=some ob'→ob'.live=true→φ j=some x→x.1<w.heap.size:=by
    intro j ob' x h1 h2 h3
    obtain ⟨B,base,tot,h4,h5⟩:=hI.obs j ob' h1 h2
    rw [h3]at h4
    simp only [Option.some.injEq]at h4
    subst h4
    exact h5.lt h2
  have hsame:∀{k:Nat},k<w.heap.size∧¬RwAt (pullP φ ρ H0.length) H0 k→w'.heap[k]?=w.heap[k]?:=by
    intro k hk
    cases hz:φ.z k with
    | none=>exact hF.keep k ⟨hk.1,hk.2,hz⟩
    | some o=>rw [hI.frz k o hz,hF.frz k o (hle.zz k o hz)]
  have hagree:Agree (outS ρ κ H0 Hb Hb1) φ1 (pushP φ φ1 ρ κ H0.length Hb.length Hb1.length):=by
    refine ⟨?_,fun _ _ h=>h⟩
    rintro i j x (⟨h1,rfl⟩ | ⟨h1,h2,hj⟩) hx
    · cases hφ:φ (ρ i) with
      | some y =>
        have h4:=hle i y ((pull_at h1).trans hφ)
        rw [hx]at h4
        rw [h4];exact hleφ _ _ hφ
      | none =>
        show (if ρ i<Hb.length then (match φ (ρ i) with | some x=>some x | none=>(backP ρ H0.length (ρ i)).bind φ1.f) else if ρ i<Hb1.length then (κ (ρ i)).bind φ1.f else none)=some x
        rw [if_pos (hc.low i h1),hφ]
        have hex:∃i',i' < H0.length∧ρ i'=ρ i:=⟨i,h1,rfl⟩
        have hb:backP ρ H0.length (ρ i)=some i:=by
          unfold backP
          rw [dif_pos hex]
          have:=Classical.choose_spec hex
          rw [hc.inj _ _ this.1 h1 this.2]
        show (backP ρ H0.length (ρ i)).bind φ1.f=some x
        rw [hb];exact hx
    · rw [hnew h2 hj,h1]
      exact hx
  have hlen:=hc.len
  have hB:∀{i j:Nat} {ob:Ob} {x:Nat×Nat×Nat},outS ρ κ H0 Hb Hb1 i j→H1[i]?=some ob→ob.live=true→pushP φ φ1 ρ κ H0.length Hb.length Hb1.length j=some x→φ1 i=some x:=by
    intro i j ob x hs h1 h2 hx
    obtain ⟨B,base,tot,h3,_⟩:=hF.obs i ob h1 h2
    have:=hagree i j _ hs h3
    rw [hx]at this
    rw [h3,this]
  have hfun:∀{i j j':Nat},outS ρ κ H0 Hb Hb1 i j→outS ρ κ H0 Hb Hb1 i j'→j=j':=by
    rintro i j j' (⟨h1,rfl⟩ | ⟨h1,h2,h3⟩) (⟨h1',rfl⟩ | ⟨h1',h2',h3'⟩)
    · rfl
    · have:=hc.kin _ _ h1' h2'
      omega
    · have:=hc.kin _ _ h1 h2
      omega
    · exact hc.kinj _ _ _ h2 h2' h1 h1'
  have hKK:∀{k:Nat},K k→k<w.heap.size∧¬RwAt (pullP φ ρ H0.length) H0 k∧φ.z k=none:=by
    intro k hk
    refine ⟨Nat.lt_of_lt_of_le (hI.klt _ hk) hI.size,?_,hI.zk k hk⟩
    rintro ⟨b0,ob0,y,k1,k2,k3,k4⟩
    rw [pull_at (lt_of_get k1)]at k3
    obtain ⟨o1,k5,_,k6,_⟩:=hc.inn b0 ob0 k1 (Ob.live_of_rw k2)
    exact hI.prot (ρ b0) o1 y k5 (k6 k2) k3 (k4 ▸ hk)
  refine ⟨pushP φ φ1 ρ κ H0.length Hb.length Hb1.length,hleφ,hagree,?_,?_,?_,?_,hI.klt,Nat.le_trans hI.size hF.size,hF.os.trans hI.os,hF.tape.trans hI.tape,hF.output.trans hI.output,?_,hF.frz,?_,?_⟩
  · intro j ob' h1 h2
    rcases hc.out j ob' h1 h2 with ⟨h3,h4⟩ | ⟨i,ob,h3,h4,h5,h6,h7,h8⟩
    · obtain ⟨B,base,tot,h5,h6⟩:=hI.obs j ob' h3 h2
      exact ⟨B,base,tot,hleφ _ _ h5,h6.keep hleφ (hsame (hkeep h3 h2 h5 (h6.lt h2) h4))⟩
    · obtain ⟨B,base,tot,h9,h10⟩:=hF.obs i ob h3 h4
      exact ⟨B,base,tot,hagree i j _ h8 h9,h7 _ _ hagree _ _ _ _ h10⟩
  · intro j j' ob ob' x y hne hj hj' hrw hl hx hy
    rcases hc.out j ob hj (Ob.live_of_rw hrw) with ⟨h3,h4⟩ | ⟨i,o,h3,h4,h5,h6,h7,h8⟩
    · have hx':φ j=some x:=by rw [← hlt h3 (Ob.live_of_rw hrw)];exact hx
      rcases hc.out j' ob' hj' hl with ⟨h3',h4'⟩ | ⟨i',o',h3',h4',h5',h6',h7',h8'⟩
      · have hy':φ j'=some y:=by rw [← hlt h3' hl];exact hy
        exact hI.sep j j' ob ob' x y hne h3 h3' hrw hl hx' hy'
      · have hy':=hB h8' h3' h4' hy
        rcases h6' with hrw' | ⟨ob0,k0,kl⟩
        · intro he
          exact hF.prot i' o' y h3' hrw' hy' (he ▸ (let q:=hkeep h3 (Ob.live_of_rw hrw) hx' (hsz h3 (Ob.live_of_rw hrw) hx') h4;⟨q.1,q.2,hI.zsep j ob x h3 hrw hx'⟩))
        · have k3:ρ i'=j':=by
            rcases h8' with ⟨k1,k3⟩ | ⟨k1,k2,_⟩
            · exact k3
            · have:=hc.kin _ _ k1 k2
              have:=lt_of_get k0
              omega
          obtain ⟨o1,k4,k5,_,_⟩:=hc.inn i' ob0 k0 kl
          obtain ⟨y',k6,k7⟩:=hold k0 kl
          rw [hy']at k7
          simp only [Option.some.injEq]at k7
          subst k7
          exact hI.sep j (ρ i') ob o1 x y (by rw [k3];exact hne) h3 k4 hrw k5 hx' k6
    · have hx':=hB h8 h3 h4 hx
      rcases hc.out j' ob' hj' hl with ⟨h3',h4'⟩ | ⟨i',o',h3',h4',h5',h6',h7',h8'⟩
      · have hy':φ j'=some y:=by rw [← hlt h3' hl];exact hy
        intro he
        have q:=hkeep h3' hl hy' (hsz h3' hl hy') h4'
        cases hz:φ.z y.1 with
        | none=>exact hF.prot i o x h3 (h5 hrw) hx' (he.symm ▸ ⟨q.1,q.2,hz⟩)
        | some o' =>
          have q1:=hF.zsep i o x h3 (h5 hrw) hx'
          rw [he,hle.zz _ _ hz]at q1
          cases q1
      · have hy':=hB h8' h3' h4' hy
        exact hF.sep i i' o o' x y (fun he=>hne (hfun (he ▸ h8) h8')) h3 h3' (h5 hrw) h4' hx' hy'
  · intro j ob x hj hrw hx hk
    rcases hc.out j ob hj (Ob.live_of_rw hrw) with ⟨h3,h4⟩ | ⟨i,o,h3,h4,h5,h6,h7,h8⟩
    · have hx':φ j=some x:=by rw [← hlt h3 (Ob.live_of_rw hrw)];exact hx
      exact hI.prot j ob x h3 hrw hx' hk
    · have hx':=hB h8 h3 h4 hx
      exact hF.prot i o x h3 (h5 hrw) hx' (hKK hk)
  · intro k hk
    rw [hF.keep k (hKK hk)]
    exact hI.keep k hk
  · intro j hj
    show (if j<Hb.length then (match φ j with | some x=>some x | none=>(backP ρ H0.length j).bind φ1.f) else if j<Hb1.length then (κ j).bind φ1.f else none)=none
    rw [if_neg (by omega),if_neg (by omega)]
  · intro j ob x hj hrw hx
    rcases hc.out j ob hj (Ob.live_of_rw hrw) with ⟨h3,h4⟩ | ⟨i,o,h3,h4,h5,h6,h7,h8⟩
    · have hx':φ j=some x:=by rw [← hlt h3 (Ob.live_of_rw hrw)];exact hx
      have q:=hkeep h3 (Ob.live_of_rw hrw) hx' (hsz h3 (Ob.live_of_rw hrw) hx') h4
      exact hF.zk x.1 ⟨q.1,q.2,hI.zsep j ob x h3 hrw hx'⟩
    · exact hF.zsep i o x h3 (h5 hrw) (hB h8 h3 h4 hx)
  · exact fun k hk=>hF.zk k (hKK hk)
end
end
end Go.Gi
namespace Go.Gi
open Go.RowKit
noncomputable section
section
variable {σ:Nat→Nat→Prop}
theorem cut_agree {φ ψ:Phi}{n:Nat}(ha:Agree σ φ ψ) (hid:∀i,i<n→σ i i):le (cut φ n) ψ:=by
  refine ⟨?_,fun B o h=>ha.zz B o h⟩
  intro b x hx
  rcases Nat.lt_or_ge b n with h | h
  · rw [cut_lt h]at hx;exact ha b b x (hid b h) hx
  · rw [cut_ge h]at hx;cases hx
theorem ObTR.sc {n:Nat}{o:Ob}(hid:∀i,i<n→σ i i) (h:obSc n o=true):ObTR σ o o:=fun φ ψ ha w B bs tot hx=>(obSc_cut h hx).keep (cut_agree ha hid) rfl
theorem TR.slice {b b' off l z:Nat}(h:σ b b'):TR σ (.slice (some ⟨b,off,none⟩) l z) (.slice (some ⟨b',off,none⟩) l z):=by
  intro φ ψ ha x hx
  cases hx with
  | sliceZ hp a'=>exact .sliceZ (a:=⟨b',off,none⟩) (ha _ _ _ h hp) a' _
  | slice hp hl hc=>exact .slice (ha _ _ _ h hp) hl hc
theorem ObTR.same {o:Ob}(h:∀n,obSc n o=true):ObTR σ o o:=ObTR.sc (n:=0) (fun i hi=>absurd hi (Nat.not_lt_zero _)) (h 0)
end
structure Grow (r:Nat→Nat) (κ:Nat→Option Nat) (Pre T X G G1:List Ob):Prop where
  sc:Pre.all (obSc Pre.length)=true
  pre:∀(i:Nat) (ob:Ob),T[i]?=some ob→G[r i]?=some ob∧∀n,obSc n ob=true
  inj:∀i i',i<T.length→i' < T.length→r i=r i'→i=i'
  len:G.length≤G1.length
  kin:∀j i,κ j=some i→G.length≤j→T.length≤i
  kinj:∀j j' i,G.length≤j→G.length≤j'→κ j=some i→κ j'=some i→j=j'
  out:∀(j:Nat) (ob:Ob),G1[j]?=some ob→ob.live=true →
    (G[j]?=some ob∧∀i,i<T.length→r i≠j) ∨
    (∃i,X[i]?=some ob∧ob.rw=true∧(∀n,obSc n ob=true)∧((i<T.length∧r i=j)∨(κ j=some i∧G.length≤j∧j<G1.length)))
section
variable {r:Nat→Nat} {κ:Nat→Option Nat}{Pre T X G G1:List Ob}
theorem get_app {A B:List Ob}{j:Nat}{ob:Ob}(h:(A++B)[j]?=some ob):(j<A.length∧A[j]?=some ob)∨(A.length≤j∧B[j-A.length]?=some ob):=by
  rcases Nat.lt_or_ge j A.length with h1 | h1
  · rw [List.getElem?_append_left h1]at h;exact .inl ⟨h1,h⟩
  · rw [List.getElem?_append_right h1]at h;exact .inr ⟨h1,h⟩
theorem Grow.same {p:Nat}{A:Ob}(hsc:Pre.all (obSc Pre.length)=true) (hp:G[p]?=some A) (hA:∀n,obSc n A=true) (hw:A.rw=true):Grow (fun _=>p) (fun _=>none) Pre [A] (A::X) G G:=by
  refine ⟨hsc,?_,?_,Nat.le_refl _,by simp,by simp,?_⟩
  · intro i ob hi
    rcases i with _ | i
    · simp only [List.getElem?_cons_zero,Option.some.injEq]at hi
      subst hi;exact ⟨hp,hA⟩
    · simp at hi
  · intro i i' h1 h2 _
    simp only [List.length_cons,List.length_nil]at h1 h2
    omega
  · intro j ob hj hl
    by_cases hjp:j=p
    · subst hjp
      rw [hp]at hj
      simp only [Option.some.injEq]at hj
      subst hj
      exact .inr ⟨0,rfl,hw,hA,.inl ⟨by simp,rfl⟩⟩
    · exact .inl ⟨hj,fun i _ he=>hjp he.symm⟩
theorem Grow.first {q:Nat}{B:Ob}(hsc:Pre.all (obSc Pre.length)=true) (hq:X[q]?=some B) (hB:∀n,obSc n B=true) (hw:B.rw=true):Grow (fun _=>0) (fun j=>if j=G.length then some q else none) Pre [] X G (G++[B]):=by
  refine ⟨hsc,by simp,by simp,by simp,by simp,?_,?_⟩
  · intro j j' i _ _ h1 h2
    split at h1
    · split at h2
      · omega
      · cases h2
    · cases h1
  · intro j ob hj hl
    rcases get_app hj with ⟨h1,h2⟩ | ⟨h1,h2⟩
    · exact .inl ⟨h2,by simp⟩
    · cases hh:j-G.length with
      | zero =>
        rw [hh]at h2
        simp only [List.getElem?_cons_zero,Option.some.injEq]at h2
        subst h2
        have:j=G.length:=by omega
        exact .inr ⟨q,hq,hw,hB,.inr ⟨by rw [if_pos this],by omega,by simp;omega⟩⟩
      | succ k=>rw [hh]at h2;simp at h2
end
def AnyOk (P:Program)(os:Array Oper) (s s':St):Prop :=
  s.h.base≤s.h.bl.length→Pres s.h s'.h∧∀(K:Nat→Prop) (w0:World) (φ:Phi) (w:World) (a:Act) (F:Fence) (n:Nat) (rd:Option Nat) (Q:Exit→Act→World→Prop),
    Inv K w0 φ s.h.bl w→VRs φ s.t.toArray a.tmps→DRs φ s.d a.defers→FenceOk φ rd F→(∀x a w',CodeR K w0 φ .normal s' x a w'→Q x a w')→wpAnyIn F n P .any os Q os.size (Array.replicate os.size false) a { w with drawn:=w.drawn+1 }
theorem drawn_any {P:Program}{self:Self}(hN:NoNG P) (hs:SelfOk P self) {rd:Option Nat}{id:Nat}{os:Array Oper}{s:St}{o:Out}(h:drawn P self rd id os s=some o):∃s',o=.ex .normal s'∧AnyOk P os s s':=by
  unfold drawn at h
  split at h
  case isFalse=>cases h
  rename_i hp
  split at h
  case h_2=>cases h
  rename_i recs T h1 hr
  split at h
  case isFalse=>cases h
  rename_i hc
  simp only [Option.some.injEq]at h
  subst h
  have p:=plan_of hp hr hc
  refine ⟨_,rfl,fun hb=>⟨(p.tr.pres hs hb).1,?_⟩⟩
  intro K w0 φ w a F n rd Q hI ht hd hF hQ
  have h0:∀j,(Array.replicate os.size false).getD j false=false:=fun j=>by
    simp only [Array.getD_eq_getD_getElem?,Array.getElem?_replicate]
    split<;>rfl
  refine p.run hN hs hb os.size _ (List.range os.size) φ a _ (by simp) ?_ ?_ (by simp) ?_ ?_ hd hF hQ
  · intro j k hj;simp only [h0]at hj;cases hj
  · intro i hi _;exact List.mem_range.2 hi
  · rw [HD_none _ fun r _ _=>h0 r.i];exact hI.drew
  · rw [TD_none _ fun r _=>h0 r.i];exact ht
theorem drawnF_any {P:Program}{self:Self}(hN:NoNG P) (hs:SelfOk P self) {rd:Option Nat}{id:Nat}{os:Array Oper}{s:St}{o:Out}(h:drawnF P self rd id os s=some o):∃s',o=.ex .normal s'∧AnyOk P os s s':=by
  unfold drawnF at h
  split at h
  case isFalse=>cases h
  rename_i hp
  split at h
  case h_2=>cases h
  rename_i recs T h1 hr
  split at h
  case isFalse=>cases h
  rename_i hc
  simp only [Option.some.injEq]at h
  subst h
  simp only [Bool.and_eq_true]at hc
  have p:=planF_of hp hr hc.1 hc.2.1
  have hdl:∀r∈recs,r.loud=true→isAl r.o=true→∀t,r.o.dst=some t→t<s.t.length:=by
    intro r hr hl ha t ht
    have:=hc.2.2
    rw [List.all_eq_true]at this
    have:=this r hr
    rw [hl,ha,ht]at this
    simpa using this
  refine ⟨_,rfl,fun hb=>⟨(p.tr.pres hs hb).1,?_⟩⟩
  intro K w0 φ w a F n rd Q hI ht hd hF hQ
  have h0:∀j,(Array.replicate os.size false).getD j false=false:=fun j=>by
    simp only [Array.getD_eq_getD_getElem?,Array.getElem?_replicate]
    split<;>rfl
  have hnf:∀r,¬IsFl recs (fun j=>(Array.replicate os.size false).getD j false) (fun _=>false) r:=fun r hr=>by have:=hr.2.2.2.1;simp only [h0]at this;cases this
  have hI':=hI.drew
  refine p.run hN hs hb hdl os.size _ (List.range os.size) (fun _=>false) (fun _=>0) φ s.t a _ (by simp) ?_ (by simp) ?_ hd hF hQ
  · intro i hi _;exact List.mem_range.2 hi
  · refine ⟨fun i hi=>by (cases hi),fun r _ hD=>by (simp only [h0]at hD;cases hD),pw_all fun _ _ _ _ _ _ h=>by (cases h),fun j k hj=>by (simp only [h0]at hj;cases hj),rfl,fun t _=>?_,ht,?_,?_,fun r hr=>(hnf r hr).elim,fun r _ hr=>(hnf r hr).elim,fun r hr=>(hnf r hr).elim⟩
    · rw [TD_none _ fun r _=>rfl]
    · rw [HD_none _ fun r _ _=>rfl]
      refine hI'.rebase.weaken ?_
      rintro k (hk | ⟨r,hr,_⟩)
      · exact hk
      · exact (hnf r hr).elim
    · exact ⟨hI'.keep,hI'.klt,hI'.size,hI'.os,hI'.tape,hI'.output⟩
theorem drawnX_any {P:Program}{self:Self}(hN:NoNG P) (hs:SelfOk P self) {rd:Option Nat}{id:Nat}{os:Array Oper}{s:St}{o:Out}(h:drawnX P self rd id os s=some o):∃s',o=.ex .normal s'∧AnyOk P os s s':=by
  unfold drawnX at h
  split at h
  · exact drawnF_any hN hs h
  · exact drawn_any hN hs h
theorem blt_lt {a b:Nat}(h:Nat.blt a b=true):a<b:=by rwa [Nat.blt_eq]at h
def depsAt (os:Array Oper)(i:Nat):List Nat:=((os[i]?).map depsOf).getD []
def depsAsc (os:Array Oper):Bool:=(List.range os.size).all fun i=>(depsAt os i).all fun d=>Nat.blt d i
def guardsIn (os:Array Oper)(m:Nat):Bool:=(List.range m).all fun i=>match (os[i]?).bind (·.guard) with
  | none=>true
  | some (j,_)=>Nat.blt j m
def ancs (os:Array Oper):Nat→List Nat→List Nat
  | 0,s=>s
  | f+1,s=>ancs os f (s++((s.flatMap (depsAt os)).filter fun d=>!s.contains d).eraseDups)
def waits (os:Array Oper)(m:Nat):Bool:=depsAsc os&&(guardsIn os m&&(List.range m).all fun j=>(ancs os m (depsAt os m)).contains j)
theorem dep_mem {os:Array Oper}{i:Nat}{o:Oper}(ho:os[i]?=some o) {d:Nat}:d∈depsAt os i↔∃e∈o.after,Region.binds .any e=true∧e.on=d:=by
  unfold depsAt depsOf
  rw [ho]
  simp only [Option.map_some,Option.getD_some,List.mem_map,List.mem_filter,Array.mem_toList_iff,and_assoc]
def ShutL (os:Array Oper)(D:Nat→Prop):Prop:=∀i,D i→∀d∈depsAt os i,D d
theorem ancs_ok {os:Array Oper}{D:Nat→Prop}(hs:ShutL os D):∀(f:Nat) (s:List Nat),(∀i∈s,D i)→∀i∈ancs os f s,D i
  | 0,s,h=>h
  | f+1,s,h=>by
    refine ancs_ok hs f _ fun i hi=>?_
    rcases List.mem_append.1 hi with hi | hi
    · exact h i hi
    · rw [List.mem_eraseDups]at hi
      obtain ⟨hi,_⟩:=List.mem_filter.1 hi
      obtain ⟨j,hj,hij⟩:=List.mem_flatMap.1 hi
      exact hs j (h j hj) i hij
section
variable {P:Program}{F:Fence}{n:Nat}{Q:Exit→Act→World→Prop}
theorem upon_q {o:Oper}{a:Act}{K:Act→World→Prop} {Q':Exit→Act→World→Prop}(hq:∀c a w,Q' (.panic c) a w→Q (.panic c) a w) (hl:LetsOut Q'→LetsOut Q) {r:Result Next}(h:o.uponIn F n P a K Q' r):o.uponIn F n P a K Q r:=by
  cases r with
  | ok x w' =>
    cases x<;>simp only [Oper.uponIn]at h ⊢ <;>
      first
        | exact h
        | exact ⟨h.1,CallsIn.mono h.2 (fun e w'' he=>by cases e<;>first | exact he | exact hq _ _ _ he | exact hl he)⟩
        | exact ⟨h.1,RowsIn.mono h.2 (fun _ _ he=>he)⟩
        | exact ⟨h.1,RoundIn.mono h.2 (fun e w'' he=>by cases e<;>first | exact he | exact hq _ _ _ he | exact hl he)⟩
  | halt x w'=>cases x<;>simp only [Oper.uponIn]at h ⊢<;>first | exact h | exact hq _ _ _ h
theorem any_full {os:Array Oper}{a:Act}{w:World}:∀(fuel:Nat) (listed:Array Bool),(∀j,j<os.size→listed.getD j true=true)→Q .normal a w→wpAnyIn F n P .any os Q fuel listed a w:=by
  intro fuel listed hl hq
  have hr:Region.ready .any os listed=[]:=by
    rw [List.eq_nil_iff_forall_not_mem]
    intro i hi
    rw [mem_ready]at hi
    obtain ⟨h1,o,h2,_⟩:=hi
    rw [hl i (Array.getElem?_eq_some_iff.1 h2).1]at h1;cases h1
  cases fuel with
  | zero=>exact ⟨hr,hq⟩
  | succ fuel=>exact ⟨fun _=>hq,fun i hi=>by rw [hr]at hi;cases hi⟩
theorem getD_tf {l:Array Bool}{j:Nat}(h:j<l.size):l.getD j true=l.getD j false:=by
  simp only [Array.getD_eq_getD_getElem?,Array.getElem?_eq_getElem h,Option.getD_some]
def behind (F:Fence)(n:Nat)(P:Program)(os:Array Oper)(m:Nat)(Q:Exit→Act→World→Prop):Exit→Act→World→Prop
  | .normal,a,w=>wpOpsIn F n P os Q [m] a w
  | e,a,w=>Q e a w
theorem any_last {os:Array Oper}{m:Nat}(hsz:os.size=m+1) (hw:waits os m=true):∀(fuel:Nat) (listed:Array Bool) (a:Act) (w:World),listed.size=m+1→listed.getD m false=false →
    ShutL os (fun j=>listed.getD j false=true)→wpAnyIn F n P .any os.pop (behind F n P os m Q) fuel listed.pop a w→wpAnyIn F n P .any os Q (fuel+1) listed a w:=by
  simp only [waits,Bool.and_eq_true]at hw
  obtain ⟨hasc,hgu,hanc⟩:=hw
  have hpop:∀j,j<m→os.pop[j]?=os[j]?:=fun j hj=>by
    rw [Array.getElem?_pop]
    rw [if_pos (by omega)]
  have hlp:∀(l:Array Bool),l.size=m+1→∀j d,j<m→l.pop.getD j d=l.getD j d:=fun l hl j d hj=>by
    simp only [Array.getD_eq_getD_getElem?,Array.getElem?_pop]
    rw [if_pos (by omega)]
  have hdep:∀i,i<m+1→∀d∈depsAt os i,d<i:=fun i hi d hd=>by
    simp only [depsAsc,List.all_eq_true,List.mem_range,hsz]at hasc
    exact blt_lt (hasc i hi d hd)
  have hready:∀(listed:Array Bool),listed.size=m+1→∀i,i<m→(i∈Region.ready .any os.pop listed.pop↔i∈Region.ready .any os listed):=by
    intro listed hl i hi
    rw [mem_ready,mem_ready,hpop i hi,hlp listed hl i true hi]
    constructor
    · rintro ⟨h1,o,h2,h3⟩
      refine ⟨h1,o,h2,fun e he hb=>?_⟩
      have:=h3 e he hb
      rwa [hlp listed hl e.on false (by have:=hdep i (by omega) e.on ((dep_mem h2).2 ⟨e,he,hb,rfl⟩);omega)]at this
    · rintro ⟨h1,o,h2,h3⟩
      refine ⟨h1,o,h2,fun e he hb=>?_⟩
      rw [hlp listed hl e.on false (by have:=hdep i (by omega) e.on ((dep_mem h2).2 ⟨e,he,hb,rfl⟩);omega)]
      exact h3 e he hb
  have hlast:∀(listed:Array Bool),listed.size=m+1→ShutL os (fun j=>listed.getD j false=true)→m∈Region.ready .any os listed→∀j,j<m→listed.getD j false=true:=by
    intro listed hl hs hm j hj
    rw [mem_ready]at hm
    obtain ⟨_,o,ho,h3⟩:=hm
    simp only [List.all_eq_true,List.mem_range]at hanc
    have:=hanc j hj
    rw [List.contains_iff_mem]at this
    refine ancs_ok hs m _ (fun d hd=>?_) j this
    obtain ⟨e,he,hb,rfl⟩:=(dep_mem ho).1 hd
    exact h3 e he hb
  have hnone:∀(listed:Array Bool),listed.size=m+1→Region.ready .any os.pop listed.pop=[]→∀j,j<m→listed.getD j false=true:=by
    intro listed hl hr j
    induction j using Nat.strongRecOn with
    | _ j ih =>
      intro hj
      cases hc:listed.getD j false with
      | true=>rfl
      | false =>
        exfalso
        have hlt:j<os.size:=by omega
        have ho:os[j]?=some os[j]:=Array.getElem?_eq_getElem hlt
        have:j∈Region.ready .any os.pop listed.pop:=by
          rw [hready listed hl j hj,mem_ready]
          refine ⟨by rw [getD_tf (by omega)];exact hc,_,ho,fun e he hb=>?_⟩
          have hd:=hdep j (by omega) e.on ((dep_mem ho).2 ⟨e,he,hb,rfl⟩)
          exact ih e.on hd (by omega)
        rw [hr]at this;cases this
  have hall:∀(listed:Array Bool),listed.size=m+1→(∀j,j<m→listed.getD j false=true)→∀j,j<os.size→(listed.setIfInBounds m true).getD j true=true:=by
    intro listed hl h j hj
    by_cases hjm:j=m
    · subst hjm;simp [Array.getD_eq_getD_getElem?,hl]
    · rw [getD_set_ne true (Ne.symm hjm),getD_tf (by omega)]
      exact h j (by omega)
  have hend:∀(fuel:Nat) (listed:Array Bool) (a:Act) (w:World),listed.size=m+1→listed.getD m false=false→ShutL os (fun j=>listed.getD j false=true)→(∀j,j<m→listed.getD j false=true)→wpOpsIn F n P os Q [m] a w→wpAnyIn F n P .any os Q (fuel+1) listed a w:=by
    intro fuel listed a w hl hlm hs h hq
    have hms:m<os.size:=by omega
    have ho:os[m]?=some os[m]:=Array.getElem?_eq_getElem hms
    have hmr:m∈Region.ready .any os listed:=by
      rw [mem_ready]
      refine ⟨by rw [getD_tf (by omega)];exact hlm,_,ho,fun e he hb=>?_⟩
      exact h e.on (hdep m (by omega) e.on ((dep_mem ho).2 ⟨e,he,hb,rfl⟩))
    refine ⟨fun hr=>(by rw [hr]at hmr;cases hmr),fun i hi=>?_⟩
    have him:i=m:=by
      rw [mem_ready]at hi
      obtain ⟨h1,o,h2,_⟩:=hi
      have hi2:i<os.size:=(Array.getElem?_eq_some_iff.1 h2).1
      by_cases hlt:i<m
      · rw [getD_tf (by omega),h i hlt]at h1;cases h1
      · omega
    subst him
    rw [wpOpsIn_cons]at hq
    refine wpOpIn_mono (fun a w hk=>?_) hq
    exact any_full _ _ (hall listed hl h) hk
  intro fuel
  induction fuel with
  | zero =>
    intro listed a w hl hlm hs hh
    have hr:=hh.1
    have hq:=hh.2
    exact hend 0 listed a w hl hlm hs (hnone listed hl hr) hq
  | succ fuel ih =>
    intro listed a w hl hlm hs hh
    obtain ⟨hq,hi'⟩:=hh
    cases hr:Region.ready .any os.pop listed.pop with
    | nil=>exact hend (fuel+1) listed a w hl hlm hs (hnone listed hl hr) (hq hr)
    | cons x xs =>
      have hxm:∀i,i∈Region.ready .any os.pop listed.pop→i<m:=fun i hi=>by
        rw [mem_ready]at hi
        obtain ⟨_,o,h2,_⟩:=hi
        have:=(Array.getElem?_eq_some_iff.1 h2).1
        simp at this;omega
      have hx:x∈Region.ready .any os.pop listed.pop:=by rw [hr];simp
      have hxl:=(hready listed hl x (hxm x hx)).1 hx
      refine ⟨fun h=>(by rw [h]at hxl;cases hxl),fun i hi=>?_⟩
      by_cases him:i=m
      · subst him
        have:=hlast listed hl hs hi x (hxm x hx)
        rw [mem_ready]at hxl
        rw [getD_tf (by have:=hxm x hx;omega),this]at hxl
        cases hxl.1
      · have hilt:i<m:=by
          rw [mem_ready]at hi
          obtain ⟨_,o,h2,_⟩:=hi
          have:=(Array.getElem?_eq_some_iff.1 h2).1
          omega
        have h1:=hi' i ((hready listed hl i hilt).2 hi)
        have hlo:(listed.setIfInBounds i true).pop=listed.pop.setIfInBounds i true:=by
          apply Array.ext_getElem?
          intro j
          simp only [Array.getElem?_pop,Array.getElem?_setIfInBounds,Array.size_setIfInBounds,Array.size_pop]
          by_cases hj:j<listed.size-1
          · simp only [if_pos hj]
            by_cases hij:i=j
            · subst hij;simp [hj];omega
            · simp [hij]
          · simp only [if_neg hj]
            by_cases hij:i=j
            · subst hij;omega
            · simp [hij]
        have hrec:∀(a:Act) (w:World),wpAnyIn F n P .any os.pop (behind F n P os m Q) fuel (listed.pop.setIfInBounds i true) a w→wpAnyIn F n P .any os Q (fuel+1) (listed.setIfInBounds i true) a w:=by
          intro a w hk
          refine ih _ a w (by simp [hl]) ?_ ?_ (by rw [hlo];exact hk)
          · rw [getD_set_ne false him];exact hlm
          · intro j hj d hd
            have hi2:=hi
            rw [mem_ready]at hi2
            obtain ⟨_,o,h2,h3⟩:=hi2
            by_cases hji:j=i
            · subst hji
              obtain ⟨e,he,hb,rfl⟩:=(dep_mem h2).1 hd
              exact getD_set_true (h3 e he hb)
            · rw [getD_set_ne false (Ne.symm hji)]at hj
              exact getD_set_true (hs j hj d hd)
        have ho:=hpop i hilt
        unfold wpOpIn at h1 ⊢
        rw [ho]at h1
        split at h1
        · rename_i he;exact hrec a w h1
        · rename_i o he
          have hwant:Region.wanted o (yielded os.pop a.tmps)=Region.wanted o (yielded os a.tmps):=by
            unfold Region.wanted
            split
            · rfl
            · rename_i j want hg
              have:j<m:=by
                simp only [guardsIn,List.all_eq_true,List.mem_range]at hgu
                have:=hgu i hilt
                rw [he]at this
                simp only [Option.bind_some,hg]at this
                exact blt_lt this
              unfold yielded
              rw [hpop j this]
          rw [hwant]at h1
          split at h1
          · rename_i hwt
            rw [if_pos hwt]
            refine Oper.wpIn_mono (fun a w hk=>hrec a w hk) ⟨h1.1,upon_q (fun _ _ _ h=>h) (fun h=>h) h1.2⟩
          · rename_i hwt
            rw [if_neg hwt]
            exact ⟨h1.1,hrec _ _ h1.2⟩
end
def drawnW (P:Program)(self:Self)(rd:Option Nat)(id:Nat)(os:Array Oper)(s:St):Option Out :=
  match waits os (os.size-1)&&Nat.blt 0 os.size with
  | true=>(match drawnX P self rd id os.pop s with
    | some (.ex .normal s')=>runOps P self rd os [os.size-1] s'
    | _=>none)
  | false=>drawnX P self rd id os s
theorem drawnW_ok {P:Program}(hN:NoNG P) (hm:P.follows .mixedOrders=true):DrawnOk P drawnW:=by
  intro self hs rd id os s o h
  unfold drawnW at h
  split at h
  · rename_i hw
    rw [Bool.and_eq_true]at hw
    obtain ⟨hw,hz⟩:=hw
    have hz:0<os.size:=blt_lt hz
    obtain ⟨m,hm1⟩:∃m,os.size=m+1:=⟨os.size-1,by omega⟩
    rw [hm1,Nat.add_sub_cancel]at h hw
    split at h
    case h_2=>cases h
    rename_i s' hd1
    obtain ⟨s2,he,hA⟩:=drawnX_any hN hs hd1
    cases he
    by_cases hb:s.h.base≤s.h.bl.length
    · obtain ⟨hp,hA⟩:=hA hb
      have hb':s'.h.base≤s'.h.bl.length:=by rw [hp.base];exact Nat.le_trans hb hp.len
      obtain ⟨e,s3,rfl,hp2,hh⟩:=runOps_sound hN hs _ s' o h hb'
      refine fun _=>⟨hp.trans hp2,?_⟩
      intro K w0 φ w a F n hI ht hd hF
      refine wpIn_region_any hm ?_
      rw [hm1]
      have hrep:∀j,(Array.replicate (m+1) false).getD j false=false:=fun j=>by
        simp only [Array.getD_eq_getD_getElem?,Array.getElem?_replicate]
        split<;>rfl
      refine any_last hm1 hw m _ a _ (by simp) (hrep m) (fun i hi=>by have hi:(Array.replicate (m+1) false).getD i false=true:=hi;rw [hrep]at hi;cases hi) ?_
      have:=hA K w0 φ w a F n rd (behind F n P os m (CodeR K w0 φ e s3)) hI ht hd hF (fun x a w' hc=>?_)
      · have e1:(Array.replicate (m+1) false).pop=Array.replicate os.pop.size false:=by
          apply Array.ext_getElem?
          intro j
          simp only [Array.getElem?_pop,Array.getElem?_replicate,Array.size_replicate,Array.size_pop,hm1]
          by_cases hj:j<m
          · simp [hj];omega
          · simp [hj]
        have e2:os.pop.size=m:=by simp [hm1]
        rw [e1]
        rw [e2]at this ⊢
        exact this
      · obtain ⟨φ',hle,hx,hT,hD,hI'⟩:=hc
        cases hx
        exact hh K w0 φ' w' a F n _ hI' hT hD (hF.mono hle) (fun x a w' hq=>hq.mono hle)
    · obtain ⟨e,s3,rfl⟩:=step_ok.runOps_ex _ _ _ h
      exact fun h=>absurd h hb
  · exact drawnX_ok hN hm self hs rd id os s o h
abbrev vT:Value:=.bool true
abbrev vF:Value:=.bool false
abbrev vI (n:Nat):Value:=.int .i64 (.ofNat n)
abbrev vJ (n:Nat):Value:=.int .i64 (.negSucc n)
structure CF where
  g:Nat
  args:List Value
  u:Value
def CF.Ok (P:Program)(c:CF):Prop:=∀h,Fact P (.call c.g ⟨c.args⟩ h) (.ret c.u h)
def lookCF (f:Nat)(vs:List Value)(h:Hp):List CF→Option AT
  | []=>none
  | c::r=>match Nat.beq f c.g with
    | true=>(match eqLs (eqVn 8) vs c.args with
      | true=>some (.leaf (.ret c.u h))
      | false=>lookCF f vs h r)
    | false=>lookCF f vs h r
def tabA (l:List CF):Ans:=fun t=>match t with
  | .call f vs h=>lookCF f vs.toList h l
  | _=>none
inductive CFs (P:Program):List CF→Prop
  | nil:CFs P []
  | cons {c:CF} {l:List CF} (h:c.Ok P) (r:CFs P l):CFs P (c::l)
theorem lookCF_ok {P:Program}{f:Nat}{vs:List Value}{h:Hp}:∀{l:List CF},CFs P l→∀{x:AT}{o:Out},lookCF f vs h l=some x→x.out=some o→Fact P (.call f ⟨vs⟩ h) o
  | [],_,x,o,hx,_=>by cases hx
  | c::r,hl,x,o,hx,ho=>by
    cases hl with
    | cons hc hr =>
      unfold lookCF at hx
      split at hx
      · rename_i hf
        split at hx
        · rename_i ha
          simp only [Option.some.injEq]at hx
          subst hx
          simp only [AT.out,Option.some.injEq]at ho
          subst ho
          rw [Nat.eq_of_beq_eq_true hf,eqLs_eq (fun _ _ h=>eqVn_eq h) ha]
          exact hc h
        · exact lookCF_ok hr hx ho
      · exact lookCF_ok hr hx ho
theorem tabA_ok {P:Program}{l:List CF}(hl:CFs P l):Known P (tabA l):=by
  intro t x o h ho
  unfold tabA at h
  split at h
  · rename_i f vs hh
    exact lookCF_ok hl h ho
  · cases h
def frDs (f:Value→Option Value):List Value→Option (List Value)
  | []=>some []
  | v::r=>match f v with
    | some u=>(match frDs f r with
      | some l=>some (u::l)
      | none=>none)
    | none=>none
def frC (f:Value→Option Value)(v:Value):Option Value:=match v with
  | .slice none 0 0=>some (lstV ⟨[]⟩ 0 0 1)
  | v=>f v
def frD (bl:List Ob):Nat→Value→Option Value
  | 0,_=>none
  | n+1,v=>match v with
    | .slice (some ⟨b,off,none⟩) len sz=>(match nthO bl b with
      | some (.cells c false)=>(match frDs (frC (frD bl n)) c.toList with
        | some l=>if off+len*sz≤c.size then some (lstV ⟨l⟩ off len sz) else none
        | none=>none)
      | _=>none)
    | .pointer (some ⟨b,off,none⟩)=>(match nthO bl b with
      | some (.cells c false)=>(match frDs (frC (frD bl n)) c.toList with
        | some l=>some (dptV ⟨l⟩ off)
        | none=>none)
      | _=>none)
    | .agg ⟨l⟩=>(match frDs (frD bl n) l with
      | some l=>some (.agg ⟨l⟩)
      | none=>none)
    | .iface t v=>(match frD bl n v with
      | some v=>some (.iface t v)
      | none=>none)
    | .func (.func g) ⟨l⟩ ⟨m⟩=>(match frDs (frD bl n) l,frDs (frD bl n) m with
      | some l,some m=>some (.func (.func g) ⟨l⟩ ⟨m⟩)
      | _,_=>none)
    | v=>if fz0 v then some v else none
def frDV (bl:List Ob)(v:Value):Option Value:=match v with
  | .tuple ⟨x::l⟩=>(match frDs (frD bl 8) (x::l) with
    | some l=>some (.tuple ⟨l⟩)
    | none=>none)
  | v=>frD bl 8 v
def frDK:Kn
  | .ret v h=>(match frDV h.bl v with
    | some v=>some (.ret v ⟨[],0,[]⟩)
    | none=>none)
  | _=>none
section
variable {K:Nat→Prop}{w0 w:World} {φ:Phi}{X:List Ob}{z:Nat→Option Obj}
theorem frDs_ok {f:Value→Option Value}(hf:∀v u v',f v=some u→VR φ v v'→FR z u v'):∀{l us l':List Value},frDs f l=some us→VRl φ l l'→FRl z us l'
  | [],us,_,h,hv=>by
    cases hv
    simp only [frDs,Option.some.injEq]at h
    subst h;exact .nil
  | v::r,us,_,h,hv=>by
    cases hv with
    | cons h1 h2 =>
      simp only [frDs]at h
      split at h
      · rename_i u hu
        split at h
        · rename_i l hl
          simp only [Option.some.injEq]at h
          subst h
          exact .cons (hf _ _ _ hu h1) (frDs_ok hf hl h2)
        · cases h
      · cases h
theorem FRl.fn {z:Nat→Option Obj} {l l' m m':List Value}(g:FuncId) (h:FRl z l l') (h2:FRl z m m'):FR z (.func (.func g) ⟨l⟩ ⟨m⟩) (.func (.func g) ⟨l'⟩ ⟨m'⟩):=by
  have hh:∀{us ys:List Value},FRl z us ys→(⟨us⟩:Array Value).size=(⟨ys⟩:Array Value).size∧∀i,i<(⟨us⟩:Array Value).size→FR z ((⟨us⟩:Array Value).getD i undef) ((⟨ys⟩:Array Value).getD i undef):=by
    intro us ys hf
    refine ⟨by simpa using hf.agg.1,fun i hi=>?_⟩
    rcases hf.agg.2 i with h5 | h5
    · exact h5
    · simp at hi;omega
  exact .fn (hh h).1 (hh h).2 (hh h2).1 (hh h2).2
theorem cells_frl {c C:Array Value}{base:Nat}(hC:base+c.size≤C.size) (h2:∀(i:Nat) (v:Value),c[i]?=some v→∃v',C[base+i]?=some v'∧VR φ v v'):VRl φ c.toList ((C.toList.drop base).take c.size):=by
  have key:∀(l:List Value) (m:List Value),l.length=m.length→(∀(i:Nat) (v:Value),l[i]?=some v→∃v',m[i]?=some v'∧VR φ v v')→VRl φ l m:=by
    intro l
    induction l with
    | nil=>intro m hl _;cases m with
      | nil=>exact .nil
      | cons _ _=>simp at hl
    | cons x r ih=>intro m hl hh;cases m with
      | nil=>simp at hl
      | cons y s =>
        refine .cons ?_ (ih s (by simpa using hl) fun i v hv=>by simpa using hh (i+1) v (by simpa using hv))
        obtain ⟨v',h3,h4⟩:=hh 0 x rfl
        simp only [List.getElem?_cons_zero,Option.some.injEq]at h3
        rw [h3];exact h4
  refine key _ _ (by simp;omega) fun i v hv=>?_
  have hv2:c[i]?=some v:=by rw [← Array.getElem?_toList];exact hv
  obtain ⟨v',h3,h4⟩:=h2 i v hv2
  refine ⟨v',?_,h4⟩
  have hi:i<c.size:=by rw [Array.getElem?_eq_some_iff]at hv2;exact hv2.1
  rw [List.getElem?_take,if_pos hi,List.getElem?_drop,Array.getElem?_toList]
  exact h3
theorem FRl.cells {l:List Value}{C:Array Value}{base n:Nat}(h:FRl z l ((C.toList.drop base).take n)) (hC:base+n≤C.size):l.length=n∧∀i,i<(⟨l⟩:Array Value).size→FR z ((⟨l⟩:Array Value).getD i undef) (C.getD (base+i) undef):=by
  have hn:l.length=n:=by rw [h.agg.1];simp;omega
  refine ⟨hn,fun i hi=>?_⟩
  have hi':i<n:=by simpa [hn] using hi
  rcases h.agg.2 i with h1 | h1
  · have e:(⟨(C.toList.drop base).take n⟩:Array Value).getD i undef=C.getD (base+i) undef:=by
      rw [Array.getD_eq_getD_getElem?,Array.getD_eq_getD_getElem?]
      have:(⟨(C.toList.drop base).take n⟩:Array Value)[i]?=C[base+i]?:=by
        rw [← Array.getElem?_toList,List.getElem?_take,if_pos hi',List.getElem?_drop,Array.getElem?_toList]
      rw [this]
    rw [← e];exact h1
  · omega
theorem frC_ok {f:Value→Option Value}(hf:∀v u v',f v=some u→VR φ v v'→FR z u v'):∀v u v',frC f v=some u→VR φ v v'→FR z u v':=by
  intro v u v' h hv
  unfold frC at h
  split at h
  · cases h;cases hv;exact .lstZ _ _ _ _
  · exact hf _ _ _ h hv
theorem frD_ok (h:Made 0 z φ X w):∀{n:Nat} {v u v':Value},frD X n v=some u→VR φ v v'→FR z u v'
  | 0,_,_,_,hk,_=>by cases hk
  | n+1,v,u,v',hk,hv=>by
    have ih:∀v u v',frD X n v=some u→VR φ v v'→FR z u v':=fun v u v' h1 h2=>frD_ok h h1 h2
    unfold frD at hk
    split at hk
    · rename_i b off len sz
      rw [nthO_eq]at hk
      split at hk
      · rename_i c hb
        split at hk
        · rename_i l hl
          split at hk
          · rename_i hle
            simp only [Option.some.injEq]at hk
            subst hk
            obtain ⟨B,base,tot,C,el,fr,h3,hz,h8,h6⟩:=h.obs b _ hb (Nat.zero_le _)
            cases hv with
            | sliceZ _ a' k'=>exact .lstZ _ _ _ _
            | slice hφ hl1 hc =>
              rw [h3]at hφ;cases hφ
              obtain ⟨k1,k2⟩:=(frDs_ok (frC_ok ih) hl (cells_frl h8 h6)).cells h8
              exact .lst hz (by simpa [k1] using h8) k2 hl1 (by simpa [k1] using hle)
          · cases hk
        · cases hk
      · cases hk
    · rename_i b off
      rw [nthO_eq]at hk
      split at hk
      · rename_i c hb
        split at hk
        · rename_i l hl
          simp only [Option.some.injEq]at hk
          subst hk
          obtain ⟨B,base,tot,C,el,fr,h3,hz,h8,h6⟩:=h.obs b _ hb (Nat.zero_le _)
          cases hv with
          | ptr hφ =>
            rw [h3]at hφ;cases hφ
            obtain ⟨k1,k2⟩:=(frDs_ok (frC_ok ih) hl (cells_frl h8 h6)).cells h8
            exact .dpt hz (by simpa [k1] using h8) k2
        · cases hk
      · cases hk
    · rename_i l
      split at hk
      · rename_i us hl
        simp only [Option.some.injEq]at hk
        subst hk
        obtain ⟨⟨ys⟩,rfl,hs⟩:=hv.agg_inv
        exact (frDs_ok ih hl hs.toList).fr
      · cases hk
    · rename_i t x
      split at hk
      · rename_i y hy
        simp only [Option.some.injEq]at hk
        subst hk
        cases hv with
        | iface _ hv=>exact .iface _ (ih _ _ _ hy hv)
      · cases hk
    · rename_i g l m
      split at hk
      · rename_i us ws hl hm
        simp only [Option.some.injEq]at hk
        subst hk
        cases hv with
        | @fn _ _ first' _ cap' hg h1 h2 h3 h4 =>
          obtain ⟨first'⟩:=first'
          obtain ⟨cap'⟩:=cap'
          exact FRl.fn g (frDs_ok ih hl (VRs.toList (VRs.of h1 h2))) (frDs_ok ih hm (VRs.toList (VRs.of h3 h4)))
      · cases hk
    · split at hk
      · rename_i hf
        simp only [Option.some.injEq]at hk
        subst hk
        exact fz0_fr h hf hv
      · cases hk
theorem FRl.vrl {ψ:Phi} {l l':List Value}(h:FRl ψ.z l l'):VRl ψ l l':=by
  induction h with
  | nil=>exact .nil
  | cons h _ ih=>exact .cons h.vr ih
theorem frDV_ok {ψ:Phi}(h:Made 0 ψ.z φ X w) {v u v':Value}(hk:frDV X v=some u) (hv:VR φ v v'):VR ψ u v':=by
  unfold frDV at hk
  split at hk
  · rename_i x l
    split at hk
    · rename_i us hl
      simp only [Option.some.injEq]at hk
      subst hk
      obtain ⟨⟨ys⟩,rfl,hs⟩:=hv.tuple_inv rfl
      exact (frDs_ok (fun _ _ _ h1 h2=>frD_ok h h1 h2) hl hs.toList).vrl.vrs.tuple
    · cases hk
  · exact (frD_ok h hk hv).vr
end
section
variable {P:Program}
theorem Fact.liftD {f:FuncId}{args:Array Value}{v u:Value}{h1:Hp}(hf:Fact P (.call f args ⟨[],0,[]⟩) (.ret v h1)) (hfz:frDV h1.bl v=some u)
    (ha:args.toList.all pureA=true) (h:Hp):Fact P (.call f args h) (.ret u h):=by
  obtain ⟨_,hh⟩:=hf.1 (Nat.le_refl _)
  refine ⟨fun hb=>⟨Pres.refl _,?_⟩,trivial⟩
  intro K w0 φ w args' n hI hA
  have hI':Inv K w0 φ ([]++h.bl) w:=hI
  have hN:=hI'.narrow (H0:=[]) (fun b ob h=>by simp at h)
  have hA1:VRs (cut φ ([]:List Ob).length) args args':=VRs.of hA.size fun i hi=>scT_cut (all_getD (p:=pureA) ha hi) (hA.getD i)
  refine (hh _ w _ w args' n hN hA1).mono ?_
  intro e w' he
  cases e with
  | returned v' =>
    obtain ⟨φ',hle,hv',hF⟩:=he
    have hZ:=hF.freeze (H1:=[]) (k:=0) (fun b ob h=>by simp at h)
    have k1:=frDV_ok (ψ:=⟨fun b=>if b<([]:List Ob).length+0 then φ' b else none,zF φ' h1.bl 0 w'⟩) (zF_made hF 0) hfz hv'
    have hle2:le (cut φ ([]:List Ob).length) ⟨fun b=>if b<([]:List Ob).length+0 then φ' b else none,zF φ' h1.bl 0 w'⟩:=by
      refine ⟨fun b x hx=>?_,fun B o hB=>(zF_made hF 0).le B o (hle.zz B o hB)⟩
      rw [cut_ge (show ([]:List Ob).length≤b from Nat.zero_le b)]at hx;cases hx
    obtain ⟨φ'',q1,q2,q3⟩:=hI'.widen (H1:=[]) (X:=[]) hZ hle2 .nil
    refine ⟨φ'',q1,?_,q3⟩
    have hc:cut ⟨fun b=>if b<([]:List Ob).length+0 then φ' b else none,zF φ' h1.bl ([]:List Ob).length w'⟩ ([]:List Ob).length=⟨fun b=>if b<([]:List Ob).length+0 then φ' b else none,zF φ' h1.bl 0 w'⟩:=by
      unfold cut
      simp
    rw [hc]at q2
    exact k1.mono q2
  | panicked ch=>exact he.elim
  | outgrown=>exact he.elim
end
def hasApp (os:Array Oper):Bool:=os.toList.any fun o=>match o.op with
  | .call { callee:=.builtin b,.. }=>(match b with | .append | .copy=>true | _=>false)
  | _=>false
def forceK (k:Kn):Kn:=fun o=>match o with
  | .ex e s=>forceE s.h.bl fun bl=>k (.ex e ⟨s.t,s.d,⟨bl,s.h.base,s.h.wr⟩⟩)
  | o=>k o
theorem forceK_eq (k:Kn):forceK k=k:=by
  funext o
  cases o with
  | ex e s=>simp only [forceK,forceE_eq]
  | _=>rfl
def catL:List Value→Nat→Nat→List Value→List Value
  | [],_,_,m=>m
  | x::r,off,n,m=>match off with
    | o+1=>catL r o n m
    | 0=>(match n with
      | k+1=>x::catL r 0 k m
      | 0=>m)
theorem catL_eq:∀(l:List Value) (off n:Nat) (m:List Value),catL l off n m=(l.drop off).take n++m
  | [],off,n,m=>by simp [catL]
  | x::r,0,0,m=>by simp [catL]
  | x::r,0,k+1,m=>by simp [catL,catL_eq r 0 k m]
  | x::r,o+1,n,m=>by simp [catL,catL_eq r o n m]
theorem catA_eq (c:Array Value)(off n:Nat)(m:Array Value):(⟨catL c.toList off n m.toList⟩:Array Value)=c.extract off (off+n)++m:=by
  apply Array.ext'
  rw [catL_eq,Array.toList_append,Array.toList_extract,List.extract]
  simp
def appendZ (P:Program)(h:Hp)(ts tx:TypeId)(s x:Value)(k:Value→Hp→Option Out):Option Out :=
  match P.underlying ts,P.underlying tx with
  | some (.slice e),some d =>
    if intB d=true then none else
    match P.info? e,zeroB P e with
    | some inf,some z =>
      natF inf.size fun isz=>natF inf.bytes fun iby =>
      match s,lenB x with
      | .slice base sl sz,some n =>
        natF n fun n =>
        cond (decide (n=0)) (k (.slice base sl sz) h)
        (newC h.bl isz n x fun news =>
          cond (decide (news.size=n*isz)&&(oneAll news&&decide (z.cells.size=isz))) (cond (decide ((sl+n)*iby≤140737488355328)&&decide (sl+n≤4611686018427387904))
            (match base with
            | none=>cond (decide (sl=0)) (k (.slice (some ⟨h.bl.length,0,none⟩) n isz) (h.push (.cells news false))) none
            | some ⟨b,off,none⟩ =>
              match nthO h.bl b with
              | some (.cells c false) =>
                cond (decide (sz=isz)) (cond (decide (off+sl*isz≤c.size))
                  (k (.slice (some ⟨h.bl.length,0,none⟩) (sl+n) isz) ((h.put b .dead).push (.cells ⟨catL c.toList off (sl*isz) news.toList⟩ false))) none) none
              | _=>none
            | _=>none) none) none)
      | _,_=>none
    | _,_=>none
  | _,_=>none
theorem appendZ_eq:appendZ=appendC:=by
  funext P h ts tx s x k
  simp only [appendZ,appendC,catA_eq]
  rfl
def loudZ (P:Program) (ρ:Operand→Value)(h:Hp)(o:Oper)(k:Ends):Option Out :=
  match o.op with
  | .call { callee:=.builtin .append,args,argTypes } =>
    match args.toList,argTypes.toList with
    | [s,x],[ts,tx]=>if okO s&&okO x then appendZ P h ts tx (ρ s) (ρ x) k.val else none
    | _,_=>none
  | _=>loudC P ρ h o k
theorem loudZ_eq:loudZ=loudC:=by
  funext P ρ h o k
  unfold loudZ
  split
  · rename_i args ts ho
    unfold loudC
    simp only [ho,appendZ_eq]
    rfl
  · rfl
def opDZ (P:Program)(self:SelfC)(T:List Value)(h:Hp)(o:Oper)(k:Value→Hp→Bool→Option Out):Option Out :=
  match o.op with
  | .pick c a b=>if okO c&&okO a&&okO b then (match evalT T c with | .bool t=>cond t (k (evalT T a) h false) (k (evalT T b) h false) | _=>none) else none
  | _ =>
    match symR P (evalT T) h.bl o with
    | some (b,v)=>cond b (k v h false) none
    | none=>match aread P (evalT T) h.bl o with
      | some v=>k v h false
      | none=>loudZ P (evalT T) h o {
        val:=fun v h'=>heapK h' fun h'=>k v h' true
        enter:=fun f args=>headsK args fun args=>self (.call f ⟨args⟩ h) fun | .ret v h'=>k v h' true | _=>none
        yield:=fun l args=>headsK args fun args=>self (.round l ⟨args⟩ h) fun | .ret v h'=>k v h' true | _=>none
        defer:=fun _=>none
        panic:=fun _=>none }
theorem opDZ_eq:opDZ=opD:=by
  funext P self T h o k
  simp only [opDZ,loudZ_eq]
  rfl
def drunZ (P:Program)(self:SelfC)(os:Array Oper):List Nat→List Value→Hp→(List Rec→List Value→Hp→Option Out)→Option Out
  | [],T,h,k=>k [] T h
  | i::r,T,h,k =>
    match os[i]? with
    | none=>none
    | some o =>
      guardC os o T
        (fun T=>opDZ P self T h o fun v h' loud=>headK v fun v=>setK' T o.dst v fun T'=>drunZ P self os r T' h' fun l T2 h2=>k (⟨i,o,T,v,h,h',loud⟩::l) T2 h2)
        (fun T=>setK' T o.dst undef fun T'=>drunZ P self os r T' h fun l T2 h2=>k (⟨i,o,T,undef,h,h,false⟩::l) T2 h2)
theorem drunZ_eq (P:Program)(self:SelfC)(os:Array Oper):∀l,drunZ P self os l=drunC P self os l
  | []=>rfl
  | i::r=>by
    funext T h k
    simp only [drunZ,drunC,drunZ_eq P self os r,opDZ_eq]
    rfl
def drawnFZ (P:Program)(self:SelfC)(os:Array Oper)(s:St)(k:Ex→St→Option Out):Option Out :=
  if planOk os (late os) (mkClo os (late os) (List.replicate os.size 0)) then
    drunZ P self os (late os) s.t s.h fun recs T h =>
      if floatOk (mkClo os (late os) (List.replicate os.size 0)) [] recs&&recs.all fun r=>!(r.loud&&isAl r.o)||r.o.dst.all fun t=>decide (t<s.t.length) then
        fchkC P os (mkClo os (late os) (List.replicate os.size 0)) recs (k .normal { t:=T,d:=s.d,h:=h })
      else none
  else none
def drawnNZ (P:Program)(self:SelfC)(os:Array Oper)(s:St)(k:Ex→St→Option Out):Option Out :=
  if planOk os (Region.linearise .any os 0) (mkClo os (Region.linearise .any os 0) (List.replicate os.size 0)) then
    drunZ P self os (Region.linearise .any os 0) s.t s.h fun recs T h =>
      chkC P os (mkClo os (Region.linearise .any os 0) (List.replicate os.size 0)) recs (k .normal { t:=T,d:=s.d,h:=h })
  else none
def drawnXZ (P:Program)(self:SelfC)(os:Array Oper)(s:St)(k:Ex→St→Option Out):Option Out :=
  match floaty os (mkClo os (Region.linearise .any os 0) (List.replicate os.size 0)) with
  | true=>drawnFZ P self os s k
  | false=>drawnNZ P self os s k
theorem drawnXZ_eq:drawnXZ=drawnXC:=by
  funext P self os s k
  simp only [drawnXZ,drawnXC,drawnFZ,drawnFC,drawnNZ,drawnC,drunZ_eq]
  rfl
def opZ (P:Program) (ρ:Operand→Value)(h:Hp)(o:Oper)(k:Ends):Option Out :=
  match o.op with
  | .pick c a b=>if okO c&&okO a&&okO b then (match ρ c with | .bool t=>cond t (k.val (ρ a) h) (k.val (ρ b) h) | _=>none) else none
  | _ =>
    match symR P ρ h.bl o with
    | some (b,v)=>cond b (k.val v h) none
    | none=>match aread P ρ h.bl o with
      | some v=>k.val v h
      | none=>loudZ P ρ h o k.heap
theorem opZ_eq:opZ=opC:=by
  funext P ρ h o k
  simp only [opZ,loudZ_eq]
  rfl
def runOpsZ (P:Program)(self:SelfC)(rd:Option Nat)(os:Array Oper):List Nat→St→(Ex→St→Option Out)→Option Out
  | [],s,k=>k .normal s
  | i::r,s,k =>
    match os[i]? with
    | none=>runOpsZ P self rd os r s k
    | some o =>
      guardC os o s.t
        (fun t=>opZ P (evalT t) s.h o {
          val:=fun v h=>setK' t o.dst v fun t=>runOpsZ P self rd os r { t:=t,d:=s.d,h:=h } k
          enter:=fun f args=>headsK args fun args=>self (.call f ⟨args⟩ s.h) fun
            | .ret v h=>setK' t o.dst v fun t=>runOpsZ P self rd os r { t:=t,d:=s.d,h:=h } k
            | .pan v h=>k (.panic v) { t:=t,d:=s.d,h:=h }
            | _=>none
          yield:=fun l args=>headsK args fun args=>self (.round l ⟨args⟩ s.h) fun
            | .ret v h=>setK' t o.dst v fun t=>runOpsZ P self rd os r { t:=t,d:=s.d,h:=h } k
            | _=>none
          defer:=fun d=>if rd.isNone then setK' t o.dst undef fun t=>runOpsZ P self rd os r { t:=t,d:=d::s.d,h:=s.h } k else none
          panic:=fun v=>k (.panic v) { t:=t,d:=s.d,h:=s.h } })
        (fun t=>setK' t o.dst undef fun t=>runOpsZ P self rd os r { t:=t,d:=s.d,h:=s.h } k)
theorem runOpsZ_eq (P:Program)(self:SelfC)(rd:Option Nat)(os:Array Oper):∀l,runOpsZ P self rd os l=runOpsC P self rd os l
  | []=>rfl
  | i::r=>by
    funext s k
    simp only [runOpsZ,runOpsC,runOpsZ_eq P self rd os r,opZ_eq]
    rfl
def drawnWZ (P:Program)(self:SelfC)(rd:Option Nat)(os:Array Oper)(s:St)(k:Ex→St→Option Out):Option Out :=
  match waits os (os.size-1)&&Nat.blt 0 os.size with
  | true=>drawnXZ P self os.pop s fun e s'=>(match e with
    | .normal=>runOpsZ P self rd os [os.size-1] s' k
    | _=>none)
  | false=>drawnXZ P self os s k
theorem drawnWZ_ok {P:Program}{self:SelfC}{sd:Self}(hs:CpsOk self sd) {rd:Option Nat}{id:Nat}{os:Array Oper}{s:St}{k:Ex→St→Option Out}{r:Out}(hc:drawnWZ P self rd os s k=some r) :
    ∃e s',drawnW P sd rd id os s=some (.ex e s')∧k e s'=some r:=by
  unfold drawnWZ at hc
  unfold drawnW
  by_cases hw:(waits os (os.size-1)&&Nat.blt 0 os.size)=true
  · rw [hw]at hc ⊢
    simp only [drawnXZ_eq]at hc
    obtain ⟨e,s',h1,h2⟩:=drawnXC_ok (rd:=rd) (id:=id) hs hc
    simp only [h1]
    cases e with
    | normal =>
      simp only at h2 ⊢
      rw [runOpsZ_eq]at h2
      exact runOpsC_ok hs h2
    | _=>cases h2
  · rw [Bool.eq_false_iff.2 hw]at hc ⊢
    simp only [drawnXZ_eq]at hc
    exact drawnXC_ok hs hc
def stepZ (P:Program)(self:SelfC):SelfC:=fun t k=>match t with
  | .code rd (.region id os dr) s=>(match dr with
    | true=>drawnWZ P self rd os s fun e s'=>(match hasApp os with
      | true=>forceK k (.ex e s')
      | false=>k (.ex e s'))
    | false=>(match hasApp os with
      | true=>runOpsZ P self rd os (List.range os.size) s fun e s'=>forceK k (.ex e s')
      | false=>stepC P self (.code rd (.region id os false) s) k))
  | t=>stepC P self t k
theorem stepF_drawn {P:Program}{sd:Self}{t:Task}{d1 d2:Program→Self→Option Nat→Nat→Array Oper→St→Option Out}(h:∀rd id os s,t≠.code rd (.region id os true) s):stepF d1 P sd t=stepF d2 P sd t:=by
  cases t with
  | code rd c s =>
    cases c with
    | region id os dr =>
      cases dr with
      | true=>exact (h rd id os s rfl).elim
      | false=>rfl
    | _=>rfl
  | _=>rfl
theorem stepZ_ok {P:Program}{self:SelfC}{sd:Self}(hs:CpsOk self sd):CpsOk (stepZ P self) (stepF drawnW P sd):=by
  intro t k r hc
  unfold stepZ at hc
  split at hc
  · rename_i rd id os dr s
    cases dr with
    | true =>
      simp only at hc
      obtain ⟨e,s',h1,h2⟩:=drawnWZ_ok (id:=id) hs hc
      refine ⟨.ex e s',by simpa only [stepF,if_true] using h1,?_⟩
      split at h2
      · rw [forceK_eq]at h2;exact h2
      · exact h2
    | false =>
      simp only at hc
      split at hc
      · rw [runOpsZ_eq,forceK_eq]at hc
        obtain ⟨o,h1,h2⟩:=stepC_ok hs (.code rd (.region id os false) s) k r hc
        exact ⟨o,(stepF_drawn (fun _ _ _ _ h=>by cases h)).trans h1,h2⟩
      · obtain ⟨o,h1,h2⟩:=stepC_ok hs (.code rd (.region id os false) s) k r hc
        exact ⟨o,(stepF_drawn (fun _ _ _ _ h=>by cases h)).trans h1,h2⟩
  · rename_i hn
    obtain ⟨o,h1,h2⟩:=stepC_ok hs _ k r hc
    exact ⟨o,(stepF_drawn (fun rd id os s h=>hn rd id os true s h)).trans h1,h2⟩
def evZ (P:Program)(oc:Task→Kn→Option (Option Out)):Nat→SelfC
  | 0,_,_=>none
  | n+1,t,k=>match oc t k with
    | some r=>r
    | none=>stepZ P (evZ P oc n) t k
theorem evZ_ok {P:Program}{oc:Task→Kn→Option (Option Out)}{orc:Self}(ho:OcOk oc orc):∀n,CpsOk (evZ P oc n) (iterO orc drawnW P n)
  | 0=>fun _ _ _ h=>by cases h
  | n+1=>by
    intro t k r h
    simp only [evZ]at h
    simp only [iterO]
    split at h
    · rename_i r' hr
      subst h
      obtain ⟨o,h1,h2⟩:=ho.1 _ _ _ hr
      rw [h1];exact ⟨_,rfl,h2⟩
    · rename_i hr
      rw [ho.2 _ _ hr]
      exact stepZ_ok (evZ_ok ho n) t k r h
theorem Known.factZ {P:Program}(hN:NoNG P) (hm:P.follows .mixedOrders=true) {a:Ans}(hk:Known P a) {n:Nat}{t:Task}{k:Kn}{r:Out}(h:evZ P a.c n t k=some r):∃o,k o=some r∧Fact P t o:=by
  obtain ⟨o',h1,h2⟩:=evZ_ok (P:=P) a.oc n t k r h
  have hh:=iterO_ok (drawn:=drawnW) hN (drawnW_ok hN hm) hk.selfOk hk.loopOk n
  refine ⟨o',h2,hh.1 _ _ h1,?_⟩
  unfold LoopFact
  split
  · exact fun hb=>hh.2 _ _ _ _ _ h1 hb
  · trivial
def CF.chk (P:Program)(l:List CF)(n:Nat)(c:CF):Bool:=match evZ P (tabA l).c n (.call c.g ⟨c.args⟩ ⟨[],0,[]⟩) frDK with
  | some (.ret u ⟨[],0,[]⟩)=>(match eqVn 12 u c.u with
    | true=>c.args.all pureA
    | false=>false)
  | _=>false
section
variable {P:Program}(hN:NoNG P) (hm:P.follows .mixedOrders=true)
include hN hm
theorem CF.of2 {l:List CF}(hl:CFs P l) (n:Nat) {c:CF}(h:c.chk P l n=true):c.Ok P:=by
  unfold CF.chk at h
  split at h
  · rename_i u he
    split at h
    · rename_i hu
      have e:=eqVn_eq hu
      subst e
      intro hp
      obtain ⟨o,h3,hf⟩:=(tabA_ok hl).factZ hN hm he
      cases o with
      | ret v h' =>
        simp only [frDK]at h3
        split at h3
        · rename_i u hu
          simp only [Option.some.injEq,Out.ret.injEq,and_true]at h3
          subst h3
          exact hf.liftD hu h hp
        · cases h3
      | _=>cases h3
    · cases h
  · cases h
end
end
end Go.Gi
namespace Go.Proofs.YtnagkgghkoolpaaGreat
open Go.Gi Go.RowKit
theorem noNG_of {P : Program} (h : (P.funcs.toList.all fun fn=>!(fn.name == "runtime.NumGoroutine")) = true) : NoNG P:=by
  intro f fn hf _
  rw [List.all_eq_true]at h
  have:=h fn (by rw [Array.mem_toList_iff];exact Array.mem_of_getElem? hf)
  simpa using this
theorem noNG:NoNG Tryz.prog:=noNG_of (by decide +kernel)
theorem mixed:Tryz.prog.follows .mixedOrders=true:=by decide +kernel
end Go.Proofs.YtnagkgghkoolpaaGreat
namespace Go.Proofs.YtnagkgghkoolpaaGreat.Old
end Go.Proofs.YtnagkgghkoolpaaGreat.Old
namespace Go.Proofs.YtnagkgghkoolpaaGreat
open Go.Gi Go.RowKit
noncomputable section
set_option maxRecDepth 100000
set_option maxHeartbeats 4000000
def wKnown0:Array Value:=⟨[.string ⟨⟨[98,117,110,107,101,114]⟩⟩,vJ 499999,vJ 399999,vI 0,vI 50000,vI 0,vI 8,vF,.string ⟨⟨[114,111,97,100]⟩⟩,vJ 299999,vJ 99999,vJ 9999,vI 10000,vI 1,vI 4,vF,.string ⟨⟨[114,97,105,108]⟩⟩,vJ 4999,vI 5000,vJ 4999,vI 5000,vI 2,vI 2,vT]⟩
def wKnown1:Array Value:=⟨[.string ⟨⟨[97,110,110]⟩⟩,vI 5,.string ⟨⟨[98,111,98]⟩⟩,vI 2,.string ⟨⟨[101,118,101]⟩⟩,vI 1]⟩
def wKnown2:Array Value:=⟨[.string ⟨⟨[114,101,100]⟩⟩,.string ⟨⟨[98,108,117,101]⟩⟩,.string ⟨⟨[103,114,101,121]⟩⟩]⟩
def wKnown3:Array Value:=⟨[.string ⟨⟨[109,111,116,111,114]⟩⟩,vI 0,vI 0,vI 100000,vI 5,lstV ⟨[vI 0,vI 1]⟩ 0 2 1,.string ⟨⟨[99,104,117,116,101]⟩⟩,vI 0,vI 3000,vI 20000,vI 3,lstV ⟨[vI 2]⟩ 0 1 1]⟩
def wKnown4:Array Value:=⟨[lstV wKnown0 0 3 8,lstV ⟨[vJ 0,vI 0,vI 0,vI 1,vI 2,vI 1]⟩ 0 3 2,lstV wKnown1 0 3 2,lstV wKnown2 0 3 1,lstV wKnown3 0 2 6,vI 0,vI 100]⟩
def wKnown5:Array Value:=⟨[.string ⟨⟨[114,97,110,103,101]⟩⟩,.string ⟨⟨[115,97,102,101,116,121]⟩⟩]⟩
def wKnown6:Array Value:=⟨[.string ⟨⟨[102,105,108,108]⟩⟩,lstV ⟨[]⟩ 0 0 1,vI 100,vI 200,vF,lstV ⟨[]⟩ 0 0 1,lstV ⟨[]⟩ 0 0 1,lstV ⟨[]⟩ 0 0 1,lstV ⟨[]⟩ 0 0 1,.string ⟨⟨[112,111,119,101,114]⟩⟩,lstV ⟨[vI 0]⟩ 0 1 1,vI 10,vI 500,vF,lstV ⟨[vI 0]⟩ 0 1 1,lstV ⟨[]⟩ 0 0 1,lstV ⟨[]⟩ 0 0 1,lstV ⟨[]⟩ 0 0 1,.string ⟨⟨[99,104,101,99,107]⟩⟩,lstV ⟨[vI 0]⟩ 0 1 1,vI 50,vI 300,vF,lstV ⟨[]⟩ 0 0 1,lstV ⟨[vI 0]⟩ 0 1 1,lstV ⟨[]⟩ 0 0 1,lstV ⟨[]⟩ 0 0 1,.string ⟨⟨[112,111,108,108]⟩⟩,lstV ⟨[vI 1,vI 2]⟩ 0 2 1,vI 0,vI 20,vT,lstV ⟨[]⟩ 0 0 1,lstV ⟨[vI 0]⟩ 0 1 1,lstV ⟨[]⟩ 0 0 1,lstV ⟨[]⟩ 0 0 1,.string ⟨⟨[108,97,117,110,99,104]⟩⟩,lstV ⟨[vI 3]⟩ 0 1 1,vI 5,vI 60,vT,lstV ⟨[]⟩ 0 0 1,lstV ⟨[vI 0]⟩ 0 1 1,lstV ⟨[vI 0]⟩ 0 1 1,lstV ⟨[]⟩ 0 0 1]⟩
def wKnown7:Array Value:=⟨[lstV wKnown0 0 3 8,lstV ⟨[vJ 0,vI 0,vI 0,vI 1,vI 2,vI 1]⟩ 0 3 2,lstV wKnown1 0 3 2,lstV wKnown2 0 3 1,lstV wKnown3 0 2 6,vI 0,vI 100,lstV wKnown5 0 2 1,lstV ⟨[.string ⟨⟨[109,97,105,110]⟩⟩,vI 1000,vI 2]⟩ 0 1 3,lstV wKnown6 0 5 9,lstV ⟨[vI 1,vI 3]⟩ 0 2 1,vI 200,vI 400]⟩
def wKnown8:Array Value:=⟨[vI 0,vI 1,vI 0,vI 0,vI 0,vI 0,vI 0,vI 0,vI 90,vI 2,vI 0,vI 0,vI 0,vI 0,vI 0,vI 0,vI 100,vI 2,vI 0,vI 0,vI 0,vI 0,vI 0,vI 0,vI 100,vI 1,vI 2,vI 0,vI 0,vI 0,vI 0,vI 0,vI 100,vI 1,vI 1,vI 0,vI 0,vI 0,vI 0,vI 0,vI 110,vI 1,vI 2,vI 0,vI 0,vI 0,vI 0,vI 0,vI 120,vI 2,vI 1,vI 0,vI 0,vI 0,vI 0,vI 0,vI 170,vI 2,vI 2,vI 0,vI 0,vI 0,vI 0,vI 0,vI 180,vI 1,vI 3,vI 0,vI 0,vI 0,vI 0,vI 0,vI 180,vI 5,vI 0,vI 0,vI 0,vI 0,vI 0,vI 0,vI 181,vI 5,vI 1,vI 0,vI 0,vI 0,vI 0,vI 0,vI 185,vI 1,vI 3,vI 0,vI 0,vI 0,vI 0,vI 0,vI 190,vI 2,vI 3,vI 0,vI 0,vI 0,vI 0,vI 0,vI 190,vI 1,vI 4,vI 0,vI 0,vI 0,vI 0,vI 0,vI 199,vI 2,vI 4,vI 0,vI 0,vI 0,vI 0,vI 0,vI 200,vI 2,vI 4,vI 0,vI 0,vI 0,vI 0,vI 0]⟩
def wKnown9:Array Value:=⟨[.string ⟨⟨[98,117,110,107,101,114]⟩⟩,vJ 499999,vJ 399999,vI 0,vI 50000,vI 0,vI 8,vF]⟩
def wKnown10:Array Value:=⟨[.string ⟨⟨[114,111,97,100]⟩⟩,vJ 299999,vJ 99999,vJ 9999,vI 10000,vI 1,vI 4,vF]⟩
def wKnown11:Array Value:=⟨[.string ⟨⟨[114,97,105,108]⟩⟩,vJ 4999,vI 5000,vJ 4999,vI 5000,vI 2,vI 2,vT]⟩
def wKnown12:Array Value:=⟨[.string ⟨⟨[109,111,116,111,114]⟩⟩,vI 0,vI 0,vI 100000,vI 5,lstV ⟨[vI 0,vI 1]⟩ 0 2 1]⟩
def wKnown13:Array Value:=⟨[.string ⟨⟨[99,104,117,116,101]⟩⟩,vI 0,vI 3000,vI 20000,vI 3,lstV ⟨[vI 2]⟩ 0 1 1]⟩
def wKnown14:Array Value:=⟨[vI 0,lstV ⟨[vJ 0,vJ 0,vJ 0]⟩ 0 3 1,lstV ⟨[vJ 0,vJ 0,vJ 0]⟩ 0 3 1,lstV ⟨[vI 0,vI 0]⟩ 0 2 1,vJ 0,vF]⟩
def wKnown15:Array Value:=⟨[vI 0,vI 0,lstV ⟨[vJ 0,vJ 0,vJ 0]⟩ 0 3 1,lstV ⟨[vJ 0,vJ 0,vJ 0]⟩ 0 3 1,lstV ⟨[vI 0,vI 0]⟩ 0 2 1,vJ 0,vF,lstV ⟨[vJ 0,vJ 0,vJ 0,vJ 0,vJ 0]⟩ 0 5 1,lstV ⟨[vJ 0,vJ 0,vJ 0,vJ 0,vJ 0]⟩ 0 5 1,vF,lstV ⟨[vF,vF]⟩ 0 2 1,lstV ⟨[vI 1000]⟩ 0 1 1,lstV ⟨[vF]⟩ 0 1 1]⟩
def wKnown16:Array Value:=⟨[vI 0,vI 0,lstV ⟨[vJ 0,vJ 0,vJ 0]⟩ 0 3 1,lstV ⟨[vJ 0,vJ 0,vJ 0]⟩ 0 3 1,lstV ⟨[vI 0,vI 0]⟩ 0 2 1,vJ 0,vF,lstV ⟨[vJ 0,vJ 0,vJ 0,vJ 0,vJ 0]⟩ 0 5 1,lstV ⟨[vJ 0,vJ 0,vJ 0,vJ 0,vJ 0]⟩ 0 5 1,vF,lstV ⟨[vF,vF]⟩ 0 2 1,lstV ⟨[vI 1000]⟩ 0 1 1,lstV ⟨[vF]⟩ 0 1 1,lstV wKnown0 0 3 8,lstV ⟨[vJ 0,vI 0,vI 0,vI 1,vI 2,vI 1]⟩ 0 3 2,lstV wKnown1 0 3 2,lstV wKnown2 0 3 1,lstV wKnown3 0 2 6,vI 0,vI 100,lstV wKnown5 0 2 1,lstV ⟨[.string ⟨⟨[109,97,105,110]⟩⟩,vI 1000,vI 2]⟩ 0 1 3,lstV wKnown6 0 5 9,lstV ⟨[vI 1,vI 3]⟩ 0 2 1,vI 200,vI 400]⟩
def wKnown17:Array Value:=⟨[vI 0,vI 0,lstV ⟨[vJ 0,vJ 0,vJ 0]⟩ 0 3 1,lstV ⟨[vJ 0,vJ 0,vJ 0]⟩ 0 3 1,lstV ⟨[vI 0,vI 0]⟩ 0 2 1,vJ 0,vF,lstV ⟨[vI 0,vJ 0,vJ 0,vJ 0,vJ 0]⟩ 0 5 1,lstV ⟨[vJ 0,vJ 0,vJ 0,vJ 0,vJ 0]⟩ 0 5 1,vF,lstV ⟨[vF,vF]⟩ 0 2 1,lstV ⟨[vI 1000]⟩ 0 1 1,lstV ⟨[vF]⟩ 0 1 1]⟩
def wKnown18:Array Value:=⟨[vI 0,vI 0,.slice none 0 0,.slice none 0 0,.slice none 0 0,vI 0,vF,.slice none 0 0,.slice none 0 0,vF,.slice none 0 0,.slice none 0 0,.slice none 0 0]⟩
def wKnown19:Array Value:=⟨[vI 0,vI 0,lstV ⟨[vJ 0,vJ 0,vJ 0]⟩ 0 3 1,lstV ⟨[vJ 0,vJ 0,vJ 0]⟩ 0 3 1,lstV ⟨[vI 0,vI 0]⟩ 0 2 1,vJ 0,vF,lstV ⟨[vI 0,vJ 0,vJ 0,vJ 0,vJ 0]⟩ 0 5 1,lstV ⟨[vJ 0,vJ 0,vJ 0,vJ 0,vJ 0]⟩ 0 5 1,vF,lstV ⟨[vF,vF]⟩ 0 2 1,lstV ⟨[vI 1000]⟩ 0 1 1,lstV ⟨[vF]⟩ 0 1 1,lstV wKnown0 0 3 8,lstV ⟨[vJ 0,vI 0,vI 0,vI 1,vI 2,vI 1]⟩ 0 3 2,lstV wKnown1 0 3 2,lstV wKnown2 0 3 1,lstV wKnown3 0 2 6,vI 0,vI 100,lstV wKnown5 0 2 1,lstV ⟨[.string ⟨⟨[109,97,105,110]⟩⟩,vI 1000,vI 2]⟩ 0 1 3,lstV wKnown6 0 5 9,lstV ⟨[vI 1,vI 3]⟩ 0 2 1,vI 200,vI 400]⟩
def wKnown20:Array Value:=⟨[vI 100,vI 0,lstV ⟨[vJ 0,vJ 0,vJ 0]⟩ 0 3 1,lstV ⟨[vJ 0,vJ 0,vJ 0]⟩ 0 3 1,lstV ⟨[vI 0,vI 0]⟩ 0 2 1,vJ 0,vF,lstV ⟨[vI 0,vJ 0,vJ 0,vJ 0,vJ 0]⟩ 0 5 1,lstV ⟨[vI 100,vJ 0,vJ 0,vJ 0,vJ 0]⟩ 0 5 1,vF,lstV ⟨[vF,vF]⟩ 0 2 1,lstV ⟨[vI 1000]⟩ 0 1 1,lstV ⟨[vF]⟩ 0 1 1]⟩
def wKnown21:Array Value:=⟨[vI 100,vI 0,lstV ⟨[vJ 0,vJ 0,vJ 0]⟩ 0 3 1,lstV ⟨[vJ 0,vJ 0,vJ 0]⟩ 0 3 1,lstV ⟨[vI 0,vI 0]⟩ 0 2 1,vJ 0,vF,lstV ⟨[vI 0,vJ 0,vJ 0,vJ 0,vJ 0]⟩ 0 5 1,lstV ⟨[vI 100,vJ 0,vJ 0,vJ 0,vJ 0]⟩ 0 5 1,vF,lstV ⟨[vF,vF]⟩ 0 2 1,lstV ⟨[vI 1000]⟩ 0 1 1,lstV ⟨[vF]⟩ 0 1 1,lstV wKnown0 0 3 8,lstV ⟨[vJ 0,vI 0,vI 0,vI 1,vI 2,vI 1]⟩ 0 3 2,lstV wKnown1 0 3 2,lstV wKnown2 0 3 1,lstV wKnown3 0 2 6,vI 0,vI 100,lstV wKnown5 0 2 1,lstV ⟨[.string ⟨⟨[109,97,105,110]⟩⟩,vI 1000,vI 2]⟩ 0 1 3,lstV wKnown6 0 5 9,lstV ⟨[vI 1,vI 3]⟩ 0 2 1,vI 200,vI 400]⟩
def wKnown22:Array Value:=⟨[vI 100,vI 0,lstV ⟨[vJ 0,vJ 0,vJ 0]⟩ 0 3 1,lstV ⟨[vJ 0,vJ 0,vJ 0]⟩ 0 3 1,lstV ⟨[vI 0,vI 0]⟩ 0 2 1,vJ 0,vF,lstV ⟨[vI 0,vI 100,vJ 0,vJ 0,vJ 0]⟩ 0 5 1,lstV ⟨[vI 100,vJ 0,vJ 0,vJ 0,vJ 0]⟩ 0 5 1,vF,lstV ⟨[vF,vF]⟩ 0 2 1,lstV ⟨[vI 1000]⟩ 0 1 1,lstV ⟨[vT]⟩ 0 1 1]⟩
def wKnown23:Array Value:=⟨[vI 100,vI 0,lstV ⟨[vJ 0,vJ 0,vJ 0]⟩ 0 3 1,lstV ⟨[vJ 0,vJ 0,vJ 0]⟩ 0 3 1,lstV ⟨[vI 0,vI 0]⟩ 0 2 1,vJ 0,vF,lstV ⟨[vI 0,vI 100,vJ 0,vJ 0,vJ 0]⟩ 0 5 1,lstV ⟨[vI 100,vJ 0,vJ 0,vJ 0,vJ 0]⟩ 0 5 1,vF,lstV ⟨[vF,vF]⟩ 0 2 1,lstV ⟨[vI 1000]⟩ 0 1 1,lstV ⟨[vT]⟩ 0 1 1,lstV wKnown0 0 3 8,lstV ⟨[vJ 0,vI 0,vI 0,vI 1,vI 2,vI 1]⟩ 0 3 2,lstV wKnown1 0 3 2,lstV wKnown2 0 3 1,lstV wKnown3 0 2 6,vI 0,vI 100,lstV wKnown5 0 2 1,lstV ⟨[.string ⟨⟨[109,97,105,110]⟩⟩,vI 1000,vI 2]⟩ 0 1 3,lstV wKnown6 0 5 9,lstV ⟨[vI 1,vI 3]⟩ 0 2 1,vI 200,vI 400]⟩
def wKnown24:Array Value:=⟨[vI 110,vI 0,lstV ⟨[vJ 0,vJ 0,vJ 0]⟩ 0 3 1,lstV ⟨[vJ 0,vJ 0,vJ 0]⟩ 0 3 1,lstV ⟨[vI 0,vI 0]⟩ 0 2 1,vJ 0,vF,lstV ⟨[vI 0,vI 100,vI 110,vJ 0,vJ 0]⟩ 0 5 1,lstV ⟨[vI 100,vJ 0,vJ 0,vJ 0,vJ 0]⟩ 0 5 1,vF,lstV ⟨[vF,vF]⟩ 0 2 1,lstV ⟨[vI 980]⟩ 0 1 1,lstV ⟨[vT]⟩ 0 1 1]⟩
def wKnown25:Array Value:=⟨[vI 110,vI 0,lstV ⟨[vJ 0,vJ 0,vJ 0]⟩ 0 3 1,lstV ⟨[vJ 0,vJ 0,vJ 0]⟩ 0 3 1,lstV ⟨[vI 0,vI 0]⟩ 0 2 1,vJ 0,vF,lstV ⟨[vI 0,vI 100,vI 110,vJ 0,vJ 0]⟩ 0 5 1,lstV ⟨[vI 100,vJ 0,vJ 0,vJ 0,vJ 0]⟩ 0 5 1,vF,lstV ⟨[vF,vF]⟩ 0 2 1,lstV ⟨[vI 980]⟩ 0 1 1,lstV ⟨[vT]⟩ 0 1 1,lstV wKnown0 0 3 8,lstV ⟨[vJ 0,vI 0,vI 0,vI 1,vI 2,vI 1]⟩ 0 3 2,lstV wKnown1 0 3 2,lstV wKnown2 0 3 1,lstV wKnown3 0 2 6,vI 0,vI 100,lstV wKnown5 0 2 1,lstV ⟨[.string ⟨⟨[109,97,105,110]⟩⟩,vI 1000,vI 2]⟩ 0 1 3,lstV wKnown6 0 5 9,lstV ⟨[vI 1,vI 3]⟩ 0 2 1,vI 200,vI 400]⟩
def wKnown26:Array Value:=⟨[vI 120,vI 0,lstV ⟨[vJ 0,vJ 0,vJ 0]⟩ 0 3 1,lstV ⟨[vJ 0,vJ 0,vJ 0]⟩ 0 3 1,lstV ⟨[vI 0,vI 0]⟩ 0 2 1,vJ 0,vF,lstV ⟨[vI 0,vI 100,vI 110,vJ 0,vJ 0]⟩ 0 5 1,lstV ⟨[vI 100,vI 120,vJ 0,vJ 0,vJ 0]⟩ 0 5 1,vF,lstV ⟨[vF,vF]⟩ 0 2 1,lstV ⟨[vI 960]⟩ 0 1 1,lstV ⟨[vT]⟩ 0 1 1]⟩
def wKnown27:Array Value:=⟨[vI 120,vI 0,lstV ⟨[vJ 0,vJ 0,vJ 0]⟩ 0 3 1,lstV ⟨[vJ 0,vJ 0,vJ 0]⟩ 0 3 1,lstV ⟨[vI 0,vI 0]⟩ 0 2 1,vJ 0,vF,lstV ⟨[vI 0,vI 100,vI 110,vJ 0,vJ 0]⟩ 0 5 1,lstV ⟨[vI 100,vI 120,vJ 0,vJ 0,vJ 0]⟩ 0 5 1,vF,lstV ⟨[vF,vF]⟩ 0 2 1,lstV ⟨[vI 960]⟩ 0 1 1,lstV ⟨[vT]⟩ 0 1 1,lstV wKnown0 0 3 8,lstV ⟨[vJ 0,vI 0,vI 0,vI 1,vI 2,vI 1]⟩ 0 3 2,lstV wKnown1 0 3 2,lstV wKnown2 0 3 1,lstV wKnown3 0 2 6,vI 0,vI 100,lstV wKnown5 0 2 1,lstV ⟨[.string ⟨⟨[109,97,105,110]⟩⟩,vI 1000,vI 2]⟩ 0 1 3,lstV wKnown6 0 5 9,lstV ⟨[vI 1,vI 3]⟩ 0 2 1,vI 200,vI 400]⟩
def wKnown28:Array Value:=⟨[vI 170,vI 0,lstV ⟨[vJ 0,vJ 0,vJ 0]⟩ 0 3 1,lstV ⟨[vJ 0,vJ 0,vJ 0]⟩ 0 3 1,lstV ⟨[vI 0,vI 0]⟩ 0 2 1,vJ 0,vF,lstV ⟨[vI 0,vI 100,vI 110,vJ 0,vJ 0]⟩ 0 5 1,lstV ⟨[vI 100,vI 120,vI 170,vJ 0,vJ 0]⟩ 0 5 1,vF,lstV ⟨[vF,vF]⟩ 0 2 1,lstV ⟨[vI 860]⟩ 0 1 1,lstV ⟨[vT]⟩ 0 1 1]⟩
def wKnown29:Array Value:=⟨[vI 170,vI 0,lstV ⟨[vJ 0,vJ 0,vJ 0]⟩ 0 3 1,lstV ⟨[vJ 0,vJ 0,vJ 0]⟩ 0 3 1,lstV ⟨[vI 0,vI 0]⟩ 0 2 1,vJ 0,vF,lstV ⟨[vI 0,vI 100,vI 110,vJ 0,vJ 0]⟩ 0 5 1,lstV ⟨[vI 100,vI 120,vI 170,vJ 0,vJ 0]⟩ 0 5 1,vF,lstV ⟨[vF,vF]⟩ 0 2 1,lstV ⟨[vI 860]⟩ 0 1 1,lstV ⟨[vT]⟩ 0 1 1,lstV wKnown0 0 3 8,lstV ⟨[vJ 0,vI 0,vI 0,vI 1,vI 2,vI 1]⟩ 0 3 2,lstV wKnown1 0 3 2,lstV wKnown2 0 3 1,lstV wKnown3 0 2 6,vI 0,vI 100,lstV wKnown5 0 2 1,lstV ⟨[.string ⟨⟨[109,97,105,110]⟩⟩,vI 1000,vI 2]⟩ 0 1 3,lstV wKnown6 0 5 9,lstV ⟨[vI 1,vI 3]⟩ 0 2 1,vI 200,vI 400]⟩
def wKnown30:Array Value:=⟨[vI 180,vI 0,lstV ⟨[vJ 0,vJ 0,vJ 0]⟩ 0 3 1,lstV ⟨[vJ 0,vJ 0,vJ 0]⟩ 0 3 1,lstV ⟨[vI 0,vI 0]⟩ 0 2 1,vJ 0,vF,lstV ⟨[vI 0,vI 100,vI 110,vJ 0,vJ 0]⟩ 0 5 1,lstV ⟨[vI 100,vI 120,vI 170,vJ 0,vJ 0]⟩ 0 5 1,vF,lstV ⟨[vT,vF]⟩ 0 2 1,lstV ⟨[vI 840]⟩ 0 1 1,lstV ⟨[vT]⟩ 0 1 1]⟩
def wKnown31:Array Value:=⟨[vI 180,vI 0,lstV ⟨[vJ 0,vJ 0,vJ 0]⟩ 0 3 1,lstV ⟨[vJ 0,vJ 0,vJ 0]⟩ 0 3 1,lstV ⟨[vI 0,vI 0]⟩ 0 2 1,vJ 0,vF,lstV ⟨[vI 0,vI 100,vI 110,vJ 0,vJ 0]⟩ 0 5 1,lstV ⟨[vI 100,vI 120,vI 170,vJ 0,vJ 0]⟩ 0 5 1,vF,lstV ⟨[vT,vF]⟩ 0 2 1,lstV ⟨[vI 840]⟩ 0 1 1,lstV ⟨[vT]⟩ 0 1 1,lstV wKnown0 0 3 8,lstV ⟨[vJ 0,vI 0,vI 0,vI 1,vI 2,vI 1]⟩ 0 3 2,lstV wKnown1 0 3 2,lstV wKnown2 0 3 1,lstV wKnown3 0 2 6,vI 0,vI 100,lstV wKnown5 0 2 1,lstV ⟨[.string ⟨⟨[109,97,105,110]⟩⟩,vI 1000,vI 2]⟩ 0 1 3,lstV wKnown6 0 5 9,lstV ⟨[vI 1,vI 3]⟩ 0 2 1,vI 200,vI 400]⟩
def wKnown32:Array Value:=⟨[vI 181,vI 0,lstV ⟨[vJ 0,vJ 0,vJ 0]⟩ 0 3 1,lstV ⟨[vJ 0,vJ 0,vJ 0]⟩ 0 3 1,lstV ⟨[vI 0,vI 0]⟩ 0 2 1,vJ 0,vF,lstV ⟨[vI 0,vI 100,vI 110,vJ 0,vJ 0]⟩ 0 5 1,lstV ⟨[vI 100,vI 120,vI 170,vJ 0,vJ 0]⟩ 0 5 1,vF,lstV ⟨[vT,vT]⟩ 0 2 1,lstV ⟨[vI 838]⟩ 0 1 1,lstV ⟨[vT]⟩ 0 1 1]⟩
def wKnown33:Array Value:=⟨[vI 181,vI 0,lstV ⟨[vJ 0,vJ 0,vJ 0]⟩ 0 3 1,lstV ⟨[vJ 0,vJ 0,vJ 0]⟩ 0 3 1,lstV ⟨[vI 0,vI 0]⟩ 0 2 1,vJ 0,vF,lstV ⟨[vI 0,vI 100,vI 110,vJ 0,vJ 0]⟩ 0 5 1,lstV ⟨[vI 100,vI 120,vI 170,vJ 0,vJ 0]⟩ 0 5 1,vF,lstV ⟨[vT,vT]⟩ 0 2 1,lstV ⟨[vI 838]⟩ 0 1 1,lstV ⟨[vT]⟩ 0 1 1,lstV wKnown0 0 3 8,lstV ⟨[vJ 0,vI 0,vI 0,vI 1,vI 2,vI 1]⟩ 0 3 2,lstV wKnown1 0 3 2,lstV wKnown2 0 3 1,lstV wKnown3 0 2 6,vI 0,vI 100,lstV wKnown5 0 2 1,lstV ⟨[.string ⟨⟨[109,97,105,110]⟩⟩,vI 1000,vI 2]⟩ 0 1 3,lstV wKnown6 0 5 9,lstV ⟨[vI 1,vI 3]⟩ 0 2 1,vI 200,vI 400]⟩
def wKnown34:Array Value:=⟨[vI 185,vI 0,lstV ⟨[vJ 0,vJ 0,vJ 0]⟩ 0 3 1,lstV ⟨[vJ 0,vJ 0,vJ 0]⟩ 0 3 1,lstV ⟨[vI 0,vI 0]⟩ 0 2 1,vJ 0,vF,lstV ⟨[vI 0,vI 100,vI 110,vI 185,vJ 0]⟩ 0 5 1,lstV ⟨[vI 100,vI 120,vI 170,vJ 0,vJ 0]⟩ 0 5 1,vF,lstV ⟨[vT,vT]⟩ 0 2 1,lstV ⟨[vI 830]⟩ 0 1 1,lstV ⟨[vT]⟩ 0 1 1]⟩
def wKnown35:Array Value:=⟨[vI 185,vI 0,lstV ⟨[vJ 0,vJ 0,vJ 0]⟩ 0 3 1,lstV ⟨[vJ 0,vJ 0,vJ 0]⟩ 0 3 1,lstV ⟨[vI 0,vI 0]⟩ 0 2 1,vJ 0,vF,lstV ⟨[vI 0,vI 100,vI 110,vI 185,vJ 0]⟩ 0 5 1,lstV ⟨[vI 100,vI 120,vI 170,vJ 0,vJ 0]⟩ 0 5 1,vF,lstV ⟨[vT,vT]⟩ 0 2 1,lstV ⟨[vI 830]⟩ 0 1 1,lstV ⟨[vT]⟩ 0 1 1,lstV wKnown0 0 3 8,lstV ⟨[vJ 0,vI 0,vI 0,vI 1,vI 2,vI 1]⟩ 0 3 2,lstV wKnown1 0 3 2,lstV wKnown2 0 3 1,lstV wKnown3 0 2 6,vI 0,vI 100,lstV wKnown5 0 2 1,lstV ⟨[.string ⟨⟨[109,97,105,110]⟩⟩,vI 1000,vI 2]⟩ 0 1 3,lstV wKnown6 0 5 9,lstV ⟨[vI 1,vI 3]⟩ 0 2 1,vI 200,vI 400]⟩
def wKnown36:Array Value:=⟨[vI 190,vI 0,lstV ⟨[vJ 0,vJ 0,vJ 0]⟩ 0 3 1,lstV ⟨[vJ 0,vJ 0,vJ 0]⟩ 0 3 1,lstV ⟨[vI 0,vI 0]⟩ 0 2 1,vJ 0,vF,lstV ⟨[vI 0,vI 100,vI 110,vI 185,vJ 0]⟩ 0 5 1,lstV ⟨[vI 100,vI 120,vI 170,vI 190,vJ 0]⟩ 0 5 1,vF,lstV ⟨[vT,vT]⟩ 0 2 1,lstV ⟨[vI 820]⟩ 0 1 1,lstV ⟨[vT]⟩ 0 1 1]⟩
def wKnown37:Array Value:=⟨[vI 190,vI 0,lstV ⟨[vJ 0,vJ 0,vJ 0]⟩ 0 3 1,lstV ⟨[vJ 0,vJ 0,vJ 0]⟩ 0 3 1,lstV ⟨[vI 0,vI 0]⟩ 0 2 1,vJ 0,vF,lstV ⟨[vI 0,vI 100,vI 110,vI 185,vJ 0]⟩ 0 5 1,lstV ⟨[vI 100,vI 120,vI 170,vI 190,vJ 0]⟩ 0 5 1,vF,lstV ⟨[vT,vT]⟩ 0 2 1,lstV ⟨[vI 820]⟩ 0 1 1,lstV ⟨[vT]⟩ 0 1 1,lstV wKnown0 0 3 8,lstV ⟨[vJ 0,vI 0,vI 0,vI 1,vI 2,vI 1]⟩ 0 3 2,lstV wKnown1 0 3 2,lstV wKnown2 0 3 1,lstV wKnown3 0 2 6,vI 0,vI 100,lstV wKnown5 0 2 1,lstV ⟨[.string ⟨⟨[109,97,105,110]⟩⟩,vI 1000,vI 2]⟩ 0 1 3,lstV wKnown6 0 5 9,lstV ⟨[vI 1,vI 3]⟩ 0 2 1,vI 200,vI 400]⟩
def wKnown38:Array Value:=⟨[vI 190,vI 0,lstV ⟨[vJ 0,vJ 0,vJ 0]⟩ 0 3 1,lstV ⟨[vJ 0,vJ 0,vJ 0]⟩ 0 3 1,lstV ⟨[vI 0,vI 0]⟩ 0 2 1,vJ 0,vF,lstV ⟨[vI 0,vI 100,vI 110,vI 185,vI 190]⟩ 0 5 1,lstV ⟨[vI 100,vI 120,vI 170,vI 190,vJ 0]⟩ 0 5 1,vF,lstV ⟨[vT,vT]⟩ 0 2 1,lstV ⟨[vI 820]⟩ 0 1 1,lstV ⟨[vT]⟩ 0 1 1]⟩
def wKnown39:Array Value:=⟨[vI 190,vI 0,lstV ⟨[vJ 0,vJ 0,vJ 0]⟩ 0 3 1,lstV ⟨[vJ 0,vJ 0,vJ 0]⟩ 0 3 1,lstV ⟨[vI 0,vI 0]⟩ 0 2 1,vJ 0,vF,lstV ⟨[vI 0,vI 100,vI 110,vI 185,vI 190]⟩ 0 5 1,lstV ⟨[vI 100,vI 120,vI 170,vI 190,vJ 0]⟩ 0 5 1,vF,lstV ⟨[vT,vT]⟩ 0 2 1,lstV ⟨[vI 820]⟩ 0 1 1,lstV ⟨[vT]⟩ 0 1 1,lstV wKnown0 0 3 8,lstV ⟨[vJ 0,vI 0,vI 0,vI 1,vI 2,vI 1]⟩ 0 3 2,lstV wKnown1 0 3 2,lstV wKnown2 0 3 1,lstV wKnown3 0 2 6,vI 0,vI 100,lstV wKnown5 0 2 1,lstV ⟨[.string ⟨⟨[109,97,105,110]⟩⟩,vI 1000,vI 2]⟩ 0 1 3,lstV wKnown6 0 5 9,lstV ⟨[vI 1,vI 3]⟩ 0 2 1,vI 200,vI 400]⟩
def wKnown40:Array Value:=⟨[vI 200,vI 0,lstV ⟨[vJ 0,vJ 0,vJ 0]⟩ 0 3 1,lstV ⟨[vJ 0,vJ 0,vJ 0]⟩ 0 3 1,lstV ⟨[vI 0,vI 0]⟩ 0 2 1,vJ 0,vF,lstV ⟨[vI 0,vI 100,vI 110,vI 185,vI 190]⟩ 0 5 1,lstV ⟨[vI 100,vI 120,vI 170,vI 190,vI 200]⟩ 0 5 1,vF,lstV ⟨[vT,vT]⟩ 0 2 1,lstV ⟨[vI 800]⟩ 0 1 1,lstV ⟨[vF]⟩ 0 1 1]⟩
def wKnown41:Array Value:=⟨[vI 200,vI 0,lstV ⟨[vJ 0,vJ 0,vJ 0]⟩ 0 3 1,lstV ⟨[vJ 0,vJ 0,vJ 0]⟩ 0 3 1,lstV ⟨[vI 0,vI 0]⟩ 0 2 1,vJ 0,vF,lstV ⟨[vI 0,vI 100,vI 110,vI 185,vI 190]⟩ 0 5 1,lstV ⟨[vI 100,vI 120,vI 170,vI 190,vI 200]⟩ 0 5 1,vF,lstV ⟨[vT,vT]⟩ 0 2 1,lstV ⟨[vI 800]⟩ 0 1 1,lstV ⟨[vF]⟩ 0 1 1,lstV wKnown0 0 3 8,lstV ⟨[vJ 0,vI 0,vI 0,vI 1,vI 2,vI 1]⟩ 0 3 2,lstV wKnown1 0 3 2,lstV wKnown2 0 3 1,lstV wKnown3 0 2 6,vI 0,vI 100,lstV wKnown5 0 2 1,lstV ⟨[.string ⟨⟨[109,97,105,110]⟩⟩,vI 1000,vI 2]⟩ 0 1 3,lstV wKnown6 0 5 9,lstV ⟨[vI 1,vI 3]⟩ 0 2 1,vI 200,vI 400]⟩
def wKnown42:Array Value:=⟨[vI 0,vI 186,vI 0,vI 185,vI 0,vI 0,vI 0,vI 0,vI 184,vI 0,vI 0,vI 0,vI 0,vI 0,vI 187,vI 0]⟩
def wKnown43:Array Value:=⟨[vI 0,vI 186,vI 0,vI 185,vI 0,vI 0,vI 0,vI 0,vI 184,vI 0,vI 0,vI 0,vI 0]⟩
def wKnown44:Array Value:=⟨[vI 191,vI 0,lstV ⟨[vJ 0,vJ 0,vJ 0]⟩ 0 3 1,lstV ⟨[vJ 0,vJ 0,vJ 0]⟩ 0 3 1,lstV ⟨[vI 0,vI 0]⟩ 0 2 1,vJ 0,vF,lstV ⟨[vI 0,vI 100,vI 110,vI 185,vJ 0]⟩ 0 5 1,lstV ⟨[vI 100,vI 120,vI 170,vI 190,vJ 0]⟩ 0 5 1,vT,lstV ⟨[vT,vF]⟩ 0 2 1,lstV ⟨[vI 818]⟩ 0 1 1,lstV ⟨[vT]⟩ 0 1 1]⟩
def wKnown45:Array Value:=⟨[vI 191,vI 0,lstV ⟨[vJ 0,vJ 0,vJ 0]⟩ 0 3 1,lstV ⟨[vJ 0,vJ 0,vJ 0]⟩ 0 3 1,lstV ⟨[vI 0,vI 0]⟩ 0 2 1,vJ 0,vF,lstV ⟨[vI 0,vI 100,vI 110,vI 185,vJ 0]⟩ 0 5 1,lstV ⟨[vI 100,vI 120,vI 170,vI 190,vJ 0]⟩ 0 5 1,vT,lstV ⟨[vT,vF]⟩ 0 2 1,lstV ⟨[vI 818]⟩ 0 1 1,lstV ⟨[vT]⟩ 0 1 1,lstV wKnown0 0 3 8,lstV ⟨[vJ 0,vI 0,vI 0,vI 1,vI 2,vI 1]⟩ 0 3 2,lstV wKnown1 0 3 2,lstV wKnown2 0 3 1,lstV wKnown3 0 2 6,vI 0,vI 100,lstV wKnown5 0 2 1,lstV ⟨[.string ⟨⟨[109,97,105,110]⟩⟩,vI 1000,vI 2]⟩ 0 1 3,lstV wKnown6 0 5 9,lstV ⟨[vI 1,vI 3]⟩ 0 2 1,vI 200,vI 400]⟩
def wKnown46:Array Value:=⟨[vI 195,vI 0,lstV ⟨[vJ 0,vJ 0,vJ 0]⟩ 0 3 1,lstV ⟨[vJ 0,vJ 0,vJ 0]⟩ 0 3 1,lstV ⟨[vI 0,vI 0]⟩ 0 2 1,vJ 0,vF,lstV ⟨[vI 0,vJ 0,vJ 0,vJ 0,vJ 0]⟩ 0 5 1,lstV ⟨[vI 100,vJ 0,vJ 0,vJ 0,vJ 0]⟩ 0 5 1,vT,lstV ⟨[vF,vF]⟩ 0 2 1,lstV ⟨[vI 810]⟩ 0 1 1,lstV ⟨[vF]⟩ 0 1 1]⟩
def wKnown47:Array Value:=⟨[vI 195,vI 0,lstV ⟨[vJ 0,vJ 0,vJ 0]⟩ 0 3 1,lstV ⟨[vJ 0,vJ 0,vJ 0]⟩ 0 3 1,lstV ⟨[vI 0,vI 0]⟩ 0 2 1,vJ 0,vF,lstV ⟨[vI 0,vJ 0,vJ 0,vJ 0,vJ 0]⟩ 0 5 1,lstV ⟨[vI 100,vJ 0,vJ 0,vJ 0,vJ 0]⟩ 0 5 1,vT,lstV ⟨[vF,vF]⟩ 0 2 1,lstV ⟨[vI 810]⟩ 0 1 1,lstV ⟨[vF]⟩ 0 1 1,lstV wKnown0 0 3 8,lstV ⟨[vJ 0,vI 0,vI 0,vI 1,vI 2,vI 1]⟩ 0 3 2,lstV wKnown1 0 3 2,lstV wKnown2 0 3 1,lstV wKnown3 0 2 6,vI 0,vI 100,lstV wKnown5 0 2 1,lstV ⟨[.string ⟨⟨[109,97,105,110]⟩⟩,vI 1000,vI 2]⟩ 0 1 3,lstV wKnown6 0 5 9,lstV ⟨[vI 1,vI 3]⟩ 0 2 1,vI 200,vI 400]⟩
end
end Go.Proofs.YtnagkgghkoolpaaGreat
