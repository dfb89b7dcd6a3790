/- Part 6 of the texts below the claim. Conditions: none. -/
import Derived.Test.YtlccpongnnpbeaaMg5
import Derived.Test.YtlccpongnnpbeaaMg4
import Derived.Test.YtlccpongnnpbeaaProg
set_option linter.unusedVariables false
set_option linter.unusedSimpArgs false
namespace Go.Gi
open Go.RowKit
noncomputable section
def obKept (n:Nat) (ob ob':Ob):Bool:=(!ob'.live||ob.live)&&(!ob'.rw||ob.rw)&&obSc n ob'
inductive ObsKept (n:Nat):List Ob→List Ob→Prop
  | nil:ObsKept n [] []
  | cons {o o':Ob} {l l':List Ob} (h:obKept n o o'=true) (r:ObsKept n l l'):ObsKept n (o::l) (o'::l')
theorem ObsKept.len {n:Nat} {l l':List Ob}(h:ObsKept n l l'):l'.length=l.length:=by
  induction h with
  | nil=>rfl
  | cons _ _ ih=>simp [ih]
theorem ObsKept.get {n:Nat} {l l':List Ob}(h:ObsKept n l l'):∀{b:Nat} {ob':Ob},l'[b]?=some ob'→∃ob,l[b]?=some ob∧(ob'.live=true→ob.live=true)∧(ob'.rw=true→ob.rw=true)∧obSc n ob'=true:=by
  induction h with
  | nil=>intro b ob' h;simp at h
  | @cons o o' l l' h _ ih =>
    intro b ob' hb
    cases b with
    | zero =>
      simp only [List.getElem?_cons_zero,Option.some.injEq]at hb
      subst hb
      simp only [obKept,Bool.and_eq_true,Bool.or_eq_true,Bool.not_eq_true']at h
      refine ⟨o,rfl,fun hl=>?_,fun hr=>?_,h.2⟩
      · rcases h.1.1 with h1 | h1
        · rw [hl]at h1;cases h1
        · exact h1
      · rcases h.1.2 with h1 | h1
        · rw [hr]at h1;cases h1
        · exact h1
    | succ b =>
      simp only [List.getElem?_cons_succ]at hb ⊢
      exact ih hb
section
variable {P:Program}{K:Nat→Prop} {w0 w w':World} {φ φ':Phi}{H0 G H1 X:List Ob}
def RwAt (φ:Phi)(H:List Ob)(k:Nat):Prop:=∃(b:Nat) (ob:Ob) (x:Nat×Nat×Nat),H[b]?=some ob∧ob.rw=true∧φ b=some x∧x.1=k
theorem get_left {b:Nat}{ob:Ob}(h:H0[b]?=some ob):(H0++G)[b]?=some ob:=by
  rw [List.getElem?_append_left (List.getElem?_eq_some_iff.1 h).1];exact h
theorem Inv.narrow (hI:Inv K w0 φ (H0++G) w)(hsc:∀(b:Nat)(ob:Ob),H0[b]?=some ob→obSc H0.length ob=true) :
    Inv (fun k=>k<w.heap.size∧¬RwAt φ H0 k∧φ.z k=none) w (cut φ H0.length) H0 w:=by
  refine ⟨?_,?_,?_,fun _ _=>rfl,fun _ h=>h.1,Nat.le_refl _,rfl,rfl,rfl,fun b hb=>cut_ge hb,hI.frz,?_,fun k hk=>hk.2.2⟩
  · intro b ob hb hl
    obtain ⟨B,base,tot,h1,h2⟩:=hI.obs b ob (get_left hb) hl
    exact ⟨B,base,tot,(cut_lt (List.getElem?_eq_some_iff.1 hb).1).trans h1,obSc_cut (hsc b ob hb) h2⟩
  · intro b b' ob ob' x y hne hb hb' hrw hl hx hy
    rw [cut_lt (List.getElem?_eq_some_iff.1 hb).1]at hx
    rw [cut_lt (List.getElem?_eq_some_iff.1 hb').1]at hy
    exact hI.sep b b' ob ob' x y hne (get_left hb) (get_left hb') hrw hl hx hy
  · intro b ob x hb hrw hx hk
    rw [cut_lt (List.getElem?_eq_some_iff.1 hb).1]at hx
    exact hk.2.1 ⟨b,ob,x,hb,hrw,hx,rfl⟩
  · intro b ob x hb hrw hx
    rw [cut_lt (List.getElem?_eq_some_iff.1 hb).1]at hx
    exact hI.zsep b ob x (get_left hb) hrw hx
theorem Inv.widen (hI:Inv K w0 φ (H0++G) w)(hF:Inv (fun k=>k<w.heap.size∧¬RwAt φ H0 k∧φ.z k=none) w φ' (H1++X) w')(hle:le (cut φ H0.length) φ')(hk:ObsKept H0.length H0 H1) :
    ∃φ'',le φ φ''∧le (cut φ' H0.length) φ''∧Inv K w0 φ'' (H1++G) w':=by
  have hlen:=hk.len
  refine ⟨⟨fun b=>if b<H0.length then φ' b else φ b,φ'.z⟩,⟨?_,hle.zz⟩,⟨?_,fun _ _ h=>h⟩,?_⟩
  · intro b x hx
    show (if b<H0.length then φ' b else φ b)=some x
    split
    · rename_i hlt;exact hle b x ((cut_lt hlt).trans hx)
    · exact hx
  · intro b x hx
    show (if b<H0.length then φ' b else φ b)=some x
    split
    · rename_i hlt;rwa [cut_lt hlt]at hx
    · rename_i hge;rw [cut_ge (by omega)]at hx;cases hx
  have hφlt:∀{b:Nat},b<H0.length→(if b<H0.length then φ' b else φ b)=φ' b:=fun h=>if_pos h
  have hφge:∀{b:Nat},¬b<H0.length→(if b<H0.length then φ' b else φ b)=φ b:=fun h=>if_neg h
  have hleφ:le φ ⟨fun b=>if b<H0.length then φ' b else φ b,φ'.z⟩:=by
    refine ⟨?_,hle.zz⟩
    intro b x hx
    show (if b<H0.length then φ' b else φ b)=some x
    split
    · rename_i hlt;exact hle b x ((cut_lt hlt).trans hx)
    · exact hx
  have hlec:le (cut φ' H0.length) ⟨fun b=>if b<H0.length then φ' b else φ b,φ'.z⟩:=by
    refine ⟨?_,fun _ _ h=>h⟩
    intro b x hx
    show (if b<H0.length then φ' b else φ b)=some x
    split
    · rename_i hlt;rwa [cut_lt hlt]at hx
    · rename_i hge;rw [cut_ge (by omega)]at hx;cases hx
  have hcase:∀{b:Nat} {ob:Ob},(H1++G)[b]?=some ob→(b<H0.length∧H1[b]?=some ob)∨(¬b<H0.length∧(H0++G)[b]?=some ob):=by
    intro b ob hb
    by_cases hlt:b<H0.length
    · rw [List.getElem?_append_left (by omega)]at hb;exact .inl ⟨hlt,hb⟩
    · rw [List.getElem?_append_right (by omega)]at hb
      refine .inr ⟨hlt,?_⟩
      rw [List.getElem?_append_right (by omega),← hlen];exact hb
  have hold:∀k,k<w.heap.size→¬RwAt φ H0 k→w'.heap[k]?=w.heap[k]?:=fun k h1 h2=>by
    cases hz:φ.z k with
    | none=>exact hF.keep k ⟨h1,h2,hz⟩
    | some o=>rw [hI.frz k o hz,hF.frz k o (hle.zz k o hz)]
  have hwas:∀{b:Nat} {ob:Ob} {x:Nat×Nat×Nat},H1[b]?=some ob→ob.live=true→φ' b=some x→φ b=some x:=by
    intro b ob x hb hl hx
    obtain ⟨ob0,h0,hl0,_,_⟩:=hk.get hb
    obtain ⟨B,base,tot,h1,_⟩:=hI.obs b ob0 (get_left h0) (hl0 hl)
    have:=hle b _ ((cut_lt (List.getElem?_eq_some_iff.1 h0).1).trans h1)
    rw [hx]at this
    rw [h1,this]
  refine ⟨?_,?_,?_,?_,hI.klt,Nat.le_trans hI.size hF.size,hF.os.trans hI.os,hF.tape.trans hI.tape,hF.output.trans hI.output,?_,hF.frz,?_,?_⟩
  · intro b ob hb hl
    rcases hcase hb with ⟨hlt,h1⟩ | ⟨hge,h1⟩
    · obtain ⟨B,base,tot,h2,h3⟩:=hF.obs b ob (get_left h1) hl
      obtain ⟨_,_,_,_,hsc⟩:=hk.get h1
      exact ⟨B,base,tot,(hφlt hlt).trans h2,(obSc_cut hsc h3).keep hlec rfl⟩
    · obtain ⟨B,base,tot,h2,h3⟩:=hI.obs b ob h1 hl
      refine ⟨B,base,tot,(hφge hge).trans h2,h3.keep hleφ (hold B (h3.lt hl) ?_)⟩
      rintro ⟨b0,ob0,x,h4,h5,h6,h7⟩
      have hb0:=(List.getElem?_eq_some_iff.1 h4).1
      exact hI.sep b0 b ob0 ob x _ (by omega) (get_left h4) h1 h5 hl h6 h2 h7
  · intro b b' ob ob' x y hne hb hb' hrw hl hx hy
    rcases hcase hb with ⟨hlt,h1⟩ | ⟨hge,h1⟩
    · simp only [hφlt hlt]at hx
      obtain ⟨ob0,h0,_,hrw0,_⟩:=hk.get h1
      have hx0:=hwas h1 (Ob.live_of_rw hrw) hx
      rcases hcase hb' with ⟨hlt',h2⟩ | ⟨hge',h2⟩
      · simp only [hφlt hlt']at hy
        exact hF.sep b b' ob ob' x y hne (get_left h1) (get_left h2) hrw hl hx hy
      · simp only [hφge hge']at hy
        exact hI.sep b b' ob0 ob' x y hne (get_left h0) h2 (hrw0 hrw) hl hx0 hy
    · simp only [hφge hge]at hx
      rcases hcase hb' with ⟨hlt',h2⟩ | ⟨hge',h2⟩
      · simp only [hφlt hlt']at hy
        obtain ⟨ob0,h0,hl0,_,_⟩:=hk.get h2
        exact hI.sep b b' ob ob0 x y hne h1 (get_left h0) hrw (hl0 hl) hx (hwas h2 hl hy)
      · simp only [hφge hge']at hy
        exact hI.sep b b' ob ob' x y hne h1 h2 hrw hl hx hy
  · intro b ob x hb hrw hx
    rcases hcase hb with ⟨hlt,h1⟩ | ⟨hge,h1⟩
    · simp only [hφlt hlt]at hx
      obtain ⟨ob0,h0,_,hrw0,_⟩:=hk.get h1
      exact hI.prot b ob0 x (get_left h0) (hrw0 hrw) (hwas h1 (Ob.live_of_rw hrw) hx)
    · simp only [hφge hge]at hx
      exact hI.prot b ob x h1 hrw hx
  · intro k hkk
    have h1:=hI.klt k hkk
    have h2:=hI.size
    rw [hold k (by omega) ?_]
    · exact hI.keep k hkk
    · rintro ⟨b0,ob0,x,h4,h5,h6,h7⟩
      exact hI.prot b0 ob0 x (get_left h4) h5 h6 (h7 ▸ hkk)
  · intro b hb
    simp only [List.length_append]at hb
    have hge:¬b<H0.length:=by omega
    simp only [hφge hge]
    exact hI.top b (by simp only [List.length_append];omega)
  · intro b ob x hb hrw hx
    rcases hcase hb with ⟨hlt,h1⟩ | ⟨hge,h1⟩
    · simp only [hφlt hlt]at hx
      exact hF.zsep b ob x (get_left h1) hrw hx
    · simp only [hφge hge]at hx
      obtain ⟨B,base,tot,h2,h3⟩:=hI.obs b ob h1 (Ob.live_of_rw hrw)
      rw [h2]at hx;cases hx
      refine hF.zk B ⟨h3.lt (Ob.live_of_rw hrw),?_,hI.zsep b ob _ h1 hrw h2⟩
      rintro ⟨b0,ob0,y,h4,h5,h6,h7⟩
      have hb0:=(List.getElem?_eq_some_iff.1 h4).1
      exact hI.sep b0 b ob0 ob y _ (by omega) (get_left h4) h1 h5 (Ob.live_of_rw hrw) h6 h2 h7
  · intro k hkk
    have h1:=hI.klt k hkk
    have h2:=hI.size
    refine hF.zk k ⟨by omega,?_,hI.zk k hkk⟩
    rintro ⟨b0,ob0,x,h4,h5,h6,h7⟩
    exact hI.prot b0 ob0 x (get_left h4) h5 h6 (h7 ▸ hkk)
end
def fz0:Value→Bool
  | .func (.via 0 ⟨[]⟩ 0 _) _ _=>true
  | v=>g0 v
def allFz (c:Array Value):Bool:=c.toList.all fz0
def frz1 (m z:Nat)(bl:List Ob)(v:Value)(k:Value→Option Out):Option Out :=
  match v with
  | .slice (some ⟨b,off,none⟩) len sz =>
    match Nat.ble m b,nthO bl b with
    | true,some (.cells c false)=>cond (allFz c&&decide (off+len*sz≤c.size)) (k (lstV c off len sz)) none
    | _,_=>none
  | .pointer (some ⟨b,off,none⟩) =>
    match Nat.ble m b,nthO bl b with
    | true,some (.cells c false)=>cond (allFz c) (k (dptV c off)) none
    | _,_=>none
  | .slice none 0 0=>k (lstV ⟨[]⟩ 0 0 z)
  | v=>if fz0 v then k v else none
def frzL (m z:Nat)(bl:List Ob):List Value→(List Value→Option Out)→Option Out
  | [],k=>k []
  | v::r,k=>frz1 m z bl v fun v=>frzL m z bl r fun r=>k (v::r)
def frzA (m z:Nat)(bl:List Ob)(v:Value)(k:Value→Option Out):Option Out :=
  match v with
  | .agg ⟨l⟩=>frzL m z bl l fun l=>k (.agg ⟨l⟩)
  | .iface t v=>if gA v then k (.iface t v) else none
  | .func (.func g) ⟨l⟩ ⟨n⟩=>frzL m z bl l fun l=>frzL m z bl n fun n=>k (.func (.func g) ⟨l⟩ ⟨n⟩)
  | v=>frz1 m z bl v k
def frzT (bl:List Ob):List Nat→List Value→(List Value→Option Out)→Option Out
  | _,[],k=>k []
  | zs,v::r,k=>frzA 0 (zs.headD 0) bl v fun v=>frzT bl zs.tail r fun r=>k (v::r)
def frzV (zs:List Nat)(bl:List Ob)(v:Value)(k:Value→Option Out):Option Out :=
  match v with
  | .tuple ⟨x::l⟩=>frzT bl zs (x::l) fun l=>k (.tuple ⟨l⟩)
  | v=>frzA 0 (zs.headD 0) bl v k
def frzK (zs:List Nat):Kn
  | .ret v h=>frzV zs h.bl v fun v=>some (.ret v ⟨[],0,[]⟩)
  | _=>none
structure Made (m:Nat) (z:Nat→Option Obj) (φ:Phi) (X:List Ob) (w:World):Prop where
  le:∀B o,φ.z B=some o→z B=some o
  obs:∀b c,X[b]?=some (.cells c false)→m≤b→∃B base tot C el fr,φ b=some (B,base,tot)∧z B=some (.cells C el fr)∧base+c.size≤C.size∧(∀(i:Nat) (v:Value),c[i]?=some v→∃v',C[base+i]?=some v'∧VR φ v v')
section
variable {K:Nat→Prop}{w0 w:World} {φ:Phi}{X:List Ob}{z:Nat→Option Obj}{m:Nat}
theorem fz0_fr (h:Made m z φ X w) {v v':Value}(hf:fz0 v=true) (hv:VR φ v v'):FR z v v':=by
  unfold fz0 at hf
  split at hf
  · cases hv with
    | fn hg=>cases hg
    | fz hh=>exact hh.mono h.le
  · rw [g0_eq hf hv];exact .gnd hf
theorem cells_fr (h:Made m z φ X w) {c C:Array Value}{base:Nat}(hc:allFz c=true) (h2:∀(i:Nat) (v:Value),c[i]?=some v→∃v',C[base+i]?=some v'∧VR φ v v') :
    ∀i,i<c.size→FR z (c.getD i undef) (C.getD (base+i) undef):=by
  intro i hi
  have h1:c[i]?=some c[i]:=Array.getElem?_eq_getElem hi
  obtain ⟨v',h3,h4⟩:=h2 i _ h1
  rw [Array.getD_eq_getD_getElem?,Array.getD_eq_getD_getElem?,h1,h3]
  unfold allFz at hc
  rw [List.all_eq_true]at hc
  exact fz0_fr h (hc _ (by rw [Array.mem_toList_iff];exact Array.mem_of_getElem? h1)) h4
theorem frz1_ok {y:Nat}(h:Made m z φ X w) {v v':Value}{k:Value→Option Out}{r:Out}(hk:frz1 m y X v k=some r) (hv:VR φ v v'):∃u,FR z u v'∧k u=some r:=by
  unfold frz1 at hk
  split at hk
  · rename_i b off len sz
    rw [nthO_eq]at hk
    split at hk
    · rename_i c hmb hb
      obtain ⟨h1,h2⟩:=cond_some hk
      simp only [Bool.and_eq_true,decide_eq_true_eq]at h1
      obtain ⟨B,base,tot,C,el,fr,h3,hz,h8,h6⟩:=h.obs b _ hb (Nat.le_of_ble_eq_true hmb)
      cases hv with
      | sliceZ _ a' k'=>exact ⟨_,.lstZ _ _ _ _,h2⟩
      | slice hφ hl hc =>
        rw [h3]at hφ;cases hφ
        exact ⟨_,.lst hz h8 (cells_fr h h1.1 h6) hl h1.2,h2⟩
    · cases hk
  · rename_i b off
    rw [nthO_eq]at hk
    split at hk
    · rename_i c hmb hb
      obtain ⟨h1,h2⟩:=cond_some hk
      obtain ⟨B,base,tot,C,el,fr,h3,hz,h8,h6⟩:=h.obs b _ hb (Nat.le_of_ble_eq_true hmb)
      cases hv with
      | ptr hφ =>
        rw [h3]at hφ;cases hφ
        exact ⟨_,.dpt hz h8 (cells_fr h h1 h6),h2⟩
    · cases hk
  · cases hv
    exact ⟨_,.lstZ _ _ _ _,hk⟩
  · split at hk
    · rename_i hf
      exact ⟨_,fz0_fr h hf hv,hk⟩
    · cases hk
inductive FRl (z:Nat→Option Obj):List Value→List Value→Prop
  | nil:FRl z [] []
  | cons {v v':Value} {l l':List Value} (h:FR z v v') (r:FRl z l l'):FRl z (v::l) (v'::l')
theorem FRl.agg {z:Nat→Option Obj} {l l':List Value}(h:FRl z l l'):l.length=l'.length∧∀i,FR z ((⟨l⟩:Array Value).getD i undef) ((⟨l'⟩:Array Value).getD i undef)∨l.length≤i:=by
  induction h with
  | nil=>exact ⟨rfl,fun i=>.inr (Nat.zero_le _)⟩
  | cons h _ ih =>
    refine ⟨by simp [ih.1],fun i=>?_⟩
    cases i with
    | zero=>exact .inl (by simpa [Array.getD_eq_getD_getElem?] using h)
    | succ i =>
      rcases ih.2 i with h1 | h1
      · exact .inl (by simpa [Array.getD_eq_getD_getElem?] using h1)
      · exact .inr (by simp;omega)
theorem FRl.fr {z:Nat→Option Obj} {l l':List Value}(h:FRl z l l'):FR z (.agg ⟨l⟩) (.agg ⟨l'⟩):=by
  refine .agg (by simpa using h.agg.1) fun i hi=>?_
  rcases h.agg.2 i with h1 | h1
  · exact h1
  · simp at hi;omega
theorem frzL_ok {y:Nat}(h:Made m z φ X w) {r:Out}:∀{l l':List Value}{k:List Value→Option Out},frzL m y X l k=some r→VRl φ l l'→∃u,FRl z u l'∧k u=some r
  | [],_,k,hk,hv=>by cases hv;exact ⟨[],.nil,hk⟩
  | v::l,_,k,hk,hv=>by
    cases hv with
    | cons hv hr =>
      obtain ⟨u,h1,h2⟩:=frz1_ok h hk hv
      obtain ⟨us,h3,h4⟩:=frzL_ok h h2 hr
      exact ⟨u::us,.cons h1 h3,h4⟩
theorem frzA_ok {ψ:Phi}{y:Nat}(h:Made m ψ.z φ X w) {v v':Value}{k:Value→Option Out}{r:Out}(hk:frzA m y X v k=some r) (hv:VR φ v v'):∃u,VR ψ u v'∧k u=some r:=by
  unfold frzA at hk
  split at hk
  · rename_i l
    obtain ⟨⟨ys⟩,rfl,hs⟩:=hv.agg_inv
    obtain ⟨us,h1,h2⟩:=frzL_ok h hk hs.toList
    exact ⟨_,h1.fr.vr,h2⟩
  · split at hk
    · rename_i hg
      cases hv with
      | iface _ hv=>rw [gA_eq hg hv];exact ⟨_,.iface _ (gA_refl hg),hk⟩
    · cases hk
  · rename_i g l n
    cases hv with
    | fn hg h1 h2 h3 h4 =>
      obtain ⟨us,k1,k2⟩:=frzL_ok h hk (VRs.toList (VRs.of h1 h2))
      obtain ⟨ws,k3,k4⟩:=frzL_ok h k2 (VRs.toList (VRs.of h3 h4))
      have hh:∀{us:List Value} {ys:Array Value},FRl ψ.z us ys.toList→(⟨us⟩:Array Value).size=ys.size∧∀i,i<(⟨us⟩:Array Value).size→FR ψ.z ((⟨us⟩:Array Value).getD i undef) (ys.getD i undef):=by
        intro us ys hf
        obtain ⟨ys⟩:=ys
        refine ⟨by simpa using hf.agg.1,fun i hi=>?_⟩
        rcases hf.agg.2 i with h5 | h5
        · exact h5
        · simp at hi;omega
      exact ⟨_,(FR.fn (hh k1).1 (hh k1).2 (hh k3).1 (hh k3).2).vr,k4⟩
  · obtain ⟨u,h1,h2⟩:=frz1_ok h hk hv
    exact ⟨u,h1.vr,h2⟩
theorem frzT_ok {ψ:Phi}(h:Made 0 ψ.z φ X w) {r:Out}:∀{zs:List Nat} {l l':List Value}{k:List Value→Option Out},frzT X zs l k=some r→VRl φ l l'→∃u,VRl ψ u l'∧k u=some r
  | _,[],_,k,hk,hv=>by cases hv;exact ⟨[],.nil,hk⟩
  | _,v::l,_,k,hk,hv=>by
    cases hv with
    | cons hv hr =>
      obtain ⟨u,h1,h2⟩:=frzA_ok h hk hv
      obtain ⟨us,h3,h4⟩:=frzT_ok h h2 hr
      exact ⟨u::us,.cons h1 h3,h4⟩
theorem VRl.vrs {l l':List Value}(h:VRl φ l l'):VRs φ ⟨l⟩ ⟨l'⟩:=by
  induction h with
  | nil=>exact VRs.nil φ
  | cons h _ ih =>
    intro i
    cases i with
    | zero=>simpa using OR.some h
    | succ i=>have:=ih i;simpa using this
theorem frzV_ok {ψ:Phi}{zs:List Nat}(h:Made 0 ψ.z φ X w) {v v':Value}{k:Value→Option Out}{r:Out}(hk:frzV zs X v k=some r) (hv:VR φ v v'):∃u,VR ψ u v'∧k u=some r:=by
  unfold frzV at hk
  split at hk
  · rename_i x l
    obtain ⟨⟨ys⟩,rfl,hs⟩:=hv.tuple_inv rfl
    obtain ⟨us,h1,h2⟩:=frzT_ok h hk hs.toList
    exact ⟨_,h1.vrs.tuple,h2⟩
  · exact frzA_ok h hk hv
open Classical in
def zF (φ:Phi)(X:List Ob)(m:Nat)(w:World):Nat→Option Obj:=fun B=>if ∃b ob x,m≤b∧X[b]?=some ob∧ob.rw=true∧φ b=some x∧x.1=B then w.heap[B]? else φ.z B
theorem zF_made (hF:Inv K w0 φ X w)(m:Nat):Made m (zF φ X m w) φ X w:=by
  refine ⟨fun B o hB=>?_,fun b c hb hmb=>?_⟩
  · unfold zF
    split
    · exact hF.frz B o hB
    · exact hB
  · obtain ⟨B,base,tot,h3,C,el,fr,h5,h6,h7⟩:=hF.obs b _ hb rfl
    obtain ⟨h8,h9,_⟩:=h7 rfl
    refine ⟨B,base,tot,C,el,fr,h3,?_,by omega,h6⟩
    unfold zF
    rw [if_pos ⟨b,_,_,hmb,hb,rfl,h3,rfl⟩];exact h5
theorem zF_k (hF:Inv K w0 φ X w)(m:Nat) {k:Nat}(hk:K k):zF φ X m w k=none:=by
  unfold zF
  rw [if_neg]
  · exact hF.zk k hk
  · rintro ⟨b,ob,x,_,h2,h3,h4,rfl⟩
    exact hF.prot b ob x h2 h3 h4 hk
theorem Inv.freeze (hF:Inv K w0 φ X w) {H1:List Ob}{k:Nat}(hH:∀(b:Nat) (ob:Ob),H1[b]?=some ob→X[b]?=some ob∧obSc H1.length ob=true) :
    Inv K w0 ⟨fun b=>if b<H1.length+k then φ b else none,zF φ X H1.length w⟩ (H1++List.replicate k .dead) w:=by
  have hm:=zF_made hF H1.length
  have hget:∀{b:Nat} {ob:Ob},(H1++List.replicate k .dead)[b]?=some ob→ob.live=true→b<H1.length∧X[b]?=some ob∧obSc H1.length ob=true:=by
    intro b ob hb hl
    rcases Nat.lt_or_ge b H1.length with h | h
    · rw [List.getElem?_append_left h]at hb
      exact ⟨h,hH b ob hb⟩
    · rw [List.getElem?_append_right h,List.getElem?_replicate]at hb
      split at hb
      · simp only [Option.some.injEq]at hb;subst hb;cases hl
      · cases hb
  have hlec:Gi.le (cut φ H1.length) ⟨fun b=>if b<H1.length+k then φ b else none,zF φ X H1.length w⟩:=by
    refine ⟨fun b x hx=>?_,hm.le⟩
    rcases Nat.lt_or_ge b H1.length with h | h
    · rw [cut_lt h]at hx
      show (if b<H1.length+k then φ b else none)=some x
      rw [if_pos (by omega)];exact hx
    · rw [cut_ge h]at hx;cases hx
  have hx:∀{b:Nat} {x:Nat×Nat×Nat},b<H1.length→(⟨fun b=>if b<H1.length+k then φ b else none,zF φ X H1.length w⟩:Phi) b=some x→φ b=some x:=by
    intro b x hb h
    have h':(if b<H1.length+k then φ b else none)=some x:=h
    rwa [if_pos (by omega)]at h'
  refine ⟨?_,?_,?_,hF.keep,hF.klt,hF.size,hF.os,hF.tape,hF.output,?_,?_,?_,fun k hk=>zF_k hF _ hk⟩
  · intro b ob hb hl
    obtain ⟨h1,h2,h3⟩:=hget hb hl
    obtain ⟨B,base,tot,h4,h5⟩:=hF.obs b ob h2 hl
    exact ⟨B,base,tot,hlec b _ ((cut_lt h1).trans h4),(obSc_cut h3 h5).keep hlec rfl⟩
  · intro b b' ob ob' x y hne hb hb' hrw hl hx1 hy1
    obtain ⟨h1,h2,_⟩:=hget hb (Ob.live_of_rw hrw)
    obtain ⟨h3,h4,_⟩:=hget hb' hl
    exact hF.sep b b' ob ob' x y hne h2 h4 hrw hl (hx h1 hx1) (hx h3 hy1)
  · intro b ob x hb hrw hx1
    obtain ⟨h1,h2,_⟩:=hget hb (Ob.live_of_rw hrw)
    exact hF.prot b ob x h2 hrw (hx h1 hx1)
  · intro b hb
    simp only [List.length_append,List.length_replicate]at hb
    show (if b<H1.length+k then φ b else none)=none
    rw [if_neg (by omega)]
  · intro B o hB
    have hB':zF φ X H1.length w B=some o:=hB
    unfold zF at hB'
    split at hB'
    · exact hB'
    · exact hF.frz B o hB'
  · intro b ob x hb hrw hx1
    obtain ⟨h1,h2,_⟩:=hget hb (Ob.live_of_rw hrw)
    have hx2:=hx h1 hx1
    show zF φ X H1.length w x.1=none
    unfold zF
    rw [if_neg]
    · exact hF.zsep b ob x h2 hrw hx2
    · rintro ⟨b',ob',x',k1,k2,k3,k4,k5⟩
      exact hF.sep b b' ob ob' x x' (by omega) h2 k2 hrw (Ob.live_of_rw k3) hx2 k4 k5.symm
end
section
variable {P:Program}
def pureA (v:Value):Bool:=scT 0 v
theorem Fact.lift {zs:List Nat}{f:FuncId}{args:Array Value}{v u:Value}{h1:Hp}(hf:Fact P (.call f args ⟨[],0,[]⟩) (.ret v h1)) (hfz:frzK zs (.ret v h1)=some (.ret u ⟨[],0,[]⟩))
    (ha:args.toList.all pureA=true) (h:Hp):Fact P (.call f args h) (.ret u h):=by
  obtain ⟨_,hh⟩:=hf.1 (Nat.le_refl _)
  refine ⟨fun hb=>⟨Pres.refl _,?_⟩,trivial⟩
  intro K w0 φ w args' n hI hA
  have hI':Inv K w0 φ ([]++h.bl) w:=hI
  have hN:=hI'.narrow (H0:=[]) (fun b ob h=>by simp at h)
  have hA1:VRs (cut φ ([]:List Ob).length) args args':=VRs.of hA.size fun i hi=>scT_cut (all_getD (p:=pureA) ha hi) (hA.getD i)
  refine (hh _ w _ w args' n hN hA1).mono ?_
  intro e w' he
  cases e with
  | returned v' =>
    obtain ⟨φ',hle,hv',hF⟩:=he
    have hfz':frzV zs h1.bl v (fun v=>some (.ret v ⟨[],0,[]⟩))=some (.ret u ⟨[],0,[]⟩):=hfz
    have hZ:=hF.freeze (H1:=[]) (k:=0) (fun b ob h=>by simp at h)
    obtain ⟨u',k1,k2⟩:=frzV_ok (ψ:=⟨fun b=>if b<([]:List Ob).length+0 then φ' b else none,zF φ' h1.bl 0 w'⟩) (zF_made hF 0) hfz' hv'
    simp only [Option.some.injEq,Out.ret.injEq,and_true]at k2
    subst k2
    have hle2:le (cut φ ([]:List Ob).length) ⟨fun b=>if b<([]:List Ob).length+0 then φ' b else none,zF φ' h1.bl 0 w'⟩:=by
      refine ⟨fun b x hx=>?_,fun B o hB=>(zF_made hF 0).le B o (hle.zz B o hB)⟩
      rw [cut_ge (show ([]:List Ob).length≤b from Nat.zero_le b)]at hx;cases hx
    obtain ⟨φ'',q1,q2,q3⟩:=hI'.widen (H1:=[]) (X:=[]) hZ hle2 .nil
    refine ⟨φ'',q1,?_,q3⟩
    have hc:cut ⟨fun b=>if b<([]:List Ob).length+0 then φ' b else none,zF φ' h1.bl ([]:List Ob).length w'⟩ ([]:List Ob).length=⟨fun b=>if b<([]:List Ob).length+0 then φ' b else none,zF φ' h1.bl 0 w'⟩:=by
      unfold cut
      simp
    rw [hc]at q2
    exact k1.mono q2
  | panicked ch=>exact he.elim
  | outgrown=>exact he.elim
def zAll (w:World):Phi:=⟨fun _=>none,fun B=>w.heap[B]?⟩
theorem inv_all (w:World):Inv (fun _=>False) w (zAll w) [] w :=
  ⟨fun b ob h=>by simp at h,fun b b' ob ob' x y _ h=>by simp at h,fun b ob x h=>by simp at h,fun _ h=>h.elim,fun _ h=>h.elim,Nat.le_refl _,rfl,rfl,rfl,fun _ _=>rfl,fun _ _ h=>h,fun b ob x h=>by simp at h,fun _ h=>h.elim⟩
theorem calls_frozen {w:World}{f:FuncId} {args args':Array Value}{v:Value} {h':Hp}(hf:Fact P (.call f args ⟨[],0,[]⟩) (.ret v h')) (hg:gr v=true) (hA:VRs (zAll w) args args') :
    Calls P f args' w fun e w'=>e=.returned v∧Below w.heap.size w w':=by
  obtain ⟨_,hh⟩:=hf.1 (Nat.le_refl _)
  refine callsIn_wide.1 ((hh _ w (zAll w) w args' 0 (inv_all w) hA).mono ?_)
  intro e w' he
  cases e with
  | returned v' =>
    obtain ⟨φ',hle,hv,hI⟩:=he
    refine ⟨by rw [gr_eq hg hv],hI.os,hI.tape,hI.output,hI.size,fun k hk=>?_⟩
    have h1:(zAll w).z k=some w.heap[k]:=by show w.heap[k]?=_;rw [Array.getElem?_eq_getElem hk]
    rw [hI.frz k _ (hle.zz k _ h1),Array.getElem?_eq_getElem hk]
  | panicked ch=>exact he.elim
  | outgrown=>exact he.elim
end
inductive RT (A:Type) where
  | leaf (a:A)
  | no
  | br (b:Bool) (x y:RT A)
  | sw (b b':Bool) (h:b=b') (x y:RT A)
section
variable {A:Type}
def RT.val:RT A→Option A
  | .leaf a=>some a
  | .no=>none
  | .br b x y=>cond b x.val y.val
  | .sw _ b _ x y=>cond b x.val y.val
def RT.out (enc:A→Out):RT A→Option Out
  | .leaf a=>some (enc a)
  | .no=>none
  | .br b x y=>cond b (x.out enc) (y.out enc)
  | .sw b _ _ x y=>cond b (x.out enc) (y.out enc)
theorem RT.out_val (enc:A→Out):∀r:RT A,r.out enc=r.val.map enc
  | .leaf _=>rfl
  | .no=>rfl
  | .br b x y=>by
    cases b
    · exact RT.out_val enc y
    · exact RT.out_val enc x
  | .sw b b' h x y=>by
    subst h
    cases b
    · exact RT.out_val enc y
    · exact RT.out_val enc x
end
section
variable {X D:Type}
def loopAns (c0:Code)(dec:Task→Option (Code×X))(alt:X→List Value→AT)(J:Task→List Value):Ans:=fun t=>match dec t with
  | some (c,x)=>some (.br (eqCode c c0) (alt x (J t)) .no)
  | none=>none
def fnAns (dec:Task→Option (X×Hp))(alt:X→Hp→AT):Ans:=fun t=>match dec t with
  | some (x,h)=>some (alt x h)
  | none=>none
section
variable {P:Program}(hN:NoNG P) (hm:P.follows .mixedOrders=true)
include hN hm
theorem Known.factK {a:Ans}(hk:Known P a) {n:Nat}{t:Task}{k:Kn}{r:Out}(h:evC P a.c n t k=some r):∃o,k o=some r∧Fact P t o:=by
  obtain ⟨o',h1,h2⟩:=evC_ok (P:=P) a.oc n t k r h
  have hd:DrawnOk P drawnX:=fun self hs rd id os s o h=>drawnX_ok hN hm self hs rd id os s o h
  have hh:=iterO_ok (drawn:=drawnX) hN hd hk.selfOk hk.loopOk n
  refine ⟨o',h2,hh.1 _ _ h1,?_⟩
  unfold LoopFact
  split
  · exact fun hb=>hh.2 _ _ _ _ _ h1 hb
  · trivial
theorem Known.fn {a:Ans}(hk:Known P a) {A R:Type}{n:Nat}{zs:List Nat}(f:FuncId) (args:A→List Value) (rt:A→RT R) (enc:R→Value)
    (hev:∀x,evC P a.c n (.call f ⟨args x⟩ ⟨[],0,[]⟩) (frzK zs)=(rt x).out fun r=>.ret (enc r) ⟨[],0,[]⟩) (hpa:∀x,(args x).all pureA=true) (dec:Task→Option (A×Hp)) (alt:A→Hp→AT)
    (hd:∀t x h,dec t=some (x,h)→t=.call f ⟨args x⟩ h) (ha:∀x h o,(alt x h).out=some o→∃r,(rt x).val=some r∧o=.ret (enc r) h) :
    Known P (fnAns dec alt):=by
  intro t at' o ht ho
  cases hdt:dec t with
  | none=>simp only [loopAns,fnAns,hdt]at ht;cases ht
  | some xh =>
    obtain ⟨x,h⟩:=xh
    simp only [loopAns,fnAns,hdt,Option.some.injEq]at ht
    subst ht
    obtain ⟨r,h1,rfl⟩:=ha x h o ho
    obtain rfl:=hd t x h hdt
    have h2:=hev x
    rw [RT.out_val,h1,Option.map_some]at h2
    obtain ⟨o,h3,hf⟩:=hk.factK hN hm h2
    cases o with
    | ret v h'=>exact hf.lift h3 (hpa x) h
    | _=>cases h3
end
end
end
end Go.Gi
namespace Go.Gi
open Go.RowKit
noncomputable section
structure Agree (σ:Nat→Nat→Prop) (φ ψ:Phi):Prop where
  fn:∀(i j:Nat) (x:Nat×Nat×Nat),σ i j→φ.f i=some x→ψ.f j=some x
  zz:∀B o,φ.z B=some o→ψ.z B=some o
instance {σ:Nat→Nat→Prop} {φ ψ:Phi}:CoeFun (Agree σ φ ψ) (fun _=>∀(i j:Nat) (x:Nat×Nat×Nat),σ i j→φ.f i=some x→ψ.f j=some x):=⟨Agree.fn⟩
def TR (σ:Nat→Nat→Prop) (v v':Value):Prop:=∀φ ψ,Agree σ φ ψ→∀x,VR φ v x→VR ψ v' x
def ObTR (σ:Nat→Nat→Prop) (o o':Ob):Prop:=∀φ ψ,Agree σ φ ψ→∀w B bs tot,ObR φ w o B bs tot→ObR ψ w o' B bs tot
def inS (ρ:Nat→Nat)(H0:List Ob)(j i:Nat):Prop:=i<H0.length∧ρ i=j
def outS (ρ:Nat→Nat) (κ:Nat→Option Nat)(H0 Hb Hb1:List Ob)(i j:Nat):Prop :=
  (i<H0.length∧ρ i=j)∨(κ j=some i∧Hb.length≤j∧j<Hb1.length)
structure Carry (ρ:Nat→Nat) (κ:Nat→Option Nat) (H0 H1 Hb Hb1:List Ob):Prop where
  inn:∀(i:Nat) (ob:Ob),H0[i]?=some ob→ob.live=true→∃ob',Hb[ρ i]?=some ob'∧ob'.live=true∧(ob.rw=true→ob'.rw=true)∧ObTR (inS ρ H0) ob' ob
  inj:∀(i i':Nat),i<H0.length→i' < H0.length→ρ i=ρ i'→i=i'
  low:∀i,i<H0.length→ρ i<Hb.length
  len:Hb.length≤Hb1.length
  kin:∀j i,κ j=some i→Hb.length≤j→H0.length≤i
  kinj:∀j j' i,Hb.length≤j→Hb.length≤j'→κ j=some i→κ j'=some i→j=j'
  out:∀(j:Nat) (ob':Ob),Hb1[j]?=some ob'→ob'.live=true →
    (Hb[j]?=some ob'∧∀(i:Nat) (ob0:Ob),H0[i]?=some ob0→ob0.rw=true→ρ i≠j) ∨
    (∃(i:Nat) (ob:Ob),H1[i]?=some ob∧ob.live=true∧(ob'.rw=true→ob.rw=true)∧(ob.rw=true∨∃ob0:Ob,H0[i]?=some ob0∧ob0.live=true)∧ObTR (outS ρ κ H0 Hb Hb1) ob ob'∧outS ρ κ H0 Hb Hb1 i j)
def pullP (φ:Phi) (ρ:Nat→Nat)(n:Nat):Phi:=⟨fun i=>if i<n then φ (ρ i) else none,φ.z⟩
open Classical in
def backP (ρ:Nat→Nat)(n j:Nat):Option Nat:=if h:∃i,i<n∧ρ i=j then some (Classical.choose h) else none
def pushP (φ φ1:Phi) (ρ:Nat→Nat) (κ:Nat→Option Nat)(n N N1:Nat):Phi:=⟨fun j=>if j<N then (match φ j with | some x=>some x | none=>(backP ρ n j).bind φ1.f) else if j<N1 then (κ j).bind φ1.f else none,φ1.z⟩
section
variable {P:Program}{K:Nat→Prop} {w0 w w':World} {φ φ1:Phi}{H0 H1 Hb Hb1:List Ob} {ρ:Nat→Nat} {κ:Nat→Option Nat}
theorem lt_of_get {α:Type}{l:List α}{i:Nat}{a:α}(h:l[i]?=some a):i<l.length:=(List.getElem?_eq_some_iff.1 h).1
theorem pull_at {i:Nat}(h:i<H0.length):pullP φ ρ H0.length i=φ (ρ i):=if_pos h
theorem Inv.push (hI:Inv K w0 φ Hb w)(hc:Carry ρ κ H0 H1 Hb Hb1) (hF:Inv (fun k=>k<w.heap.size∧¬RwAt (pullP φ ρ H0.length) H0 k∧φ.z k=none) w φ1 H1 w') (hle:le (pullP φ ρ H0.length) φ1) :
    ∃φ2,le φ φ2∧Agree (outS ρ κ H0 Hb Hb1) φ1 φ2∧Inv K w0 φ2 Hb1 w':=by
  have hdom:∀{j:Nat} {x:Nat×Nat×Nat},φ j=some x→j<Hb.length:=fun {j} {x} hx=>by
    rcases Nat.lt_or_ge j Hb.length with h | h
    · exact h
    · rw [hI.top j h]at hx;cases hx
  have hleφ:le φ (pushP φ φ1 ρ κ H0.length Hb.length Hb1.length):=⟨fun j x hx=>by
    show (if j<Hb.length then (match φ j with | some x=>some x | none=>(backP ρ H0.length j).bind φ1.f) else if j<Hb1.length then (κ j).bind φ1.f else none)=some x
    rw [if_pos (hdom hx),hx],hle.zz⟩
  have hlt:∀{j:Nat} {ob':Ob},Hb[j]?=some ob'→ob'.live=true→pushP φ φ1 ρ κ H0.length Hb.length Hb1.length j=φ j:=by
    intro j ob' h1 h2
    obtain ⟨B,base,tot,h3,_⟩:=hI.obs j ob' h1 h2
    rw [h3];exact hleφ _ _ h3
  have htop1:∀{i:Nat} {x:Nat×Nat×Nat},φ1 i=some x→i<H1.length:=fun {i} {x} hx=>by
    rcases Nat.lt_or_ge i H1.length with h | h
    · exact h
    · rw [hF.top i h]at hx;cases hx
  have hold:∀{i:Nat} {ob0:Ob},H0[i]?=some ob0→ob0.live=true→∃x,φ (ρ i)=some x∧φ1 i=some x:=by
    intro i ob0 h1 h2
    obtain ⟨ob',h3,h4,_,_⟩:=hc.inn i ob0 h1 h2
    obtain ⟨B,base,tot,h5,_⟩:=hI.obs _ ob' h3 h4
    exact ⟨_,h5,hle i _ ((pull_at (lt_of_get h1)).trans h5)⟩
  have hnew:∀{j:Nat},Hb.length≤j→j<Hb1.length→pushP φ φ1 ρ κ H0.length Hb.length Hb1.length j=(κ j).bind φ1.f:=fun {j} h1 h2=>by
    show (if j<Hb.length then (match φ j with | some x=>some x | none=>(backP ρ H0.length j).bind φ1.f) else if j<Hb1.length then (κ j).bind φ1.f else none)=_
    rw [if_neg (by omega),if_pos h2]
  have hkeep:∀{j:Nat} {ob':Ob} {x:Nat×Nat×Nat},Hb[j]?=some ob'→ob'.live=true→φ j=some x→x.1<w.heap.size→(∀(i:Nat) (ob0:Ob),H0[i]?=some ob0→ob0.rw=true→ρ i≠j)→x.1<w.heap.size∧¬RwAt (pullP φ ρ H0.length) H0 x.1:=by
    intro j ob' x h1 h2 h3 h4 h5
    refine ⟨h4,?_⟩
    rintro ⟨b0,ob0,y,h6,h7,h8,h9⟩
    rw [pull_at (lt_of_get h6)]at h8
    obtain ⟨o1,h10,_,h11,_⟩:=hc.inn b0 ob0 h6 (Ob.live_of_rw h7)
    exact hI.sep (ρ b0) j o1 ob' y x (h5 b0 ob0 h6 h7) h10 h1 (h11 h7) h2 h8 h3 h9
  have hsz:∀{j:Nat} {ob':Ob} {x:Nat×Nat×Nat},Hb[j]?=some ob'→ob'.live=true→φ j=some x→x.1<w.heap.size:=by
    intro j ob' x h1 h2 h3
    obtain ⟨B,base,tot,h4,h5⟩:=hI.obs j ob' h1 h2
    rw [h3]at h4
    simp only [Option.some.injEq]at h4
    subst h4
    exact h5.lt h2
  have hsame:∀{k:Nat},k<w.heap.size∧¬RwAt (pullP φ ρ H0.length) H0 k→w'.heap[k]?=w.heap[k]?:=by
    intro k hk
    cases hz:φ.z k with
    | none=>exact hF.keep k ⟨hk.1,hk.2,hz⟩
    | some o=>rw [hI.frz k o hz,hF.frz k o (hle.zz k o hz)]
  have hagree:Agree (outS ρ κ H0 Hb Hb1) φ1 (pushP φ φ1 ρ κ H0.length Hb.length Hb1.length):=by
    refine ⟨?_,fun _ _ h=>h⟩
    rintro i j x (⟨h1,rfl⟩ | ⟨h1,h2,hj⟩) hx
    · cases hφ:φ (ρ i) with
      | some y =>
        have h4:=hle i y ((pull_at h1).trans hφ)
        rw [hx]at h4
        rw [h4];exact hleφ _ _ hφ
      | none =>
        show (if ρ i<Hb.length then (match φ (ρ i) with | some x=>some x | none=>(backP ρ H0.length (ρ i)).bind φ1.f) else if ρ i<Hb1.length then (κ (ρ i)).bind φ1.f else none)=some x
        rw [if_pos (hc.low i h1),hφ]
        have hex:∃i',i' < H0.length∧ρ i'=ρ i:=⟨i,h1,rfl⟩
        have hb:backP ρ H0.length (ρ i)=some i:=by
          unfold backP
          rw [dif_pos hex]
          have:=Classical.choose_spec hex
          rw [hc.inj _ _ this.1 h1 this.2]
        show (backP ρ H0.length (ρ i)).bind φ1.f=some x
        rw [hb];exact hx
    · rw [hnew h2 hj,h1]
      exact hx
  have hlen:=hc.len
  have hB:∀{i j:Nat} {ob:Ob} {x:Nat×Nat×Nat},outS ρ κ H0 Hb Hb1 i j→H1[i]?=some ob→ob.live=true→pushP φ φ1 ρ κ H0.length Hb.length Hb1.length j=some x→φ1 i=some x:=by
    intro i j ob x hs h1 h2 hx
    obtain ⟨B,base,tot,h3,_⟩:=hF.obs i ob h1 h2
    have:=hagree i j _ hs h3
    rw [hx]at this
    rw [h3,this]
  have hfun:∀{i j j':Nat},outS ρ κ H0 Hb Hb1 i j→outS ρ κ H0 Hb Hb1 i j'→j=j':=by
    rintro i j j' (⟨h1,rfl⟩ | ⟨h1,h2,h3⟩) (⟨h1',rfl⟩ | ⟨h1',h2',h3'⟩)
    · rfl
    · have:=hc.kin _ _ h1' h2'
      omega
    · have:=hc.kin _ _ h1 h2
      omega
    · exact hc.kinj _ _ _ h2 h2' h1 h1'
  have hKK:∀{k:Nat},K k→k<w.heap.size∧¬RwAt (pullP φ ρ H0.length) H0 k∧φ.z k=none:=by
    intro k hk
    refine ⟨Nat.lt_of_lt_of_le (hI.klt _ hk) hI.size,?_,hI.zk k hk⟩
    rintro ⟨b0,ob0,y,k1,k2,k3,k4⟩
    rw [pull_at (lt_of_get k1)]at k3
    obtain ⟨o1,k5,_,k6,_⟩:=hc.inn b0 ob0 k1 (Ob.live_of_rw k2)
    exact hI.prot (ρ b0) o1 y k5 (k6 k2) k3 (k4 ▸ hk)
  refine ⟨pushP φ φ1 ρ κ H0.length Hb.length Hb1.length,hleφ,hagree,?_,?_,?_,?_,hI.klt,Nat.le_trans hI.size hF.size,hF.os.trans hI.os,hF.tape.trans hI.tape,hF.output.trans hI.output,?_,hF.frz,?_,?_⟩
  · intro j ob' h1 h2
    rcases hc.out j ob' h1 h2 with ⟨h3,h4⟩ | ⟨i,ob,h3,h4,h5,h6,h7,h8⟩
    · obtain ⟨B,base,tot,h5,h6⟩:=hI.obs j ob' h3 h2
      exact ⟨B,base,tot,hleφ _ _ h5,h6.keep hleφ (hsame (hkeep h3 h2 h5 (h6.lt h2) h4))⟩
    · obtain ⟨B,base,tot,h9,h10⟩:=hF.obs i ob h3 h4
      exact ⟨B,base,tot,hagree i j _ h8 h9,h7 _ _ hagree _ _ _ _ h10⟩
  · intro j j' ob ob' x y hne hj hj' hrw hl hx hy
    rcases hc.out j ob hj (Ob.live_of_rw hrw) with ⟨h3,h4⟩ | ⟨i,o,h3,h4,h5,h6,h7,h8⟩
    · have hx':φ j=some x:=by rw [← hlt h3 (Ob.live_of_rw hrw)];exact hx
      rcases hc.out j' ob' hj' hl with ⟨h3',h4'⟩ | ⟨i',o',h3',h4',h5',h6',h7',h8'⟩
      · have hy':φ j'=some y:=by rw [← hlt h3' hl];exact hy
        exact hI.sep j j' ob ob' x y hne h3 h3' hrw hl hx' hy'
      · have hy':=hB h8' h3' h4' hy
        rcases h6' with hrw' | ⟨ob0,k0,kl⟩
        · intro he
          exact hF.prot i' o' y h3' hrw' hy' (he ▸ (let q:=hkeep h3 (Ob.live_of_rw hrw) hx' (hsz h3 (Ob.live_of_rw hrw) hx') h4;⟨q.1,q.2,hI.zsep j ob x h3 hrw hx'⟩))
        · have k3:ρ i'=j':=by
            rcases h8' with ⟨k1,k3⟩ | ⟨k1,k2,_⟩
            · exact k3
            · have:=hc.kin _ _ k1 k2
              have:=lt_of_get k0
              omega
          obtain ⟨o1,k4,k5,_,_⟩:=hc.inn i' ob0 k0 kl
          obtain ⟨y',k6,k7⟩:=hold k0 kl
          rw [hy']at k7
          simp only [Option.some.injEq]at k7
          subst k7
          exact hI.sep j (ρ i') ob o1 x y (by rw [k3];exact hne) h3 k4 hrw k5 hx' k6
    · have hx':=hB h8 h3 h4 hx
      rcases hc.out j' ob' hj' hl with ⟨h3',h4'⟩ | ⟨i',o',h3',h4',h5',h6',h7',h8'⟩
      · have hy':φ j'=some y:=by rw [← hlt h3' hl];exact hy
        intro he
        have q:=hkeep h3' hl hy' (hsz h3' hl hy') h4'
        cases hz:φ.z y.1 with
        | none=>exact hF.prot i o x h3 (h5 hrw) hx' (he.symm ▸ ⟨q.1,q.2,hz⟩)
        | some o' =>
          have q1:=hF.zsep i o x h3 (h5 hrw) hx'
          rw [he,hle.zz _ _ hz]at q1
          cases q1
      · have hy':=hB h8' h3' h4' hy
        exact hF.sep i i' o o' x y (fun he=>hne (hfun (he ▸ h8) h8')) h3 h3' (h5 hrw) h4' hx' hy'
  · intro j ob x hj hrw hx hk
    rcases hc.out j ob hj (Ob.live_of_rw hrw) with ⟨h3,h4⟩ | ⟨i,o,h3,h4,h5,h6,h7,h8⟩
    · have hx':φ j=some x:=by rw [← hlt h3 (Ob.live_of_rw hrw)];exact hx
      exact hI.prot j ob x h3 hrw hx' hk
    · have hx':=hB h8 h3 h4 hx
      exact hF.prot i o x h3 (h5 hrw) hx' (hKK hk)
  · intro k hk
    rw [hF.keep k (hKK hk)]
    exact hI.keep k hk
  · intro j hj
    show (if j<Hb.length then (match φ j with | some x=>some x | none=>(backP ρ H0.length j).bind φ1.f) else if j<Hb1.length then (κ j).bind φ1.f else none)=none
    rw [if_neg (by omega),if_neg (by omega)]
  · intro j ob x hj hrw hx
    rcases hc.out j ob hj (Ob.live_of_rw hrw) with ⟨h3,h4⟩ | ⟨i,o,h3,h4,h5,h6,h7,h8⟩
    · have hx':φ j=some x:=by rw [← hlt h3 (Ob.live_of_rw hrw)];exact hx
      have q:=hkeep h3 (Ob.live_of_rw hrw) hx' (hsz h3 (Ob.live_of_rw hrw) hx') h4
      exact hF.zk x.1 ⟨q.1,q.2,hI.zsep j ob x h3 hrw hx'⟩
    · exact hF.zsep i o x h3 (h5 hrw) (hB h8 h3 h4 hx)
  · exact fun k hk=>hF.zk k (hKK hk)
end
end
end Go.Gi
namespace Go.Gi
open Go.RowKit
noncomputable section
section
variable {σ:Nat→Nat→Prop}
theorem cut_agree {φ ψ:Phi}{n:Nat}(ha:Agree σ φ ψ) (hid:∀i,i<n→σ i i):le (cut φ n) ψ:=by
  refine ⟨?_,fun B o h=>ha.zz B o h⟩
  intro b x hx
  rcases Nat.lt_or_ge b n with h | h
  · rw [cut_lt h]at hx;exact ha b b x (hid b h) hx
  · rw [cut_ge h]at hx;cases hx
theorem ObTR.sc {n:Nat}{o:Ob}(hid:∀i,i<n→σ i i) (h:obSc n o=true):ObTR σ o o:=fun φ ψ ha w B bs tot hx=>(obSc_cut h hx).keep (cut_agree ha hid) rfl
theorem TR.slice {b b' off l z:Nat}(h:σ b b'):TR σ (.slice (some ⟨b,off,none⟩) l z) (.slice (some ⟨b',off,none⟩) l z):=by
  intro φ ψ ha x hx
  cases hx with
  | sliceZ hp a'=>exact .sliceZ (a:=⟨b',off,none⟩) (ha _ _ _ h hp) a' _
  | slice hp hl hc=>exact .slice (ha _ _ _ h hp) hl hc
theorem ObTR.same {o:Ob}(h:∀n,obSc n o=true):ObTR σ o o:=ObTR.sc (n:=0) (fun i hi=>absurd hi (Nat.not_lt_zero _)) (h 0)
end
structure Grow (r:Nat→Nat) (κ:Nat→Option Nat) (Pre T X G G1:List Ob):Prop where
  sc:Pre.all (obSc Pre.length)=true
  pre:∀(i:Nat) (ob:Ob),T[i]?=some ob→G[r i]?=some ob∧∀n,obSc n ob=true
  inj:∀i i',i<T.length→i' < T.length→r i=r i'→i=i'
  len:G.length≤G1.length
  kin:∀j i,κ j=some i→G.length≤j→T.length≤i
  kinj:∀j j' i,G.length≤j→G.length≤j'→κ j=some i→κ j'=some i→j=j'
  out:∀(j:Nat) (ob:Ob),G1[j]?=some ob→ob.live=true →
    (G[j]?=some ob∧∀i,i<T.length→r i≠j) ∨
    (∃i,X[i]?=some ob∧ob.rw=true∧(∀n,obSc n ob=true)∧((i<T.length∧r i=j)∨(κ j=some i∧G.length≤j∧j<G1.length)))
section
variable {r:Nat→Nat} {κ:Nat→Option Nat}{Pre T X G G1:List Ob}
theorem get_app {A B:List Ob}{j:Nat}{ob:Ob}(h:(A++B)[j]?=some ob):(j<A.length∧A[j]?=some ob)∨(A.length≤j∧B[j-A.length]?=some ob):=by
  rcases Nat.lt_or_ge j A.length with h1 | h1
  · rw [List.getElem?_append_left h1]at h;exact .inl ⟨h1,h⟩
  · rw [List.getElem?_append_right h1]at h;exact .inr ⟨h1,h⟩
theorem Grow.same {p:Nat}{A:Ob}(hsc:Pre.all (obSc Pre.length)=true) (hp:G[p]?=some A) (hA:∀n,obSc n A=true) (hw:A.rw=true):Grow (fun _=>p) (fun _=>none) Pre [A] (A::X) G G:=by
  refine ⟨hsc,?_,?_,Nat.le_refl _,by simp,by simp,?_⟩
  · intro i ob hi
    rcases i with _ | i
    · simp only [List.getElem?_cons_zero,Option.some.injEq]at hi
      subst hi;exact ⟨hp,hA⟩
    · simp at hi
  · intro i i' h1 h2 _
    simp only [List.length_cons,List.length_nil]at h1 h2
    omega
  · intro j ob hj hl
    by_cases hjp:j=p
    · subst hjp
      rw [hp]at hj
      simp only [Option.some.injEq]at hj
      subst hj
      exact .inr ⟨0,rfl,hw,hA,.inl ⟨by simp,rfl⟩⟩
    · exact .inl ⟨hj,fun i _ he=>hjp he.symm⟩
theorem Grow.first {q:Nat}{B:Ob}(hsc:Pre.all (obSc Pre.length)=true) (hq:X[q]?=some B) (hB:∀n,obSc n B=true) (hw:B.rw=true):Grow (fun _=>0) (fun j=>if j=G.length then some q else none) Pre [] X G (G++[B]):=by
  refine ⟨hsc,by simp,by simp,by simp,by simp,?_,?_⟩
  · intro j j' i _ _ h1 h2
    split at h1
    · split at h2
      · omega
      · cases h2
    · cases h1
  · intro j ob hj hl
    rcases get_app hj with ⟨h1,h2⟩ | ⟨h1,h2⟩
    · exact .inl ⟨h2,by simp⟩
    · cases hh:j-G.length with
      | zero =>
        rw [hh]at h2
        simp only [List.getElem?_cons_zero,Option.some.injEq]at h2
        subst h2
        have:j=G.length:=by omega
        exact .inr ⟨q,hq,hw,hB,.inr ⟨by rw [if_pos this],by omega,by simp;omega⟩⟩
      | succ k=>rw [hh]at h2;simp at h2
end
abbrev vT:Value:=.bool true
abbrev vF:Value:=.bool false
abbrev vI (n:Nat):Value:=.int .i64 (.ofNat n)
abbrev vJ (n:Nat):Value:=.int .i64 (.negSucc n)
structure CF where
  g:Nat
  args:List Value
  u:Value
def CF.Ok (P:Program)(c:CF):Prop:=∀h,Fact P (.call c.g ⟨c.args⟩ h) (.ret c.u h)
def lookCF (f:Nat)(vs:List Value)(h:Hp):List CF→Option AT
  | []=>none
  | c::r=>match Nat.beq f c.g with
    | true=>(match eqLs (eqVn 8) vs c.args with
      | true=>some (.leaf (.ret c.u h))
      | false=>lookCF f vs h r)
    | false=>lookCF f vs h r
def tabA (l:List CF):Ans:=fun t=>match t with
  | .call f vs h=>lookCF f vs.toList h l
  | _=>none
inductive CFs (P:Program):List CF→Prop
  | nil:CFs P []
  | cons {c:CF} {l:List CF} (h:c.Ok P) (r:CFs P l):CFs P (c::l)
theorem lookCF_ok {P:Program}{f:Nat}{vs:List Value}{h:Hp}:∀{l:List CF},CFs P l→∀{x:AT}{o:Out},lookCF f vs h l=some x→x.out=some o→Fact P (.call f ⟨vs⟩ h) o
  | [],_,x,o,hx,_=>by cases hx
  | c::r,hl,x,o,hx,ho=>by
    cases hl with
    | cons hc hr =>
      unfold lookCF at hx
      split at hx
      · rename_i hf
        split at hx
        · rename_i ha
          simp only [Option.some.injEq]at hx
          subst hx
          simp only [AT.out,Option.some.injEq]at ho
          subst ho
          rw [Nat.eq_of_beq_eq_true hf,eqLs_eq (fun _ _ h=>eqVn_eq h) ha]
          exact hc h
        · exact lookCF_ok hr hx ho
      · exact lookCF_ok hr hx ho
theorem tabA_ok {P:Program}{l:List CF}(hl:CFs P l):Known P (tabA l):=by
  intro t x o h ho
  unfold tabA at h
  split at h
  · rename_i f vs hh
    exact lookCF_ok hl h ho
  · cases h
def frDs (f:Value→Option Value):List Value→Option (List Value)
  | []=>some []
  | v::r=>match f v with
    | some u=>(match frDs f r with
      | some l=>some (u::l)
      | none=>none)
    | none=>none
def frC (f:Value→Option Value)(v:Value):Option Value:=match v with
  | .slice none 0 0=>some (lstV ⟨[]⟩ 0 0 1)
  | v=>f v
def frD (bl:List Ob):Nat→Value→Option Value
  | 0,_=>none
  | n+1,v=>match v with
    | .slice (some ⟨b,off,none⟩) len sz=>(match nthO bl b with
      | some (.cells c false)=>(match frDs (frC (frD bl n)) c.toList with
        | some l=>if off+len*sz≤c.size then some (lstV ⟨l⟩ off len sz) else none
        | none=>none)
      | _=>none)
    | .pointer (some ⟨b,off,none⟩)=>(match nthO bl b with
      | some (.cells c false)=>(match frDs (frC (frD bl n)) c.toList with
        | some l=>some (dptV ⟨l⟩ off)
        | none=>none)
      | _=>none)
    | .agg ⟨l⟩=>(match frDs (frD bl n) l with
      | some l=>some (.agg ⟨l⟩)
      | none=>none)
    | .iface t v=>(match frD bl n v with
      | some v=>some (.iface t v)
      | none=>none)
    | .func (.func g) ⟨l⟩ ⟨m⟩=>(match frDs (frD bl n) l,frDs (frD bl n) m with
      | some l,some m=>some (.func (.func g) ⟨l⟩ ⟨m⟩)
      | _,_=>none)
    | v=>if fz0 v then some v else none
def frDV (bl:List Ob)(v:Value):Option Value:=match v with
  | .tuple ⟨x::l⟩=>(match frDs (frD bl 8) (x::l) with
    | some l=>some (.tuple ⟨l⟩)
    | none=>none)
  | v=>frD bl 8 v
def frDK:Kn
  | .ret v h=>(match frDV h.bl v with
    | some v=>some (.ret v ⟨[],0,[]⟩)
    | none=>none)
  | _=>none
section
variable {K:Nat→Prop}{w0 w:World} {φ:Phi}{X:List Ob}{z:Nat→Option Obj}
theorem frDs_ok {f:Value→Option Value}(hf:∀v u v',f v=some u→VR φ v v'→FR z u v'):∀{l us l':List Value},frDs f l=some us→VRl φ l l'→FRl z us l'
  | [],us,_,h,hv=>by
    cases hv
    simp only [frDs,Option.some.injEq]at h
    subst h;exact .nil
  | v::r,us,_,h,hv=>by
    cases hv with
    | cons h1 h2 =>
      simp only [frDs]at h
      split at h
      · rename_i u hu
        split at h
        · rename_i l hl
          simp only [Option.some.injEq]at h
          subst h
          exact .cons (hf _ _ _ hu h1) (frDs_ok hf hl h2)
        · cases h
      · cases h
theorem FRl.fn {z:Nat→Option Obj} {l l' m m':List Value}(g:FuncId) (h:FRl z l l') (h2:FRl z m m'):FR z (.func (.func g) ⟨l⟩ ⟨m⟩) (.func (.func g) ⟨l'⟩ ⟨m'⟩):=by
  have hh:∀{us ys:List Value},FRl z us ys→(⟨us⟩:Array Value).size=(⟨ys⟩:Array Value).size∧∀i,i<(⟨us⟩:Array Value).size→FR z ((⟨us⟩:Array Value).getD i undef) ((⟨ys⟩:Array Value).getD i undef):=by
    intro us ys hf
    refine ⟨by simpa using hf.agg.1,fun i hi=>?_⟩
    rcases hf.agg.2 i with h5 | h5
    · exact h5
    · simp at hi;omega
  exact .fn (hh h).1 (hh h).2 (hh h2).1 (hh h2).2
theorem cells_frl {c C:Array Value}{base:Nat}(hC:base+c.size≤C.size) (h2:∀(i:Nat) (v:Value),c[i]?=some v→∃v',C[base+i]?=some v'∧VR φ v v'):VRl φ c.toList ((C.toList.drop base).take c.size):=by
  have key:∀(l:List Value) (m:List Value),l.length=m.length→(∀(i:Nat) (v:Value),l[i]?=some v→∃v',m[i]?=some v'∧VR φ v v')→VRl φ l m:=by
    intro l
    induction l with
    | nil=>intro m hl _;cases m with
      | nil=>exact .nil
      | cons _ _=>simp at hl
    | cons x r ih=>intro m hl hh;cases m with
      | nil=>simp at hl
      | cons y s =>
        refine .cons ?_ (ih s (by simpa using hl) fun i v hv=>by simpa using hh (i+1) v (by simpa using hv))
        obtain ⟨v',h3,h4⟩:=hh 0 x rfl
        simp only [List.getElem?_cons_zero,Option.some.injEq]at h3
        rw [h3];exact h4
  refine key _ _ (by simp;omega) fun i v hv=>?_
  have hv2:c[i]?=some v:=by rw [← Array.getElem?_toList];exact hv
  obtain ⟨v',h3,h4⟩:=h2 i v hv2
  refine ⟨v',?_,h4⟩
  have hi:i<c.size:=by rw [Array.getElem?_eq_some_iff]at hv2;exact hv2.1
  rw [List.getElem?_take,if_pos hi,List.getElem?_drop,Array.getElem?_toList]
  exact h3
theorem FRl.cells {l:List Value}{C:Array Value}{base n:Nat}(h:FRl z l ((C.toList.drop base).take n)) (hC:base+n≤C.size):l.length=n∧∀i,i<(⟨l⟩:Array Value).size→FR z ((⟨l⟩:Array Value).getD i undef) (C.getD (base+i) undef):=by
  have hn:l.length=n:=by rw [h.agg.1];simp;omega
  refine ⟨hn,fun i hi=>?_⟩
  have hi':i<n:=by simpa [hn] using hi
  rcases h.agg.2 i with h1 | h1
  · have e:(⟨(C.toList.drop base).take n⟩:Array Value).getD i undef=C.getD (base+i) undef:=by
      rw [Array.getD_eq_getD_getElem?,Array.getD_eq_getD_getElem?]
      have:(⟨(C.toList.drop base).take n⟩:Array Value)[i]?=C[base+i]?:=by
        rw [← Array.getElem?_toList,List.getElem?_take,if_pos hi',List.getElem?_drop,Array.getElem?_toList]
      rw [this]
    rw [← e];exact h1
  · omega
theorem frC_ok {f:Value→Option Value}(hf:∀v u v',f v=some u→VR φ v v'→FR z u v'):∀v u v',frC f v=some u→VR φ v v'→FR z u v':=by
  intro v u v' h hv
  unfold frC at h
  split at h
  · cases h;cases hv;exact .lstZ _ _ _ _
  · exact hf _ _ _ h hv
theorem frD_ok (h:Made 0 z φ X w):∀{n:Nat} {v u v':Value},frD X n v=some u→VR φ v v'→FR z u v'
  | 0,_,_,_,hk,_=>by cases hk
  | n+1,v,u,v',hk,hv=>by
    have ih:∀v u v',frD X n v=some u→VR φ v v'→FR z u v':=fun v u v' h1 h2=>frD_ok h h1 h2
    unfold frD at hk
    split at hk
    · rename_i b off len sz
      rw [nthO_eq]at hk
      split at hk
      · rename_i c hb
        split at hk
        · rename_i l hl
          split at hk
          · rename_i hle
            simp only [Option.some.injEq]at hk
            subst hk
            obtain ⟨B,base,tot,C,el,fr,h3,hz,h8,h6⟩:=h.obs b _ hb (Nat.zero_le _)
            cases hv with
            | sliceZ _ a' k'=>exact .lstZ _ _ _ _
            | slice hφ hl1 hc =>
              rw [h3]at hφ;cases hφ
              obtain ⟨k1,k2⟩:=(frDs_ok (frC_ok ih) hl (cells_frl h8 h6)).cells h8
              exact .lst hz (by simpa [k1] using h8) k2 hl1 (by simpa [k1] using hle)
          · cases hk
        · cases hk
      · cases hk
    · rename_i b off
      rw [nthO_eq]at hk
      split at hk
      · rename_i c hb
        split at hk
        · rename_i l hl
          simp only [Option.some.injEq]at hk
          subst hk
          obtain ⟨B,base,tot,C,el,fr,h3,hz,h8,h6⟩:=h.obs b _ hb (Nat.zero_le _)
          cases hv with
          | ptr hφ =>
            rw [h3]at hφ;cases hφ
            obtain ⟨k1,k2⟩:=(frDs_ok (frC_ok ih) hl (cells_frl h8 h6)).cells h8
            exact .dpt hz (by simpa [k1] using h8) k2
        · cases hk
      · cases hk
    · rename_i l
      split at hk
      · rename_i us hl
        simp only [Option.some.injEq]at hk
        subst hk
        obtain ⟨⟨ys⟩,rfl,hs⟩:=hv.agg_inv
        exact (frDs_ok ih hl hs.toList).fr
      · cases hk
    · rename_i t x
      split at hk
      · rename_i y hy
        simp only [Option.some.injEq]at hk
        subst hk
        cases hv with
        | iface _ hv=>exact .iface _ (ih _ _ _ hy hv)
      · cases hk
    · rename_i g l m
      split at hk
      · rename_i us ws hl hm
        simp only [Option.some.injEq]at hk
        subst hk
        cases hv with
        | @fn _ _ first' _ cap' hg h1 h2 h3 h4 =>
          obtain ⟨first'⟩:=first'
          obtain ⟨cap'⟩:=cap'
          exact FRl.fn g (frDs_ok ih hl (VRs.toList (VRs.of h1 h2))) (frDs_ok ih hm (VRs.toList (VRs.of h3 h4)))
      · cases hk
    · split at hk
      · rename_i hf
        simp only [Option.some.injEq]at hk
        subst hk
        exact fz0_fr h hf hv
      · cases hk
theorem FRl.vrl {ψ:Phi} {l l':List Value}(h:FRl ψ.z l l'):VRl ψ l l':=by
  induction h with
  | nil=>exact .nil
  | cons h _ ih=>exact .cons h.vr ih
theorem frDV_ok {ψ:Phi}(h:Made 0 ψ.z φ X w) {v u v':Value}(hk:frDV X v=some u) (hv:VR φ v v'):VR ψ u v':=by
  unfold frDV at hk
  split at hk
  · rename_i x l
    split at hk
    · rename_i us hl
      simp only [Option.some.injEq]at hk
      subst hk
      obtain ⟨⟨ys⟩,rfl,hs⟩:=hv.tuple_inv rfl
      exact (frDs_ok (fun _ _ _ h1 h2=>frD_ok h h1 h2) hl hs.toList).vrl.vrs.tuple
    · cases hk
  · exact (frD_ok h hk hv).vr
end
section
variable {P:Program}
theorem Fact.liftD {f:FuncId}{args:Array Value}{v u:Value}{h1:Hp}(hf:Fact P (.call f args ⟨[],0,[]⟩) (.ret v h1)) (hfz:frDV h1.bl v=some u)
    (ha:args.toList.all pureA=true) (h:Hp):Fact P (.call f args h) (.ret u h):=by
  obtain ⟨_,hh⟩:=hf.1 (Nat.le_refl _)
  refine ⟨fun hb=>⟨Pres.refl _,?_⟩,trivial⟩
  intro K w0 φ w args' n hI hA
  have hI':Inv K w0 φ ([]++h.bl) w:=hI
  have hN:=hI'.narrow (H0:=[]) (fun b ob h=>by simp at h)
  have hA1:VRs (cut φ ([]:List Ob).length) args args':=VRs.of hA.size fun i hi=>scT_cut (all_getD (p:=pureA) ha hi) (hA.getD i)
  refine (hh _ w _ w args' n hN hA1).mono ?_
  intro e w' he
  cases e with
  | returned v' =>
    obtain ⟨φ',hle,hv',hF⟩:=he
    have hZ:=hF.freeze (H1:=[]) (k:=0) (fun b ob h=>by simp at h)
    have k1:=frDV_ok (ψ:=⟨fun b=>if b<([]:List Ob).length+0 then φ' b else none,zF φ' h1.bl 0 w'⟩) (zF_made hF 0) hfz hv'
    have hle2:le (cut φ ([]:List Ob).length) ⟨fun b=>if b<([]:List Ob).length+0 then φ' b else none,zF φ' h1.bl 0 w'⟩:=by
      refine ⟨fun b x hx=>?_,fun B o hB=>(zF_made hF 0).le B o (hle.zz B o hB)⟩
      rw [cut_ge (show ([]:List Ob).length≤b from Nat.zero_le b)]at hx;cases hx
    obtain ⟨φ'',q1,q2,q3⟩:=hI'.widen (H1:=[]) (X:=[]) hZ hle2 .nil
    refine ⟨φ'',q1,?_,q3⟩
    have hc:cut ⟨fun b=>if b<([]:List Ob).length+0 then φ' b else none,zF φ' h1.bl ([]:List Ob).length w'⟩ ([]:List Ob).length=⟨fun b=>if b<([]:List Ob).length+0 then φ' b else none,zF φ' h1.bl 0 w'⟩:=by
      unfold cut
      simp
    rw [hc]at q2
    exact k1.mono q2
  | panicked ch=>exact he.elim
  | outgrown=>exact he.elim
end
def hasApp (os:Array Oper):Bool:=os.toList.any fun o=>match o.op with
  | .call { callee:=.builtin b,.. }=>(match b with | .append | .copy=>true | _=>false)
  | _=>false
def forceK (k:Kn):Kn:=fun o=>match o with
  | .ex e s=>forceE s.h.bl fun bl=>k (.ex e ⟨s.t,s.d,⟨bl,s.h.base,s.h.wr⟩⟩)
  | o=>k o
theorem forceK_eq (k:Kn):forceK k=k:=by
  funext o
  cases o with
  | ex e s=>simp only [forceK,forceE_eq]
  | _=>rfl
def catL:List Value→Nat→Nat→List Value→List Value
  | [],_,_,m=>m
  | x::r,off,n,m=>match off with
    | o+1=>catL r o n m
    | 0=>(match n with
      | k+1=>x::catL r 0 k m
      | 0=>m)
theorem catL_eq:∀(l:List Value) (off n:Nat) (m:List Value),catL l off n m=(l.drop off).take n++m
  | [],off,n,m=>by simp [catL]
  | x::r,0,0,m=>by simp [catL]
  | x::r,0,k+1,m=>by simp [catL,catL_eq r 0 k m]
  | x::r,o+1,n,m=>by simp [catL,catL_eq r o n m]
theorem catA_eq (c:Array Value)(off n:Nat)(m:Array Value):(⟨catL c.toList off n m.toList⟩:Array Value)=c.extract off (off+n)++m:=by
  apply Array.ext'
  rw [catL_eq,Array.toList_append,Array.toList_extract,List.extract]
  simp
def appendZ (P:Program)(h:Hp)(ts tx:TypeId)(s x:Value)(k:Value→Hp→Option Out):Option Out :=
  match P.underlying ts,P.underlying tx with
  | some (.slice e),some d =>
    if intB d=true then none else
    match P.info? e,zeroB P e with
    | some inf,some z =>
      natF inf.size fun isz=>natF inf.bytes fun iby =>
      match s,lenB x with
      | .slice base sl sz,some n =>
        natF n fun n =>
        cond (decide (n=0)) (k (.slice base sl sz) h)
        (newC h.bl isz n x fun news =>
          cond (decide (news.size=n*isz)&&(oneAll news&&decide (z.cells.size=isz))) (cond (decide ((sl+n)*iby≤140737488355328)&&decide (sl+n≤4611686018427387904))
            (match base with
            | none=>cond (decide (sl=0)) (k (.slice (some ⟨h.bl.length,0,none⟩) n isz) (h.push (.cells news false))) none
            | some ⟨b,off,none⟩ =>
              match nthO h.bl b with
              | some (.cells c false) =>
                cond (decide (sz=isz)) (cond (decide (off+sl*isz≤c.size))
                  (k (.slice (some ⟨h.bl.length,0,none⟩) (sl+n) isz) ((h.put b .dead).push (.cells ⟨catL c.toList off (sl*isz) news.toList⟩ false))) none) none
              | _=>none
            | _=>none) none) none)
      | _,_=>none
    | _,_=>none
  | _,_=>none
theorem appendZ_eq:appendZ=appendC:=by
  funext P h ts tx s x k
  simp only [appendZ,appendC,catA_eq]
  rfl
def loudZ (P:Program) (ρ:Operand→Value)(h:Hp)(o:Oper)(k:Ends):Option Out :=
  match o.op with
  | .call { callee:=.builtin .append,args,argTypes } =>
    match args.toList,argTypes.toList with
    | [s,x],[ts,tx]=>if okO s&&okO x then appendZ P h ts tx (ρ s) (ρ x) k.val else none
    | _,_=>none
  | _=>loudC P ρ h o k
theorem loudZ_eq:loudZ=loudC:=by
  funext P ρ h o k
  unfold loudZ
  split
  · rename_i args ts ho
    unfold loudC
    simp only [ho,appendZ_eq]
    rfl
  · rfl
def opDZ (P:Program)(self:SelfC)(T:List Value)(h:Hp)(o:Oper)(k:Value→Hp→Bool→Option Out):Option Out :=
  match o.op with
  | .pick c a b=>if okO c&&okO a&&okO b then (match evalT T c with | .bool t=>cond t (k (evalT T a) h false) (k (evalT T b) h false) | _=>none) else none
  | _ =>
    match symR P (evalT T) h.bl o with
    | some (b,v)=>cond b (k v h false) none
    | none=>match aread P (evalT T) h.bl o with
      | some v=>k v h false
      | none=>loudZ P (evalT T) h o {
        val:=fun v h'=>heapK h' fun h'=>k v h' true
        enter:=fun f args=>headsK args fun args=>self (.call f ⟨args⟩ h) fun | .ret v h'=>k v h' true | _=>none
        yield:=fun l args=>headsK args fun args=>self (.round l ⟨args⟩ h) fun | .ret v h'=>k v h' true | _=>none
        defer:=fun _=>none
        panic:=fun _=>none }
theorem opDZ_eq:opDZ=opD:=by
  funext P self T h o k
  simp only [opDZ,loudZ_eq]
  rfl
def drunZ (P:Program)(self:SelfC)(os:Array Oper):List Nat→List Value→Hp→(List Rec→List Value→Hp→Option Out)→Option Out
  | [],T,h,k=>k [] T h
  | i::r,T,h,k =>
    match os[i]? with
    | none=>none
    | some o =>
      guardC os o T
        (fun T=>opDZ P self T h o fun v h' loud=>headK v fun v=>setK' T o.dst v fun T'=>drunZ P self os r T' h' fun l T2 h2=>k (⟨i,o,T,v,h,h',loud⟩::l) T2 h2)
        (fun T=>setK' T o.dst undef fun T'=>drunZ P self os r T' h fun l T2 h2=>k (⟨i,o,T,undef,h,h,false⟩::l) T2 h2)
theorem drunZ_eq (P:Program)(self:SelfC)(os:Array Oper):∀l,drunZ P self os l=drunC P self os l
  | []=>rfl
  | i::r=>by
    funext T h k
    simp only [drunZ,drunC,drunZ_eq P self os r,opDZ_eq]
    rfl
def drawnFZ (P:Program)(self:SelfC)(os:Array Oper)(s:St)(k:Ex→St→Option Out):Option Out :=
  if planOk os (late os) (mkClo os (late os) (List.replicate os.size 0)) then
    drunZ P self os (late os) s.t s.h fun recs T h =>
      if floatOk (mkClo os (late os) (List.replicate os.size 0)) [] recs&&recs.all fun r=>!(r.loud&&isAl r.o)||r.o.dst.all fun t=>decide (t<s.t.length) then
        fchkC P os (mkClo os (late os) (List.replicate os.size 0)) recs (k .normal { t:=T,d:=s.d,h:=h })
      else none
  else none
def drawnNZ (P:Program)(self:SelfC)(os:Array Oper)(s:St)(k:Ex→St→Option Out):Option Out :=
  if planOk os (Region.linearise .any os 0) (mkClo os (Region.linearise .any os 0) (List.replicate os.size 0)) then
    drunZ P self os (Region.linearise .any os 0) s.t s.h fun recs T h =>
      chkC P os (mkClo os (Region.linearise .any os 0) (List.replicate os.size 0)) recs (k .normal { t:=T,d:=s.d,h:=h })
  else none
def drawnXZ (P:Program)(self:SelfC)(os:Array Oper)(s:St)(k:Ex→St→Option Out):Option Out :=
  match floaty os (mkClo os (Region.linearise .any os 0) (List.replicate os.size 0)) with
  | true=>drawnFZ P self os s k
  | false=>drawnNZ P self os s k
theorem drawnXZ_eq:drawnXZ=drawnXC:=by
  funext P self os s k
  simp only [drawnXZ,drawnXC,drawnFZ,drawnFC,drawnNZ,drawnC,drunZ_eq]
  rfl
def opZ (P:Program) (ρ:Operand→Value)(h:Hp)(o:Oper)(k:Ends):Option Out :=
  match o.op with
  | .pick c a b=>if okO c&&okO a&&okO b then (match ρ c with | .bool t=>cond t (k.val (ρ a) h) (k.val (ρ b) h) | _=>none) else none
  | _ =>
    match symR P ρ h.bl o with
    | some (b,v)=>cond b (k.val v h) none
    | none=>match aread P ρ h.bl o with
      | some v=>k.val v h
      | none=>loudZ P ρ h o k.heap
theorem opZ_eq:opZ=opC:=by
  funext P ρ h o k
  simp only [opZ,loudZ_eq]
  rfl
def runOpsZ (P:Program)(self:SelfC)(rd:Option Nat)(os:Array Oper):List Nat→St→(Ex→St→Option Out)→Option Out
  | [],s,k=>k .normal s
  | i::r,s,k =>
    match os[i]? with
    | none=>runOpsZ P self rd os r s k
    | some o =>
      guardC os o s.t
        (fun t=>opZ P (evalT t) s.h o {
          val:=fun v h=>setK' t o.dst v fun t=>runOpsZ P self rd os r { t:=t,d:=s.d,h:=h } k
          enter:=fun f args=>headsK args fun args=>self (.call f ⟨args⟩ s.h) fun
            | .ret v h=>setK' t o.dst v fun t=>runOpsZ P self rd os r { t:=t,d:=s.d,h:=h } k
            | .pan v h=>k (.panic v) { t:=t,d:=s.d,h:=h }
            | _=>none
          yield:=fun l args=>headsK args fun args=>self (.round l ⟨args⟩ s.h) fun
            | .ret v h=>setK' t o.dst v fun t=>runOpsZ P self rd os r { t:=t,d:=s.d,h:=h } k
            | _=>none
          defer:=fun d=>if rd.isNone then setK' t o.dst undef fun t=>runOpsZ P self rd os r { t:=t,d:=d::s.d,h:=s.h } k else none
          panic:=fun v=>k (.panic v) { t:=t,d:=s.d,h:=s.h } })
        (fun t=>setK' t o.dst undef fun t=>runOpsZ P self rd os r { t:=t,d:=s.d,h:=s.h } k)
theorem runOpsZ_eq (P:Program)(self:SelfC)(rd:Option Nat)(os:Array Oper):∀l,runOpsZ P self rd os l=runOpsC P self rd os l
  | []=>rfl
  | i::r=>by
    funext s k
    simp only [runOpsZ,runOpsC,runOpsZ_eq P self rd os r,opZ_eq]
    rfl
def stepZ (P:Program)(self:SelfC):SelfC:=fun t k=>match t with
  | .code rd (.region id os dr) s=>(match hasApp os with
    | true=>(match dr with
      | true=>drawnXZ P self os s fun e s'=>forceK k (.ex e s')
      | false=>runOpsZ P self rd os (List.range os.size) s fun e s'=>forceK k (.ex e s'))
    | false=>stepC P self (.code rd (.region id os dr) s) k)
  | t=>stepC P self t k
theorem stepZ_eq (P:Program)(self:SelfC):stepZ P self=stepC P self:=by
  funext t k
  unfold stepZ
  split
  · split
    · simp only [forceK_eq,drawnXZ_eq,runOpsZ_eq]
      rfl
    · rfl
  · rfl
def evZ (P:Program)(oc:Task→Kn→Option (Option Out)):Nat→SelfC
  | 0,_,_=>none
  | n+1,t,k=>match oc t k with
    | some r=>r
    | none=>stepZ P (evZ P oc n) t k
theorem evZ_eq (P:Program)(oc:Task→Kn→Option (Option Out)):∀n,evZ P oc n=evC P oc n
  | 0=>rfl
  | n+1=>by
    funext t k
    simp only [evZ,evC,evZ_eq P oc n,stepZ_eq]
    cases oc t k<;>rfl
def CF.chk (P:Program)(l:List CF)(n:Nat)(c:CF):Bool:=match evZ P (tabA l).c n (.call c.g ⟨c.args⟩ ⟨[],0,[]⟩) frDK with
  | some (.ret u ⟨[],0,[]⟩)=>(match eqVn 12 u c.u with
    | true=>c.args.all pureA
    | false=>false)
  | _=>false
section
variable {P:Program}(hN:NoNG P) (hm:P.follows .mixedOrders=true)
include hN hm
theorem CF.of {l:List CF}(hl:CFs P l) (n:Nat) {c:CF}(h:evC P (tabA l).c n (.call c.g ⟨c.args⟩ ⟨[],0,[]⟩) frDK=some (.ret c.u ⟨[],0,[]⟩)) (ha:c.args.all pureA=true):c.Ok P:=by
  intro hp
  obtain ⟨o,h3,hf⟩:=(tabA_ok hl).factK hN hm h
  cases o with
  | ret v h' =>
    simp only [frDK]at h3
    split at h3
    · rename_i u hu
      simp only [Option.some.injEq,Out.ret.injEq,and_true]at h3
      subst h3
      exact hf.liftD hu ha hp
    · cases h3
  | _=>cases h3
theorem CF.of2 {l:List CF}(hl:CFs P l) (n:Nat) {c:CF}(h:c.chk P l n=true):c.Ok P:=by
  unfold CF.chk at h
  rw [evZ_eq]at h
  split at h
  · rename_i u he
    split at h
    · rename_i hu
      have e:=eqVn_eq hu
      subst e
      exact CF.of hN hm hl n he h
    · cases h
  · cases h
end
end
end Go.Gi
namespace Go.Proofs.Ytlccpongnnpbeaa
open Go.Gi Go.RowKit
theorem noNG_of {P : Program} (h : (P.funcs.toList.all fun fn=>!(fn.name == "runtime.NumGoroutine")) = true) : NoNG P:=by
  intro f fn hf _
  rw [List.all_eq_true]at h
  have:=h fn (by rw [Array.mem_toList_iff];exact Array.mem_of_getElem? hf)
  simpa using this
theorem noNG:NoNG Try.prog:=noNG_of (by decide +kernel)
theorem mixed:Try.prog.follows .mixedOrders=true:=by decide +kernel
end Go.Proofs.Ytlccpongnnpbeaa
namespace Go.Proofs.Ytlccpongnnpbeaa.Old
end Go.Proofs.Ytlccpongnnpbeaa.Old
namespace Go.Proofs.Ytlccpongnnpbeaa
open Go.Gi Go.RowKit
noncomputable section
set_option maxRecDepth 100000
set_option maxHeartbeats 4000000
def wKnown0:Array Value:=⟨[vI 10000,vI 20000,vJ 4999,vI 5000,vI 1000,vI 6000,vI 16000,vJ 4999,vI 5000,vI 1500,vI 9000,vI 19000,vJ 4999,vI 5000,vI 1000]⟩
def wKnown1:Array Value:=⟨[lstV ⟨[vI 0,vI 200000,vI 2000,vI 3000,vI 200000,vI 1000000,vJ 499,vJ 399]⟩ 0 2 4,lstV wKnown0 0 3 5,vI 15000,vI 0,vI 5000,vI 25000,vJ 9999,vI 10000,vI 10,vI 50,vI 200]⟩
def wKnown2:Array Value:=⟨[vI 0,vI 200000,vI 600,vI 780,vJ 149,vI 80,vI 200000,vI 1000000,vI 640,vI 740,vJ 109,vI 240]⟩
def wKnown3:Array Value:=⟨[vI 10830,vI 22084,vJ 5569,vI 5295,vI 7245,vI 19126,vJ 5854,vI 5443,vI 9830,vI 21084,vJ 5569,vI 5295]⟩
def wKnown4:Array Value:=⟨[lstV ⟨[vI 0,vI 200000,vI 2000,vI 3000,vI 200000,vI 1000000,vJ 499,vJ 399]⟩ 0 2 4,lstV wKnown0 0 3 5,vI 15000,vI 0,vI 5000,vI 25000,vJ 9999,vI 10000,vI 10,vI 50,vI 200,lstV wKnown3 0 3 4]⟩
def wKnown5:Array Value:=⟨[lstV ⟨[vI 0,vI 200000,vI 2000,vI 3000,vI 200000,vI 1000000,vJ 499,vJ 399]⟩ 0 2 4,lstV wKnown0 0 3 5,vI 15000,vI 0,vI 5000,vI 21000,vJ 9999,vI 10000,vI 10,vI 50,vI 200]⟩
def wKnown6:Array Value:=⟨[lstV ⟨[vI 0,vI 200000,vI 2000,vI 3000,vI 200000,vI 1000000,vJ 499,vJ 399]⟩ 0 2 4,lstV wKnown0 0 3 5,vI 15000,vI 0,vI 5000,vI 21000,vJ 9999,vI 10000,vI 10,vI 50,vI 200,lstV wKnown3 0 3 4]⟩
def wKnown7:Array Value:=⟨[lstV ⟨[vI 0,vI 200000,vI 2000,vI 3000,vI 200000,vI 1000000,vJ 499,vJ 399]⟩ 0 2 4,lstV wKnown0 0 3 5,vI 15000,vI 0,vI 5000,vI 19000,vJ 9999,vI 10000,vI 10,vI 50,vI 200]⟩
def wKnown8:Array Value:=⟨[lstV ⟨[vI 0,vI 200000,vI 2000,vI 3000,vI 200000,vI 1000000,vJ 499,vJ 399]⟩ 0 2 4,lstV wKnown0 0 3 5,vI 15000,vI 0,vI 5000,vI 19000,vJ 9999,vI 10000,vI 10,vI 50,vI 200,lstV wKnown3 0 3 4]⟩
def wKnown9:Array Value:=⟨[.string ⟨⟨[109,97,115,116]⟩⟩,vI 1,vI 50,vI 0,vI 6000,vI 0,vI 300000,.string ⟨⟨[98,108,117,101]⟩⟩,vI 2,vI 100,vI 600,vI 12000,vI 0,vI 30000000,.string ⟨⟨[98,101,97,109]⟩⟩,vI 3,vI 80,vI 100,vI 3000,vI 50000,vI 2000000]⟩
def wKnown10:Array Value:=⟨[vI 0,vI 1000,vI 100000,vI 450,vI 0,vI 1,vI 1000,vI 100000,vI 600,vJ 99,vI 1,vI 1600,vI 600000,vI 850,vI 100,vI 2,vI 2000,vI 300000,vI 760,vI 0]⟩
def wKnown11:Array Value:=⟨[lstV wKnown9 0 3 7,lstV wKnown10 0 4 5,lstV ⟨[vI 200000,vI 1000000]⟩ 0 2 1,vI 30,vI 20]⟩
def wKnown12:Array Value:=⟨[vI 0,vI 200000,vJ 19999,vI 20000,vJ 19999,vI 20000,vI 200000,vI 1000000,vJ 19999,vI 20000,vJ 19999,vI 20000]⟩
def wKnown13:Array Value:=⟨[.agg ⟨[vJ 69999999,vI 70000000]⟩,.agg ⟨[vJ 69999999,vI 70000000]⟩,vI 0]⟩
def wKnown14:Array Value:=⟨[vJ 59999,vI 90000,vJ 74999,vI 75000,vJ 98999,vI 121000,vJ 109999,vI 110000,vJ 60999,vI 89000,vJ 74999,vI 75000]⟩
def wKnown15:Array Value:=⟨[lstV ⟨[vI 0,vI 200000,vI 2000,vI 3000,vI 200000,vI 1000000,vJ 499,vJ 399]⟩ 0 2 4,lstV wKnown0 0 3 5,vI 15000,vI 0,vI 5000,vI 25000,vJ 9999,vI 10000,vI 10,vI 50,vI 200,lstV wKnown14 0 3 4]⟩
def wKnown16:Array Value:=⟨[vI 0,vI 200000,vI 320,vI 580,vJ 129,vI 130,vI 200000,vI 1000000,vI 160,vI 740,vJ 289,vI 290]⟩
def wKnown17:Array Value:=⟨[vI 10270,vI 21676,vJ 5534,vI 5535,vI 6405,vI 18514,vJ 5802,vI 5803,vI 9270,vI 20676,vJ 5534,vI 5535]⟩
def wKnown18:Array Value:=⟨[lstV ⟨[vI 0,vI 200000,vI 2000,vI 3000,vI 200000,vI 1000000,vJ 499,vJ 399]⟩ 0 2 4,lstV wKnown0 0 3 5,vI 15000,vI 0,vI 5000,vI 25000,vJ 9999,vI 10000,vI 10,vI 50,vI 200,lstV wKnown17 0 3 4]⟩
def wKnown19:Array Value:=⟨[vI 0,vI 200000,vI 420,vI 580,vJ 129,vI 80,vI 200000,vI 1000000,vI 260,vI 740,vJ 289,vI 240]⟩
def wKnown20:Array Value:=⟨[vI 10470,vI 21636,vJ 5509,vI 5385,vI 6705,vI 18454,vJ 5764,vI 5578,vI 9470,vI 20636,vJ 5509,vI 5385]⟩
def wKnown21:Array Value:=⟨[lstV ⟨[vI 0,vI 200000,vI 2000,vI 3000,vI 200000,vI 1000000,vJ 499,vJ 399]⟩ 0 2 4,lstV wKnown0 0 3 5,vI 15000,vI 0,vI 5000,vI 25000,vJ 9999,vI 10000,vI 10,vI 50,vI 200,lstV wKnown20 0 3 4]⟩
def wKnown22:Array Value:=⟨[.agg ⟨[vI 2,vI 85,lstV ⟨[vI 2,vI 1,vI 2,vI 0,vI 0,vI 0]⟩ 0 3 2]⟩,vI 0]⟩
def KKnown0:CF:=⟨17,[],.agg wKnown1⟩
theorem kKnown0:KKnown0.Ok Try.prog:=CF.of2 noNG mixed (l:=[]) .nil 3000 (by kernel_rfl)
def KKnown1:CF:=⟨18,[],lstV wKnown2 0 2 6⟩
theorem kKnown1:KKnown1.Ok Try.prog:=CF.of2 noNG mixed (l:=[]) .nil 3000 (by kernel_rfl)
def KKnown2:CF:=⟨19,[vI 10830,vI 22084,vJ 5569,vI 5295],.agg ⟨[vI 10830,vI 22084,vJ 5569,vI 5295]⟩⟩
theorem kKnown2:KKnown2.Ok Try.prog:=CF.of2 noNG mixed (l:=[]) .nil 3000 (by kernel_rfl)
def KKnown3:CF:=⟨19,[vI 7245,vI 19126,vJ 5854,vI 5443],.agg ⟨[vI 7245,vI 19126,vJ 5854,vI 5443]⟩⟩
theorem kKnown3:KKnown3.Ok Try.prog:=CF.of2 noNG mixed (l:=[]) .nil 3000 (by kernel_rfl)
def KKnown4:CF:=⟨19,[vI 9830,vI 21084,vJ 5569,vI 5295],.agg ⟨[vI 9830,vI 21084,vJ 5569,vI 5295]⟩⟩
theorem kKnown4:KKnown4.Ok Try.prog:=CF.of2 noNG mixed (l:=[]) .nil 3000 (by kernel_rfl)
def KKnown5:CF:=⟨14,[.agg wKnown1],.tuple ⟨[vI 0,vI 0,vI 0]⟩⟩
theorem kKnown5:KKnown5.Ok Try.prog:=CF.of2 noNG mixed (l:=[]) .nil 3000 (by kernel_rfl)
def KKnown6:CF:=⟨84,[.agg ⟨[vI 0,vI 200000,vI 600,vI 780,vJ 149,vI 80]⟩,vI 0],vI 0⟩
theorem kKnown6:KKnown6.Ok Try.prog:=CF.of2 noNG mixed (l:=[]) .nil 3000 (by kernel_rfl)
def KKnown7:CF:=⟨84,[.agg ⟨[vI 200000,vI 1000000,vI 640,vI 740,vJ 109,vI 240]⟩,vI 200000],vI 0⟩
theorem kKnown7:KKnown7.Ok Try.prog:=CF.of2 noNG mixed (l:=[]) .nil 3000 (by kernel_rfl)
def KKnown8:CF:=⟨57,[lstV wKnown2 0 2 6],.tuple ⟨[vI 0,vI 0]⟩⟩
theorem kKnown8:KKnown8.Ok Try.prog:=CF.of2 noNG mixed (l:=[KKnown6,KKnown7]) (.cons kKnown6 (.cons kKnown7 .nil)) 3000 (by kernel_rfl)
def KKnown9:CF:=⟨58,[.agg ⟨[vI 0,vI 200000,vI 2000,vI 3000]⟩,lstV wKnown2 0 2 6],.tuple ⟨[.agg ⟨[vI 600,vI 780]⟩,.agg ⟨[vJ 149,vI 80]⟩]⟩⟩
theorem kKnown9:KKnown9.Ok Try.prog:=CF.of2 noNG mixed (l:=[]) .nil 3000 (by kernel_rfl)
def KKnown10:CF:=⟨58,[.agg ⟨[vI 200000,vI 1000000,vJ 499,vJ 399]⟩,lstV wKnown2 0 2 6],.tuple ⟨[.agg ⟨[vI 640,vI 740]⟩,.agg ⟨[vJ 109,vI 240]⟩]⟩⟩
theorem kKnown10:KKnown10.Ok Try.prog:=CF.of2 noNG mixed (l:=[]) .nil 3000 (by kernel_rfl)
def KKnown11:CF:=⟨30,[.agg wKnown1,lstV wKnown2 0 2 6],.tuple ⟨[.agg ⟨[vI 830000,vI 2084000]⟩,.agg ⟨[vJ 569999,vI 295000]⟩,vI 0]⟩⟩
theorem kKnown11:KKnown11.Ok Try.prog:=CF.of2 noNG mixed (l:=[KKnown8,KKnown9,KKnown10,KKnown5]) (.cons kKnown8 (.cons kKnown9 (.cons kKnown10 (.cons kKnown5 .nil)))) 3000 (by kernel_rfl)
def KKnown12:CF:=⟨66,[.agg ⟨[vI 10000,vI 20000,vJ 4999,vI 5000,vI 1000]⟩,.agg ⟨[vI 830000,vI 2084000]⟩,.agg ⟨[vJ 569999,vI 295000]⟩],.agg ⟨[vI 10830,vI 22084,vJ 5569,vI 5295]⟩⟩
theorem kKnown12:KKnown12.Ok Try.prog:=CF.of2 noNG mixed (l:=[]) .nil 3000 (by kernel_rfl)
def KKnown13:CF:=⟨66,[.agg ⟨[vI 6000,vI 16000,vJ 4999,vI 5000,vI 1500]⟩,.agg ⟨[vI 830000,vI 2084000]⟩,.agg ⟨[vJ 569999,vI 295000]⟩],.agg ⟨[vI 7245,vI 19126,vJ 5854,vI 5443]⟩⟩
theorem kKnown13:KKnown13.Ok Try.prog:=CF.of2 noNG mixed (l:=[]) .nil 3000 (by kernel_rfl)
def KKnown14:CF:=⟨66,[.agg ⟨[vI 9000,vI 19000,vJ 4999,vI 5000,vI 1000]⟩,.agg ⟨[vI 830000,vI 2084000]⟩,.agg ⟨[vJ 569999,vI 295000]⟩],.agg ⟨[vI 9830,vI 21084,vJ 5569,vI 5295]⟩⟩
theorem kKnown14:KKnown14.Ok Try.prog:=CF.of2 noNG mixed (l:=[]) .nil 3000 (by kernel_rfl)
def KKnown15:CF:=⟨46,[.agg wKnown1,lstV wKnown2 0 2 6],.tuple ⟨[.agg wKnown4,vI 0]⟩⟩
theorem kKnown15:KKnown15.Ok Try.prog:=CF.of2 noNG mixed (l:=[KKnown11,KKnown12,KKnown13,KKnown14]) (.cons kKnown11 (.cons kKnown12 (.cons kKnown13 (.cons kKnown14 .nil)))) 3000 (by kernel_rfl)
def KKnown16:CF:=⟨20,[.agg wKnown1,lstV wKnown2 0 2 6,vI 0],.tuple ⟨[.agg ⟨[vI 10830,vI 22084,vJ 5569,vI 5295]⟩,vI 0]⟩⟩
theorem kKnown16:KKnown16.Ok Try.prog:=CF.of2 noNG mixed (l:=[KKnown15]) (.cons kKnown15 .nil) 3000 (by kernel_rfl)
def KKnown17:CF:=⟨68,[.agg wKnown4,vI 0],.agg ⟨[vI 61,vI 100,vI 61,vI 100]⟩⟩
theorem kKnown17:KKnown17.Ok Try.prog:=CF.of2 noNG mixed (l:=[]) .nil 3000 (by kernel_rfl)
def KKnown18:CF:=⟨48,[.agg wKnown4,vI 0],vI 100⟩
theorem kKnown18:KKnown18.Ok Try.prog:=CF.of2 noNG mixed (l:=[KKnown17]) (.cons kKnown17 .nil) 3000 (by kernel_rfl)
def KKnown19:CF:=⟨21,[.agg wKnown1,lstV wKnown2 0 2 6,vI 0],.tuple ⟨[vI 100,vI 0]⟩⟩
theorem kKnown19:KKnown19.Ok Try.prog:=CF.of2 noNG mixed (l:=[KKnown18,KKnown15]) (.cons kKnown18 (.cons kKnown15 .nil)) 3000 (by kernel_rfl)
def KKnown20:CF:=⟨20,[.agg wKnown1,lstV wKnown2 0 2 6,vI 1],.tuple ⟨[.agg ⟨[vI 7245,vI 19126,vJ 5854,vI 5443]⟩,vI 0]⟩⟩
theorem kKnown20:KKnown20.Ok Try.prog:=CF.of2 noNG mixed (l:=[KKnown15]) (.cons kKnown15 .nil) 3000 (by kernel_rfl)
def KKnown21:CF:=⟨68,[.agg wKnown4,vI 1],.agg ⟨[vI 100,vI 61,vI 100,vI 61]⟩⟩
theorem kKnown21:KKnown21.Ok Try.prog:=CF.of2 noNG mixed (l:=[]) .nil 3000 (by kernel_rfl)
def KKnown22:CF:=⟨48,[.agg wKnown4,vI 1],vI 100⟩
theorem kKnown22:KKnown22.Ok Try.prog:=CF.of2 noNG mixed (l:=[KKnown21]) (.cons kKnown21 .nil) 3000 (by kernel_rfl)
def KKnown23:CF:=⟨21,[.agg wKnown1,lstV wKnown2 0 2 6,vI 1],.tuple ⟨[vI 100,vI 0]⟩⟩
theorem kKnown23:KKnown23.Ok Try.prog:=CF.of2 noNG mixed (l:=[KKnown22,KKnown15]) (.cons kKnown22 (.cons kKnown15 .nil)) 3000 (by kernel_rfl)
def KKnown24:CF:=⟨20,[.agg wKnown1,lstV wKnown2 0 2 6,vI 2],.tuple ⟨[.agg ⟨[vI 9830,vI 21084,vJ 5569,vI 5295]⟩,vI 0]⟩⟩
theorem kKnown24:KKnown24.Ok Try.prog:=CF.of2 noNG mixed (l:=[KKnown15]) (.cons kKnown15 .nil) 3000 (by kernel_rfl)
def KKnown25:CF:=⟨68,[.agg wKnown4,vI 2],.agg ⟨[vI 72,vI 85,vI 72,vI 85]⟩⟩
theorem kKnown25:KKnown25.Ok Try.prog:=CF.of2 noNG mixed (l:=[]) .nil 3000 (by kernel_rfl)
def KKnown26:CF:=⟨48,[.agg wKnown4,vI 2],vI 85⟩
theorem kKnown26:KKnown26.Ok Try.prog:=CF.of2 noNG mixed (l:=[KKnown25]) (.cons kKnown25 .nil) 3000 (by kernel_rfl)
def KKnown27:CF:=⟨21,[.agg wKnown1,lstV wKnown2 0 2 6,vI 2],.tuple ⟨[vI 85,vI 0]⟩⟩
theorem kKnown27:KKnown27.Ok Try.prog:=CF.of2 noNG mixed (l:=[KKnown26,KKnown15]) (.cons kKnown26 (.cons kKnown15 .nil)) 3000 (by kernel_rfl)
def KKnown28:CF:=⟨49,[.agg wKnown4],lstV ⟨[vI 0,vI 1,vI 2]⟩ 0 3 1⟩
theorem kKnown28:KKnown28.Ok Try.prog:=CF.of2 noNG mixed (l:=[]) .nil 3000 (by kernel_rfl)
def KKnown29:CF:=⟨22,[.agg wKnown1,lstV wKnown2 0 2 6],.tuple ⟨[lstV ⟨[vI 0,vI 1,vI 2]⟩ 0 3 1,vI 0]⟩⟩
theorem kKnown29:KKnown29.Ok Try.prog:=CF.of2 noNG mixed (l:=[KKnown28,KKnown15]) (.cons kKnown28 (.cons kKnown15 .nil)) 3000 (by kernel_rfl)
def KKnown30:CF:=⟨50,[.agg wKnown4],.tuple ⟨[vI 2,vT]⟩⟩
theorem kKnown30:KKnown30.Ok Try.prog:=CF.of2 noNG mixed (l:=[KKnown18,KKnown26,KKnown28,KKnown22]) (.cons kKnown18 (.cons kKnown26 (.cons kKnown28 (.cons kKnown22 .nil)))) 3000 (by kernel_rfl)
def KKnown31:CF:=⟨97,[.agg wKnown4,vI 0,.agg ⟨[vI 2,vI 85,.slice none 0 0]⟩],.agg ⟨[vF,vT,vF,vT]⟩⟩
theorem kKnown31:KKnown31.Ok Try.prog:=CF.of2 noNG mixed (l:=[KKnown17]) (.cons kKnown17 .nil) 3000 (by kernel_rfl)
def KKnown32:CF:=⟨71,[.agg wKnown4,vI 2,vI 0,.agg ⟨[vI 2,vI 85,.slice none 0 0]⟩],.agg ⟨[vF,vT,vF,vT]⟩⟩
theorem kKnown32:KKnown32.Ok Try.prog:=CF.of2 noNG mixed (l:=[KKnown31]) (.cons kKnown31 .nil) 3000 (by kernel_rfl)
def KKnown33:CF:=⟨51,[.agg wKnown4,vI 0,.agg ⟨[vI 2,vI 85,.slice none 0 0]⟩],.agg ⟨[vI 2,vI 1]⟩⟩
theorem kKnown33:KKnown33.Ok Try.prog:=CF.of2 noNG mixed (l:=[KKnown32]) (.cons kKnown32 .nil) 3000 (by kernel_rfl)
def KKnown34:CF:=⟨69,[.agg wKnown4,vI 1],vT⟩
theorem kKnown34:KKnown34.Ok Try.prog:=CF.of2 noNG mixed (l:=[]) .nil 3000 (by kernel_rfl)
def KKnown35:CF:=⟨47,[.agg wKnown4,vI 2],vT⟩
theorem kKnown35:KKnown35.Ok Try.prog:=CF.of2 noNG mixed (l:=[]) .nil 3000 (by kernel_rfl)
def KKnown36:CF:=⟨69,[.agg wKnown4,vI 2],vT⟩
theorem kKnown36:KKnown36.Ok Try.prog:=CF.of2 noNG mixed (l:=[]) .nil 3000 (by kernel_rfl)
def KKnown37:CF:=⟨14,[.agg wKnown5],.tuple ⟨[vI 0,vI 0,vI 0]⟩⟩
theorem kKnown37:KKnown37.Ok Try.prog:=CF.of2 noNG mixed (l:=[]) .nil 3000 (by kernel_rfl)
def KKnown38:CF:=⟨30,[.agg wKnown5,lstV wKnown2 0 2 6],.tuple ⟨[.agg ⟨[vI 830000,vI 2084000]⟩,.agg ⟨[vJ 569999,vI 295000]⟩,vI 0]⟩⟩
theorem kKnown38:KKnown38.Ok Try.prog:=CF.of2 noNG mixed (l:=[KKnown8,KKnown9,KKnown10,KKnown37]) (.cons kKnown8 (.cons kKnown9 (.cons kKnown10 (.cons kKnown37 .nil)))) 3000 (by kernel_rfl)
def KKnown39:CF:=⟨46,[.agg wKnown5,lstV wKnown2 0 2 6],.tuple ⟨[.agg wKnown6,vI 0]⟩⟩
theorem kKnown39:KKnown39.Ok Try.prog:=CF.of2 noNG mixed (l:=[KKnown12,KKnown13,KKnown38,KKnown14]) (.cons kKnown12 (.cons kKnown13 (.cons kKnown38 (.cons kKnown14 .nil)))) 3000 (by kernel_rfl)
def KKnown40:CF:=⟨49,[.agg wKnown6],lstV ⟨[vI 1]⟩ 0 1 1⟩
theorem kKnown40:KKnown40.Ok Try.prog:=CF.of2 noNG mixed (l:=[]) .nil 3000 (by kernel_rfl)
def KKnown41:CF:=⟨50,[.agg wKnown6],.tuple ⟨[vI 1,vT]⟩⟩
theorem kKnown41:KKnown41.Ok Try.prog:=CF.of2 noNG mixed (l:=[KKnown40]) (.cons kKnown40 .nil) 3000 (by kernel_rfl)
def KKnown42:CF:=⟨68,[.agg wKnown6,vI 1],.agg ⟨[vI 100,vI 61,vI 100,vI 61]⟩⟩
theorem kKnown42:KKnown42.Ok Try.prog:=CF.of2 noNG mixed (l:=[]) .nil 3000 (by kernel_rfl)
def KKnown43:CF:=⟨48,[.agg wKnown6,vI 1],vI 100⟩
theorem kKnown43:KKnown43.Ok Try.prog:=CF.of2 noNG mixed (l:=[KKnown42]) (.cons kKnown42 .nil) 3000 (by kernel_rfl)
def KKnown44:CF:=⟨71,[.agg wKnown6,vI 1,vI 0,.agg ⟨[vI 1,vI 100,.slice none 0 0]⟩],.agg ⟨[vF,vT,vF,vF]⟩⟩
theorem kKnown44:KKnown44.Ok Try.prog:=CF.of2 noNG mixed (l:=[]) .nil 3000 (by kernel_rfl)
def KKnown45:CF:=⟨51,[.agg wKnown6,vI 0,.agg ⟨[vI 1,vI 100,.slice none 0 0]⟩],.agg ⟨[vI 1,vI 1]⟩⟩
theorem kKnown45:KKnown45.Ok Try.prog:=CF.of2 noNG mixed (l:=[KKnown44]) (.cons kKnown44 .nil) 3000 (by kernel_rfl)
def KKnown46:CF:=⟨69,[.agg wKnown6,vI 2],vF⟩
theorem kKnown46:KKnown46.Ok Try.prog:=CF.of2 noNG mixed (l:=[]) .nil 3000 (by kernel_rfl)
def KKnown47:CF:=⟨96,[.agg wKnown6,vI 2],.agg ⟨[vF,vT,vF,vF]⟩⟩
theorem kKnown47:KKnown47.Ok Try.prog:=CF.of2 noNG mixed (l:=[]) .nil 3000 (by kernel_rfl)
def KKnown48:CF:=⟨14,[.agg wKnown7],.tuple ⟨[vI 0,vI 0,vI 0]⟩⟩
theorem kKnown48:KKnown48.Ok Try.prog:=CF.of2 noNG mixed (l:=[]) .nil 3000 (by kernel_rfl)
def KKnown49:CF:=⟨30,[.agg wKnown7,lstV wKnown2 0 2 6],.tuple ⟨[.agg ⟨[vI 830000,vI 2084000]⟩,.agg ⟨[vJ 569999,vI 295000]⟩,vI 0]⟩⟩
theorem kKnown49:KKnown49.Ok Try.prog:=CF.of2 noNG mixed (l:=[KKnown48,KKnown8,KKnown10,KKnown9]) (.cons kKnown48 (.cons kKnown8 (.cons kKnown10 (.cons kKnown9 .nil)))) 3000 (by kernel_rfl)
def KKnown50:CF:=⟨46,[.agg wKnown7,lstV wKnown2 0 2 6],.tuple ⟨[.agg wKnown8,vI 0]⟩⟩
theorem kKnown50:KKnown50.Ok Try.prog:=CF.of2 noNG mixed (l:=[KKnown49,KKnown12,KKnown13,KKnown14]) (.cons kKnown49 (.cons kKnown12 (.cons kKnown13 (.cons kKnown14 .nil)))) 3000 (by kernel_rfl)
def KKnown51:CF:=⟨49,[.agg wKnown8],.slice none 0 0⟩
theorem kKnown51:KKnown51.Ok Try.prog:=CF.of2 noNG mixed (l:=[]) .nil 3000 (by kernel_rfl)
def KKnown52:CF:=⟨50,[.agg wKnown8],.tuple ⟨[vI 0,vF]⟩⟩
theorem kKnown52:KKnown52.Ok Try.prog:=CF.of2 noNG mixed (l:=[KKnown51]) (.cons kKnown51 .nil) 3000 (by kernel_rfl)
def KKnown53:CF:=⟨28,[],.agg wKnown11⟩
theorem kKnown53:KKnown53.Ok Try.prog:=CF.of2 noNG mixed (l:=[]) .nil 3000 (by kernel_rfl)
def KKnown54:CF:=⟨98,[.string ⟨⟨[109,97,115,116]⟩⟩],vT⟩
theorem kKnown54:KKnown54.Ok Try.prog:=CF.of2 noNG mixed (l:=[]) .nil 3000 (by kernel_rfl)
def KKnown55:CF:=⟨98,[.string ⟨⟨[98,108,117,101]⟩⟩],vT⟩
theorem kKnown55:KKnown55.Ok Try.prog:=CF.of2 noNG mixed (l:=[]) .nil 3000 (by kernel_rfl)
def KKnown56:CF:=⟨98,[.string ⟨⟨[98,101,97,109]⟩⟩],vT⟩
theorem kKnown56:KKnown56.Ok Try.prog:=CF.of2 noNG mixed (l:=[]) .nil 3000 (by kernel_rfl)
def KKnown57:CF:=⟨53,[.agg wKnown11],.tuple ⟨[vI 0,vI 0,vI 0]⟩⟩
theorem kKnown57:KKnown57.Ok Try.prog:=CF.of2 noNG mixed (l:=[KKnown56,KKnown54,KKnown55]) (.cons kKnown56 (.cons kKnown54 (.cons kKnown55 .nil))) 3000 (by kernel_rfl)
def KKnown58:CF:=⟨103,[vI 2200,vI 1600],vF⟩
theorem kKnown58:KKnown58.Ok Try.prog:=CF.of2 noNG mixed (l:=[]) .nil 3000 (by kernel_rfl)
def KKnown59:CF:=⟨103,[vI 1600,vI 1000],vF⟩
theorem kKnown59:KKnown59.Ok Try.prog:=CF.of2 noNG mixed (l:=[]) .nil 3000 (by kernel_rfl)
def KKnown60:CF:=⟨103,[vI 1000,vI 0],vF⟩
theorem kKnown60:KKnown60.Ok Try.prog:=CF.of2 noNG mixed (l:=[]) .nil 3000 (by kernel_rfl)
def KKnown61:CF:=⟨61,[.agg ⟨[vI 0,vI 0,vI 2200,vI 0]⟩],vT⟩
theorem kKnown61:KKnown61.Ok Try.prog:=CF.of2 noNG mixed (l:=[]) .nil 3000 (by kernel_rfl)
def KKnown62:CF:=⟨62,[.agg wKnown11,vI 0],.agg ⟨[vI 0,vI 199999]⟩⟩
theorem kKnown62:KKnown62.Ok Try.prog:=CF.of2 noNG mixed (l:=[]) .nil 3000 (by kernel_rfl)
def KKnown63:CF:=⟨114,[.agg wKnown11,vI 0],.func (.func 116) ⟨[]⟩ ⟨[dptV wKnown11 0,dptV ⟨[vI 0]⟩ 0]⟩⟩
theorem kKnown63:KKnown63.Ok Try.prog:=CF.of2 noNG mixed (l:=[]) .nil 3000 (by kernel_rfl)
def KKnown64:CF:=⟨63,[.agg wKnown11,.agg ⟨[vI 0,vI 199999,vI 2200,vI 0]⟩],.tuple ⟨[.agg ⟨[vJ 19999,vI 20000]⟩,.agg ⟨[vJ 19999,vI 20000]⟩,vT]⟩⟩
theorem kKnown64:KKnown64.Ok Try.prog:=CF.of2 noNG mixed (l:=[KKnown63]) (.cons kKnown63 .nil) 3000 (by kernel_rfl)
def KKnown65:CF:=⟨62,[.agg wKnown11,vI 1],.agg ⟨[vI 200000,vI 999999]⟩⟩
theorem kKnown65:KKnown65.Ok Try.prog:=CF.of2 noNG mixed (l:=[]) .nil 3000 (by kernel_rfl)
def KKnown66:CF:=⟨63,[.agg wKnown11,.agg ⟨[vI 200000,vI 999999,vI 2200,vI 0]⟩],.tuple ⟨[.agg ⟨[vJ 19999,vI 20000]⟩,.agg ⟨[vJ 19999,vI 20000]⟩,vT]⟩⟩
theorem kKnown66:KKnown66.Ok Try.prog:=CF.of2 noNG mixed (l:=[KKnown63]) (.cons kKnown63 .nil) 3000 (by kernel_rfl)
def KKnown67:CF:=⟨36,[.agg wKnown11,vI 2200,vI 0],.tuple ⟨[lstV wKnown12 0 2 6,vI 0]⟩⟩
theorem kKnown67:KKnown67.Ok Try.prog:=CF.of2 noNG mixed (l:=[KKnown64,KKnown65,KKnown66,KKnown57,KKnown61,KKnown62]) (.cons kKnown64 (.cons kKnown65 (.cons kKnown66 (.cons kKnown57 (.cons kKnown61 (.cons kKnown62 .nil)))))) 3000 (by kernel_rfl)
def KKnown68:CF:=⟨84,[.agg ⟨[vI 0,vI 200000,vJ 19999,vI 20000,vJ 19999,vI 20000]⟩,vI 0],vI 0⟩
theorem kKnown68:KKnown68.Ok Try.prog:=CF.of2 noNG mixed (l:=[]) .nil 3000 (by kernel_rfl)
def KKnown69:CF:=⟨84,[.agg ⟨[vI 200000,vI 1000000,vJ 19999,vI 20000,vJ 19999,vI 20000]⟩,vI 200000],vI 0⟩
theorem kKnown69:KKnown69.Ok Try.prog:=CF.of2 noNG mixed (l:=[]) .nil 3000 (by kernel_rfl)
def KKnown70:CF:=⟨57,[lstV wKnown12 0 2 6],.tuple ⟨[vI 0,vI 0]⟩⟩
theorem kKnown70:KKnown70.Ok Try.prog:=CF.of2 noNG mixed (l:=[KKnown68,KKnown69]) (.cons kKnown68 (.cons kKnown69 .nil)) 3000 (by kernel_rfl)
def KKnown71:CF:=⟨58,[.agg ⟨[vI 0,vI 200000,vI 2000,vI 3000]⟩,lstV wKnown12 0 2 6],.tuple ⟨[.agg ⟨[vJ 19999,vI 20000]⟩,.agg ⟨[vJ 19999,vI 20000]⟩]⟩⟩
theorem kKnown71:KKnown71.Ok Try.prog:=CF.of2 noNG mixed (l:=[]) .nil 3000 (by kernel_rfl)
def KKnown72:CF:=⟨58,[.agg ⟨[vI 200000,vI 1000000,vJ 499,vJ 399]⟩,lstV wKnown12 0 2 6],.tuple ⟨[.agg ⟨[vJ 19999,vI 20000]⟩,.agg ⟨[vJ 19999,vI 20000]⟩]⟩⟩
theorem kKnown72:KKnown72.Ok Try.prog:=CF.of2 noNG mixed (l:=[]) .nil 3000 (by kernel_rfl)
def KKnown73:CF:=⟨30,[.agg wKnown1,lstV wKnown12 0 2 6],.tuple wKnown13⟩
theorem kKnown73:KKnown73.Ok Try.prog:=CF.of2 noNG mixed (l:=[KKnown72,KKnown5,KKnown70,KKnown71]) (.cons kKnown72 (.cons kKnown5 (.cons kKnown70 (.cons kKnown71 .nil)))) 3000 (by kernel_rfl)
def KKnown74:CF:=⟨66,[.agg ⟨[vI 10000,vI 20000,vJ 4999,vI 5000,vI 1000]⟩,.agg ⟨[vJ 69999999,vI 70000000]⟩,.agg ⟨[vJ 69999999,vI 70000000]⟩],.agg ⟨[vJ 59999,vI 90000,vJ 74999,vI 75000]⟩⟩
theorem kKnown74:KKnown74.Ok Try.prog:=CF.of2 noNG mixed (l:=[]) .nil 3000 (by kernel_rfl)
def KKnown75:CF:=⟨66,[.agg ⟨[vI 6000,vI 16000,vJ 4999,vI 5000,vI 1500]⟩,.agg ⟨[vJ 69999999,vI 70000000]⟩,.agg ⟨[vJ 69999999,vI 70000000]⟩],.agg ⟨[vJ 98999,vI 121000,vJ 109999,vI 110000]⟩⟩
theorem kKnown75:KKnown75.Ok Try.prog:=CF.of2 noNG mixed (l:=[]) .nil 3000 (by kernel_rfl)
def KKnown76:CF:=⟨66,[.agg ⟨[vI 9000,vI 19000,vJ 4999,vI 5000,vI 1000]⟩,.agg ⟨[vJ 69999999,vI 70000000]⟩,.agg ⟨[vJ 69999999,vI 70000000]⟩],.agg ⟨[vJ 60999,vI 89000,vJ 74999,vI 75000]⟩⟩
theorem kKnown76:KKnown76.Ok Try.prog:=CF.of2 noNG mixed (l:=[]) .nil 3000 (by kernel_rfl)
def KKnown77:CF:=⟨46,[.agg wKnown1,lstV wKnown12 0 2 6],.tuple ⟨[.agg wKnown15,vI 0]⟩⟩
theorem kKnown77:KKnown77.Ok Try.prog:=CF.of2 noNG mixed (l:=[KKnown73,KKnown74,KKnown75,KKnown76]) (.cons kKnown73 (.cons kKnown74 (.cons kKnown75 (.cons kKnown76 .nil)))) 3000 (by kernel_rfl)
def KKnown78:CF:=⟨49,[.agg wKnown15],.slice none 0 0⟩
theorem kKnown78:KKnown78.Ok Try.prog:=CF.of2 noNG mixed (l:=[]) .nil 3000 (by kernel_rfl)
def KKnown79:CF:=⟨50,[.agg wKnown15],.tuple ⟨[vI 0,vF]⟩⟩
theorem kKnown79:KKnown79.Ok Try.prog:=CF.of2 noNG mixed (l:=[KKnown78]) (.cons kKnown78 .nil) 3000 (by kernel_rfl)
def KKnown80:CF:=⟨61,[.agg ⟨[vI 0,vI 0,vI 2200,vI 1000]⟩],vT⟩
theorem kKnown80:KKnown80.Ok Try.prog:=CF.of2 noNG mixed (l:=[]) .nil 3000 (by kernel_rfl)
def KKnown81:CF:=⟨114,[.agg wKnown11,vI 1000],.func (.func 116) ⟨[]⟩ ⟨[dptV wKnown11 0,dptV ⟨[vI 1000]⟩ 0]⟩⟩
theorem kKnown81:KKnown81.Ok Try.prog:=CF.of2 noNG mixed (l:=[]) .nil 3000 (by kernel_rfl)
def KKnown82:CF:=⟨90,[vI 0],vT⟩
theorem kKnown82:KKnown82.Ok Try.prog:=CF.of2 noNG mixed (l:=[]) .nil 3000 (by kernel_rfl)
def KKnown83:CF:=⟨115,[.agg wKnown11,.agg ⟨[vI 0,vI 1000,vI 100000,vI 450,vI 0]⟩,.agg ⟨[vI 0,vI 199999]⟩,vI 2200],vI 130⟩
theorem kKnown83:KKnown83.Ok Try.prog:=CF.of2 noNG mixed (l:=[]) .nil 3000 (by kernel_rfl)
def KKnown84:CF:=⟨63,[.agg wKnown11,.agg ⟨[vI 0,vI 199999,vI 2200,vI 1000]⟩],.tuple ⟨[.agg ⟨[vI 320,vI 580]⟩,.agg ⟨[vJ 129,vI 130]⟩,vT]⟩⟩
theorem kKnown84:KKnown84.Ok Try.prog:=CF.of2 noNG mixed (l:=[KKnown81,KKnown82,KKnown83]) (.cons kKnown81 (.cons kKnown82 (.cons kKnown83 .nil))) 3000 (by kernel_rfl)
def KKnown85:CF:=⟨115,[.agg wKnown11,.agg ⟨[vI 0,vI 1000,vI 100000,vI 450,vI 0]⟩,.agg ⟨[vI 200000,vI 999999]⟩,vI 2200],vI 290⟩
theorem kKnown85:KKnown85.Ok Try.prog:=CF.of2 noNG mixed (l:=[]) .nil 3000 (by kernel_rfl)
def KKnown86:CF:=⟨63,[.agg wKnown11,.agg ⟨[vI 200000,vI 999999,vI 2200,vI 1000]⟩],.tuple ⟨[.agg ⟨[vI 160,vI 740]⟩,.agg ⟨[vJ 289,vI 290]⟩,vT]⟩⟩
theorem kKnown86:KKnown86.Ok Try.prog:=CF.of2 noNG mixed (l:=[KKnown81,KKnown82,KKnown85]) (.cons kKnown81 (.cons kKnown82 (.cons kKnown85 .nil))) 3000 (by kernel_rfl)
def KKnown87:CF:=⟨36,[.agg wKnown11,vI 2200,vI 1000],.tuple ⟨[lstV wKnown16 0 2 6,vI 0]⟩⟩
theorem kKnown87:KKnown87.Ok Try.prog:=CF.of2 noNG mixed (l:=[KKnown65,KKnown80,KKnown84,KKnown86,KKnown57,KKnown62]) (.cons kKnown65 (.cons kKnown80 (.cons kKnown84 (.cons kKnown86 (.cons kKnown57 (.cons kKnown62 .nil)))))) 3000 (by kernel_rfl)
def KKnown88:CF:=⟨84,[.agg ⟨[vI 0,vI 200000,vI 320,vI 580,vJ 129,vI 130]⟩,vI 0],vI 0⟩
theorem kKnown88:KKnown88.Ok Try.prog:=CF.of2 noNG mixed (l:=[]) .nil 3000 (by kernel_rfl)
def KKnown89:CF:=⟨84,[.agg ⟨[vI 200000,vI 1000000,vI 160,vI 740,vJ 289,vI 290]⟩,vI 200000],vI 0⟩
theorem kKnown89:KKnown89.Ok Try.prog:=CF.of2 noNG mixed (l:=[]) .nil 3000 (by kernel_rfl)
def KKnown90:CF:=⟨57,[lstV wKnown16 0 2 6],.tuple ⟨[vI 0,vI 0]⟩⟩
theorem kKnown90:KKnown90.Ok Try.prog:=CF.of2 noNG mixed (l:=[KKnown88,KKnown89]) (.cons kKnown88 (.cons kKnown89 .nil)) 3000 (by kernel_rfl)
def KKnown91:CF:=⟨58,[.agg ⟨[vI 0,vI 200000,vI 2000,vI 3000]⟩,lstV wKnown16 0 2 6],.tuple ⟨[.agg ⟨[vI 320,vI 580]⟩,.agg ⟨[vJ 129,vI 130]⟩]⟩⟩
theorem kKnown91:KKnown91.Ok Try.prog:=CF.of2 noNG mixed (l:=[]) .nil 3000 (by kernel_rfl)
def KKnown92:CF:=⟨58,[.agg ⟨[vI 200000,vI 1000000,vJ 499,vJ 399]⟩,lstV wKnown16 0 2 6],.tuple ⟨[.agg ⟨[vI 160,vI 740]⟩,.agg ⟨[vJ 289,vI 290]⟩]⟩⟩
theorem kKnown92:KKnown92.Ok Try.prog:=CF.of2 noNG mixed (l:=[]) .nil 3000 (by kernel_rfl)
def KKnown93:CF:=⟨30,[.agg wKnown1,lstV wKnown16 0 2 6],.tuple ⟨[.agg ⟨[vI 270000,vI 1676000]⟩,.agg ⟨[vJ 534999,vI 535000]⟩,vI 0]⟩⟩
theorem kKnown93:KKnown93.Ok Try.prog:=CF.of2 noNG mixed (l:=[KKnown90,KKnown91,KKnown92,KKnown5]) (.cons kKnown90 (.cons kKnown91 (.cons kKnown92 (.cons kKnown5 .nil)))) 3000 (by kernel_rfl)
def KKnown94:CF:=⟨66,[.agg ⟨[vI 10000,vI 20000,vJ 4999,vI 5000,vI 1000]⟩,.agg ⟨[vI 270000,vI 1676000]⟩,.agg ⟨[vJ 534999,vI 535000]⟩],.agg ⟨[vI 10270,vI 21676,vJ 5534,vI 5535]⟩⟩
theorem kKnown94:KKnown94.Ok Try.prog:=CF.of2 noNG mixed (l:=[]) .nil 3000 (by kernel_rfl)
def KKnown95:CF:=⟨66,[.agg ⟨[vI 6000,vI 16000,vJ 4999,vI 5000,vI 1500]⟩,.agg ⟨[vI 270000,vI 1676000]⟩,.agg ⟨[vJ 534999,vI 535000]⟩],.agg ⟨[vI 6405,vI 18514,vJ 5802,vI 5803]⟩⟩
theorem kKnown95:KKnown95.Ok Try.prog:=CF.of2 noNG mixed (l:=[]) .nil 3000 (by kernel_rfl)
def KKnown96:CF:=⟨66,[.agg ⟨[vI 9000,vI 19000,vJ 4999,vI 5000,vI 1000]⟩,.agg ⟨[vI 270000,vI 1676000]⟩,.agg ⟨[vJ 534999,vI 535000]⟩],.agg ⟨[vI 9270,vI 20676,vJ 5534,vI 5535]⟩⟩
theorem kKnown96:KKnown96.Ok Try.prog:=CF.of2 noNG mixed (l:=[]) .nil 3000 (by kernel_rfl)
def KKnown97:CF:=⟨46,[.agg wKnown1,lstV wKnown16 0 2 6],.tuple ⟨[.agg wKnown18,vI 0]⟩⟩
theorem kKnown97:KKnown97.Ok Try.prog:=CF.of2 noNG mixed (l:=[KKnown96,KKnown93,KKnown94,KKnown95]) (.cons kKnown96 (.cons kKnown93 (.cons kKnown94 (.cons kKnown95 .nil)))) 3000 (by kernel_rfl)
def KKnown98:CF:=⟨49,[.agg wKnown18],lstV ⟨[vI 0,vI 1,vI 2]⟩ 0 3 1⟩
theorem kKnown98:KKnown98.Ok Try.prog:=CF.of2 noNG mixed (l:=[]) .nil 3000 (by kernel_rfl)
def KKnown99:CF:=⟨68,[.agg wKnown18,vI 1],.agg ⟨[vI 117,vI 52,vI 117,vI 52]⟩⟩
theorem kKnown99:KKnown99.Ok Try.prog:=CF.of2 noNG mixed (l:=[]) .nil 3000 (by kernel_rfl)
def KKnown100:CF:=⟨48,[.agg wKnown18,vI 1],vI 117⟩
theorem kKnown100:KKnown100.Ok Try.prog:=CF.of2 noNG mixed (l:=[KKnown99]) (.cons kKnown99 .nil) 3000 (by kernel_rfl)
def KKnown101:CF:=⟨68,[.agg wKnown18,vI 0],.agg ⟨[vI 61,vI 85,vI 61,vI 85]⟩⟩
theorem kKnown101:KKnown101.Ok Try.prog:=CF.of2 noNG mixed (l:=[]) .nil 3000 (by kernel_rfl)
def KKnown102:CF:=⟨48,[.agg wKnown18,vI 0],vI 85⟩
theorem kKnown102:KKnown102.Ok Try.prog:=CF.of2 noNG mixed (l:=[KKnown101]) (.cons kKnown101 .nil) 3000 (by kernel_rfl)
def KKnown103:CF:=⟨68,[.agg wKnown18,vI 2],.agg ⟨[vI 72,vI 72,vI 72,vI 72]⟩⟩
theorem kKnown103:KKnown103.Ok Try.prog:=CF.of2 noNG mixed (l:=[]) .nil 3000 (by kernel_rfl)
def KKnown104:CF:=⟨48,[.agg wKnown18,vI 2],vI 72⟩
theorem kKnown104:KKnown104.Ok Try.prog:=CF.of2 noNG mixed (l:=[KKnown103]) (.cons kKnown103 .nil) 3000 (by kernel_rfl)
def KKnown105:CF:=⟨50,[.agg wKnown18],.tuple ⟨[vI 2,vT]⟩⟩
theorem kKnown105:KKnown105.Ok Try.prog:=CF.of2 noNG mixed (l:=[KKnown102,KKnown104,KKnown98,KKnown100]) (.cons kKnown102 (.cons kKnown104 (.cons kKnown98 (.cons kKnown100 .nil)))) 3000 (by kernel_rfl)
def KKnown106:CF:=⟨61,[.agg ⟨[vI 0,vI 0,vI 2200,vI 1600]⟩],vT⟩
theorem kKnown106:KKnown106.Ok Try.prog:=CF.of2 noNG mixed (l:=[]) .nil 3000 (by kernel_rfl)
def KKnown107:CF:=⟨114,[.agg wKnown11,vI 1600],.func (.func 116) ⟨[]⟩ ⟨[dptV wKnown11 0,dptV ⟨[vI 1600]⟩ 0]⟩⟩
theorem kKnown107:KKnown107.Ok Try.prog:=CF.of2 noNG mixed (l:=[]) .nil 3000 (by kernel_rfl)
def KKnown108:CF:=⟨90,[vI 1],vT⟩
theorem kKnown108:KKnown108.Ok Try.prog:=CF.of2 noNG mixed (l:=[]) .nil 3000 (by kernel_rfl)
def KKnown109:CF:=⟨115,[.agg wKnown11,.agg ⟨[vI 1,vI 1000,vI 100000,vI 600,vJ 99]⟩,.agg ⟨[vI 0,vI 199999]⟩,vI 2200],vI 180⟩
theorem kKnown109:KKnown109.Ok Try.prog:=CF.of2 noNG mixed (l:=[]) .nil 3000 (by kernel_rfl)
def KKnown110:CF:=⟨63,[.agg wKnown11,.agg ⟨[vI 0,vI 199999,vI 2200,vI 1600]⟩],.tuple ⟨[.agg ⟨[vI 420,vI 580]⟩,.agg ⟨[vJ 129,vI 80]⟩,vT]⟩⟩
theorem kKnown110:KKnown110.Ok Try.prog:=CF.of2 noNG mixed (l:=[KKnown107,KKnown108,KKnown109,KKnown82,KKnown83]) (.cons kKnown107 (.cons kKnown108 (.cons kKnown109 (.cons kKnown82 (.cons kKnown83 .nil))))) 3000 (by kernel_rfl)
def KKnown111:CF:=⟨115,[.agg wKnown11,.agg ⟨[vI 1,vI 1000,vI 100000,vI 600,vJ 99]⟩,.agg ⟨[vI 200000,vI 999999]⟩,vI 2200],vI 340⟩
theorem kKnown111:KKnown111.Ok Try.prog:=CF.of2 noNG mixed (l:=[]) .nil 3000 (by kernel_rfl)
def KKnown112:CF:=⟨63,[.agg wKnown11,.agg ⟨[vI 200000,vI 999999,vI 2200,vI 1600]⟩],.tuple ⟨[.agg ⟨[vI 260,vI 740]⟩,.agg ⟨[vJ 289,vI 240]⟩,vT]⟩⟩
theorem kKnown112:KKnown112.Ok Try.prog:=CF.of2 noNG mixed (l:=[KKnown107,KKnown108,KKnown111,KKnown82,KKnown85]) (.cons kKnown107 (.cons kKnown108 (.cons kKnown111 (.cons kKnown82 (.cons kKnown85 .nil))))) 3000 (by kernel_rfl)
def KKnown113:CF:=⟨36,[.agg wKnown11,vI 2200,vI 1600],.tuple ⟨[lstV wKnown19 0 2 6,vI 0]⟩⟩
theorem kKnown113:KKnown113.Ok Try.prog:=CF.of2 noNG mixed (l:=[KKnown65,KKnown106,KKnown110,KKnown112,KKnown57,KKnown62]) (.cons kKnown65 (.cons kKnown106 (.cons kKnown110 (.cons kKnown112 (.cons kKnown57 (.cons kKnown62 .nil)))))) 3000 (by kernel_rfl)
def KKnown114:CF:=⟨84,[.agg ⟨[vI 0,vI 200000,vI 420,vI 580,vJ 129,vI 80]⟩,vI 0],vI 0⟩
theorem kKnown114:KKnown114.Ok Try.prog:=CF.of2 noNG mixed (l:=[]) .nil 3000 (by kernel_rfl)
def KKnown115:CF:=⟨84,[.agg ⟨[vI 200000,vI 1000000,vI 260,vI 740,vJ 289,vI 240]⟩,vI 200000],vI 0⟩
theorem kKnown115:KKnown115.Ok Try.prog:=CF.of2 noNG mixed (l:=[]) .nil 3000 (by kernel_rfl)
def KKnown116:CF:=⟨57,[lstV wKnown19 0 2 6],.tuple ⟨[vI 0,vI 0]⟩⟩
theorem kKnown116:KKnown116.Ok Try.prog:=CF.of2 noNG mixed (l:=[KKnown114,KKnown115]) (.cons kKnown114 (.cons kKnown115 .nil)) 3000 (by kernel_rfl)
def KKnown117:CF:=⟨58,[.agg ⟨[vI 0,vI 200000,vI 2000,vI 3000]⟩,lstV wKnown19 0 2 6],.tuple ⟨[.agg ⟨[vI 420,vI 580]⟩,.agg ⟨[vJ 129,vI 80]⟩]⟩⟩
theorem kKnown117:KKnown117.Ok Try.prog:=CF.of2 noNG mixed (l:=[]) .nil 3000 (by kernel_rfl)
def KKnown118:CF:=⟨58,[.agg ⟨[vI 200000,vI 1000000,vJ 499,vJ 399]⟩,lstV wKnown19 0 2 6],.tuple ⟨[.agg ⟨[vI 260,vI 740]⟩,.agg ⟨[vJ 289,vI 240]⟩]⟩⟩
theorem kKnown118:KKnown118.Ok Try.prog:=CF.of2 noNG mixed (l:=[]) .nil 3000 (by kernel_rfl)
def KKnown119:CF:=⟨30,[.agg wKnown1,lstV wKnown19 0 2 6],.tuple ⟨[.agg ⟨[vI 470000,vI 1636000]⟩,.agg ⟨[vJ 509999,vI 385000]⟩,vI 0]⟩⟩
theorem kKnown119:KKnown119.Ok Try.prog:=CF.of2 noNG mixed (l:=[KKnown117,KKnown116,KKnown5,KKnown118]) (.cons kKnown117 (.cons kKnown116 (.cons kKnown5 (.cons kKnown118 .nil)))) 3000 (by kernel_rfl)
def KKnown120:CF:=⟨66,[.agg ⟨[vI 10000,vI 20000,vJ 4999,vI 5000,vI 1000]⟩,.agg ⟨[vI 470000,vI 1636000]⟩,.agg ⟨[vJ 509999,vI 385000]⟩],.agg ⟨[vI 10470,vI 21636,vJ 5509,vI 5385]⟩⟩
theorem kKnown120:KKnown120.Ok Try.prog:=CF.of2 noNG mixed (l:=[]) .nil 3000 (by kernel_rfl)
def KKnown121:CF:=⟨66,[.agg ⟨[vI 6000,vI 16000,vJ 4999,vI 5000,vI 1500]⟩,.agg ⟨[vI 470000,vI 1636000]⟩,.agg ⟨[vJ 509999,vI 385000]⟩],.agg ⟨[vI 6705,vI 18454,vJ 5764,vI 5578]⟩⟩
theorem kKnown121:KKnown121.Ok Try.prog:=CF.of2 noNG mixed (l:=[]) .nil 3000 (by kernel_rfl)
def KKnown122:CF:=⟨66,[.agg ⟨[vI 9000,vI 19000,vJ 4999,vI 5000,vI 1000]⟩,.agg ⟨[vI 470000,vI 1636000]⟩,.agg ⟨[vJ 509999,vI 385000]⟩],.agg ⟨[vI 9470,vI 20636,vJ 5509,vI 5385]⟩⟩
theorem kKnown122:KKnown122.Ok Try.prog:=CF.of2 noNG mixed (l:=[]) .nil 3000 (by kernel_rfl)
def KKnown123:CF:=⟨46,[.agg wKnown1,lstV wKnown19 0 2 6],.tuple ⟨[.agg wKnown21,vI 0]⟩⟩
theorem kKnown123:KKnown123.Ok Try.prog:=CF.of2 noNG mixed (l:=[KKnown120,KKnown121,KKnown122,KKnown119]) (.cons kKnown120 (.cons kKnown121 (.cons kKnown122 (.cons kKnown119 .nil)))) 3000 (by kernel_rfl)
def KKnown124:CF:=⟨69,[.agg wKnown21,vI 2],vT⟩
theorem kKnown124:KKnown124.Ok Try.prog:=CF.of2 noNG mixed (l:=[]) .nil 3000 (by kernel_rfl)
def KKnown125:CF:=⟨49,[.agg wKnown21],lstV ⟨[vI 0,vI 1,vI 2]⟩ 0 3 1⟩
theorem kKnown125:KKnown125.Ok Try.prog:=CF.of2 noNG mixed (l:=[]) .nil 3000 (by kernel_rfl)
def KKnown126:CF:=⟨68,[.agg wKnown21,vI 1],.agg ⟨[vI 117,vI 52,vI 117,vI 52]⟩⟩
theorem kKnown126:KKnown126.Ok Try.prog:=CF.of2 noNG mixed (l:=[]) .nil 3000 (by kernel_rfl)
def KKnown127:CF:=⟨48,[.agg wKnown21,vI 1],vI 117⟩
theorem kKnown127:KKnown127.Ok Try.prog:=CF.of2 noNG mixed (l:=[KKnown126]) (.cons kKnown126 .nil) 3000 (by kernel_rfl)
def KKnown128:CF:=⟨68,[.agg wKnown21,vI 0],.agg ⟨[vI 61,vI 85,vI 61,vI 85]⟩⟩
theorem kKnown128:KKnown128.Ok Try.prog:=CF.of2 noNG mixed (l:=[]) .nil 3000 (by kernel_rfl)
def KKnown129:CF:=⟨48,[.agg wKnown21,vI 0],vI 85⟩
theorem kKnown129:KKnown129.Ok Try.prog:=CF.of2 noNG mixed (l:=[KKnown128]) (.cons kKnown128 .nil) 3000 (by kernel_rfl)
def KKnown130:CF:=⟨68,[.agg wKnown21,vI 2],.agg ⟨[vI 72,vI 72,vI 72,vI 72]⟩⟩
theorem kKnown130:KKnown130.Ok Try.prog:=CF.of2 noNG mixed (l:=[]) .nil 3000 (by kernel_rfl)
def KKnown131:CF:=⟨48,[.agg wKnown21,vI 2],vI 72⟩
theorem kKnown131:KKnown131.Ok Try.prog:=CF.of2 noNG mixed (l:=[KKnown130]) (.cons kKnown130 .nil) 3000 (by kernel_rfl)
def KKnown132:CF:=⟨50,[.agg wKnown21],.tuple ⟨[vI 2,vT]⟩⟩
theorem kKnown132:KKnown132.Ok Try.prog:=CF.of2 noNG mixed (l:=[KKnown129,KKnown131,KKnown125,KKnown127]) (.cons kKnown129 (.cons kKnown131 (.cons kKnown125 (.cons kKnown127 .nil)))) 3000 (by kernel_rfl)
def KKnown133:CF:=⟨61,[.agg ⟨[vI 0,vI 0,vI 2200,vI 2200]⟩],vT⟩
theorem kKnown133:KKnown133.Ok Try.prog:=CF.of2 noNG mixed (l:=[]) .nil 3000 (by kernel_rfl)
def KKnown134:CF:=⟨114,[.agg wKnown11,vI 2200],.func (.func 116) ⟨[]⟩ ⟨[dptV wKnown11 0,dptV ⟨[vI 2200]⟩ 0]⟩⟩
theorem kKnown134:KKnown134.Ok Try.prog:=CF.of2 noNG mixed (l:=[]) .nil 3000 (by kernel_rfl)
def KKnown135:CF:=⟨115,[.agg wKnown11,.agg ⟨[vI 1,vI 1600,vI 600000,vI 850,vI 100]⟩,.agg ⟨[vI 0,vI 199999]⟩,vI 2200],vI 250⟩
theorem kKnown135:KKnown135.Ok Try.prog:=CF.of2 noNG mixed (l:=[]) .nil 3000 (by kernel_rfl)
def KKnown136:CF:=⟨90,[vI 2],vT⟩
theorem kKnown136:KKnown136.Ok Try.prog:=CF.of2 noNG mixed (l:=[]) .nil 3000 (by kernel_rfl)
def KKnown137:CF:=⟨115,[.agg wKnown11,.agg ⟨[vI 2,vI 2000,vI 300000,vI 760,vI 0]⟩,.agg ⟨[vI 0,vI 199999]⟩,vI 2200],vI 170⟩
theorem kKnown137:KKnown137.Ok Try.prog:=CF.of2 noNG mixed (l:=[]) .nil 3000 (by kernel_rfl)
def KKnown138:CF:=⟨93,[vI 0],.func (.func 109) ⟨[]⟩ ⟨[dptV ⟨[vI 0]⟩ 0]⟩⟩
theorem kKnown138:KKnown138.Ok Try.prog:=CF.of2 noNG mixed (l:=[]) .nil 3000 (by kernel_rfl)
def KKnown139:CF:=⟨108,[.agg wKnown11,.agg ⟨[vI 0,vI 199999,vI 2200,vI 2200]⟩,.func (.func 109) ⟨[]⟩ ⟨[dptV ⟨[vI 0]⟩ 0]⟩],vT⟩
theorem kKnown139:KKnown139.Ok Try.prog:=CF.of2 noNG mixed (l:=[KKnown137,KKnown109,KKnown134,KKnown135]) (.cons kKnown137 (.cons kKnown109 (.cons kKnown134 (.cons kKnown135 .nil)))) 3000 (by kernel_rfl)
def KKnown140:CF:=⟨93,[vI 1],.func (.func 109) ⟨[]⟩ ⟨[dptV ⟨[vI 1]⟩ 0]⟩⟩
theorem kKnown140:KKnown140.Ok Try.prog:=CF.of2 noNG mixed (l:=[]) .nil 3000 (by kernel_rfl)
def KKnown141:CF:=⟨108,[.agg wKnown11,.agg ⟨[vI 0,vI 199999,vI 2200,vI 2200]⟩,.func (.func 109) ⟨[]⟩ ⟨[dptV ⟨[vI 1]⟩ 0]⟩],vF⟩
theorem kKnown141:KKnown141.Ok Try.prog:=CF.of2 noNG mixed (l:=[KKnown137,KKnown83,KKnown134]) (.cons kKnown137 (.cons kKnown83 (.cons kKnown134 .nil))) 3000 (by kernel_rfl)
def KKnown142:CF:=⟨93,[vI 2],.func (.func 109) ⟨[]⟩ ⟨[dptV ⟨[vI 2]⟩ 0]⟩⟩
theorem kKnown142:KKnown142.Ok Try.prog:=CF.of2 noNG mixed (l:=[]) .nil 3000 (by kernel_rfl)
def KKnown143:CF:=⟨108,[.agg wKnown11,.agg ⟨[vI 0,vI 199999,vI 2200,vI 2200]⟩,.func (.func 109) ⟨[]⟩ ⟨[dptV ⟨[vI 2]⟩ 0]⟩],vF⟩
theorem kKnown143:KKnown143.Ok Try.prog:=CF.of2 noNG mixed (l:=[KKnown83,KKnown109,KKnown134,KKnown135]) (.cons kKnown83 (.cons kKnown109 (.cons kKnown134 (.cons kKnown135 .nil)))) 3000 (by kernel_rfl)
def KKnown144:CF:=⟨92,[.agg wKnown11,.agg ⟨[vI 0,vI 199999,vI 2200,vI 2200]⟩],lstV ⟨[vI 0]⟩ 0 1 1⟩
theorem kKnown144:KKnown144.Ok Try.prog:=CF.of2 noNG mixed (l:=[KKnown138,KKnown139,KKnown140,KKnown141,KKnown142,KKnown143]) (.cons kKnown138 (.cons kKnown139 (.cons kKnown140 (.cons kKnown141 (.cons kKnown142 (.cons kKnown143 .nil)))))) 3000 (by kernel_rfl)
def KKnown145:CF:=⟨109,[vI 0,dptV ⟨[vI 0]⟩ 0],vF⟩
theorem kKnown145:KKnown145.Ok Try.prog:=CF.of2 noNG mixed (l:=[]) .nil 3000 (by kernel_rfl)
def KKnown146:CF:=⟨109,[vI 1,dptV ⟨[vI 0]⟩ 0],vT⟩
theorem kKnown146:KKnown146.Ok Try.prog:=CF.of2 noNG mixed (l:=[]) .nil 3000 (by kernel_rfl)
def KKnown147:CF:=⟨109,[vI 2,dptV ⟨[vI 0]⟩ 0],vT⟩
theorem kKnown147:KKnown147.Ok Try.prog:=CF.of2 noNG mixed (l:=[]) .nil 3000 (by kernel_rfl)
def KKnown148:CF:=⟨63,[.agg wKnown11,.agg ⟨[vI 0,vI 199999,vI 2200,vI 2200]⟩],.tuple ⟨[.agg ⟨[vI 600,vI 780]⟩,.agg ⟨[vJ 149,vI 80]⟩,vT]⟩⟩
theorem kKnown148:KKnown148.Ok Try.prog:=CF.of2 noNG mixed (l:=[KKnown134,KKnown135,KKnown137,KKnown108,KKnown109,KKnown146,KKnown136,KKnown138,KKnown144,KKnown145,KKnown82,KKnown83,KKnown147]) (.cons kKnown134 (.cons kKnown135 (.cons kKnown137 (.cons kKnown108 (.cons kKnown109 (.cons kKnown146 (.cons kKnown136 (.cons kKnown138 (.cons kKnown144 (.cons kKnown145 (.cons kKnown82 (.cons kKnown83 (.cons kKnown147 .nil))))))))))))) 3000 (by kernel_rfl)
end
end Go.Proofs.Ytlccpongnnpbeaa
