/- Part 7 of the texts below the claim. Conditions: none. -/
import Derived.Test.YtaglpbmnadlpgaaMg6
namespace Go.Proofs.Ytaglpbmnadlpgaa.Old
open Go.Gi Go.RowKit
noncomputable section
set_option maxRecDepth 100000
set_option linter.unusedSimpArgs false
theorem tree64 (J : Task → List Value) (off : Nat) (c : Array Value) (n : Nat) (i k age shear : Int) (b d : Option Addr) (n2 z2 n3 z3 : Nat) (s : ByteArray) (rest : List Value) (M : Nat) (y : List Value) :
    evS Try.prog (((sh64.ans J).below mes64 M).or (fun _=>none)) 60 (.code none (.loop (theLoop Try.prog 64 0)) ⟨sets (junkF 69 y) [(1,.int .i64 i),(2,pp 3),(5,pp 4),(6,.int .i64 k)],[],⟨[.cells c true,.dead,.dead,.cells ⟨[.slice (some ⟨0,off,none⟩) n 7,.slice b n2 z2,.slice d n3 z3,.int .i64 age,.int .i64 shear]⟩ false,.cells ⟨.string s :: rest⟩ false],3,[]⟩⟩) (sumK 5 69 pick64) =
    cond (decide (k < i))
 (cond (and (decide ((0 : Int) ≤ k)) (decide (k < (Int.ofNat n))))
 (cond (and true (isStr c ((off+((Int.toNat k)*7))+0)))
 (cond ((ByteArray.toList (getStr c ((off+((Int.toNat k)*7))+0))) == (ByteArray.toList s))
 (some (Out.ex Ex.ret (St.mk [(.int .i64 (5 : Int))] [] (Hp.mk [(Ob.cells c true),Ob.dead,Ob.dead,(Ob.cells ⟨[(.slice (some (Addr.mk 0 off none)) n 7),(.slice b n2 z2),(.slice d n3 z3),(.int .i64 age),(.int .i64 shear)]⟩ false),(Ob.cells ⟨([(.string s)] ++ rest)⟩ false)] 69 []))))
 (cond (Nat.blt (Nat.sub (Int.toNat i) (Int.toNat (IntKind.wrap .i64 (k+(1 : Int))))) M)
 (cond (eqCode (theLoop Try.prog 64 0) (theLoop Try.prog 64 0))
 (cond (okA3 b d n2 z2 n3 z3 rest)
 (cond (ok64 off c n i (IntKind.wrap .i64 (k+(1 : Int))))
 (cond (twB c off s ((Int.toNat i) - (Int.toNat (IntKind.wrap .i64 (k+(1 : Int))))) (Int.toNat (IntKind.wrap .i64 (k+(1 : Int)))))
 (some (Out.ex Ex.ret (St.mk [(.int .i64 (5 : Int))] [] (Hp.mk [(Ob.cells c true),Ob.dead,Ob.dead,(Ob.cells ⟨[(.slice (some (Addr.mk 0 off none)) n 7),(.slice b n2 z2),(.slice d n3 z3),(.int .i64 age),(.int .i64 shear)]⟩ false),(Ob.cells ⟨([(.string s)] ++ rest)⟩ false)] 69 []))))
 (some (Out.ex (Ex.exit 0) (St.mk [(.pointer (some (Addr.mk 3 0 none))),(.pointer (some (Addr.mk 4 0 none)))] [] (Hp.mk [(Ob.cells c true),Ob.dead,Ob.dead,(Ob.cells ⟨[(.slice (some (Addr.mk 0 off none)) n 7),(.slice b n2 z2),(.slice d n3 z3),(.int .i64 age),(.int .i64 shear)]⟩ false),(Ob.cells ⟨([(.string s)] ++ rest)⟩ false)] 69 [])))))
 none)
 none)
 none)
 none))
 none)
 none)
 (some (Out.ex (Ex.exit 0) (St.mk [(.pointer (some (Addr.mk 3 0 none))),(.pointer (some (Addr.mk 4 0 none)))] [] (Hp.mk [(Ob.cells c true),Ob.dead,Ob.dead,(Ob.cells ⟨[(.slice (some (Addr.mk 0 off none)) n 7),(.slice b n2 z2),(.slice d n3 z3),(.int .i64 age),(.int .i64 shear)]⟩ false),(Ob.cells ⟨([(.string s)] ++ rest)⟩ false)] 69 [])))):=by kernel_rfl
theorem keptSelf {n : Nat} : ∀ {l : List Ob},l.all (obSc n) = true → ObsKept n l l
  | [],_=>.nil
  | o :: l,h=>by
    simp only [List.all_cons,Bool.and_eq_true] at h
    exact .cons (by cases o <;> simp [obKept,h.1]) (keptSelf h.2)
theorem slice_sc {n m : Nat} {b : Option Addr} {l z : Nat} (h : sc1 n (.slice b l z) = true) (hm : n ≤ m) : sc1 m (.slice b l z) = true:=by
  cases b with
  | none=>exact h
  | some x =>
    simp only [sc1,sc0,decide_eq_true_eq] at h ⊢
    omega
theorem str_sc (n : Nat) (s : ByteArray) : sc1 n (.string s) = true:=rfl
theorem int_sc (n : Nat) (q : IntKind) (k : Int) : sc1 n (.int q k) = true:=rfl
theorem at0_sc {n off l z : Nat} (h : 0 < n) : sc1 n (.slice (some ⟨0,off,none⟩) l z) = true:=by simp [sc1,sc0,h]
theorem isStr7 {c : Array Value} {x : Nat} (h : rdOk c L7 x = true) : isStr c x = true:=by
  simp only [rdOk,rdLeaf,Bool.and_eq_true] at h
  exact h.1
theorem known64 : ∃ J,Known Try.prog (sh64.ans J):=by
  refine Known.junk (Known.nothing _) mes64 sh64 ?_
  intro J t f hs hkn
  unfold sh64 at hs
  split at hs
  case h_2=>cases hs
  rename_i code t c off n b n2 z2 d n3 z3 age shear s rest G
  split at hs
  case h_2=>cases hs
  rename_i i k er e1 e2 e5 e6
  simp only [Option.some.injEq] at hs
  subst hs
  refine ex_guard fun h1=>ex_guard fun h2=>ex_guard fun h4=>ex_guard fun h3=>?_
  obtain rfl:=eqCode_eq h1
  have hl : t.length = 69:=Nat.eq_of_beq_eq_true h2
  obtain ⟨hb1,hd1,hrest⟩:=dec_iff.1 h4
  have hb5:=slice_sc hb1 (show 3 ≤ 5 by decide)
  have hd5:=slice_sc hd1 (show 3 ≤ 5 by decide)
  obtain ⟨hg,hi0,hik,hk0,hn⟩:=dec_iff.1 h3
  obtain ⟨i,rfl⟩:=Int.eq_ofNat_of_zero_le hi0
  obtain ⟨k,rfl⟩:=Int.eq_ofNat_of_zero_le hk0
  have hcs : (c.toList.all (sc1 5)) = true:=by have:=obSc_g0 (n:=5) (r:=true) hg.1; simpa [obSc] using this
  have hrs2 : rest.all (sc1 5) = true:=by rw [List.all_eq_true] at hrest ⊢; exact fun x hx=>sc1_g0 (hrest x hx)
  have hsc2 : (([.cells c true,.dead,.dead,.cells ⟨[.slice (some ⟨0,off,none⟩) n 7,.slice b n2 z2,.slice d n3 z3,.int .i64 age,.int .i64 shear]⟩ false,.cells ⟨.string s :: rest⟩ false] : List Ob).all (obSc ([.cells c true,.dead,.dead,.cells ⟨[.slice (some ⟨0,off,none⟩) n 7,.slice b n2 z2,.slice d n3 z3,.int .i64 age,.int .i64 shear]⟩ false,.cells ⟨.string s :: rest⟩ false] : List Ob).length)) = true:=by simp [obSc,hcs,hrs2,hb5,hd5,str_sc,int_sc,at0_sc]
  have hk2:=keptSelf hsc2
  have use:=fun e' vs hev he hvs=>hkn.loopLeaf (G:=G) noNG mixed (n:=60) (N0:=69) (N:=69) (live:=[(1,.int .i64 (Int.ofNat i)),(2,pp 3),(5,pp 4),(6,.int .i64 (Int.ofNat k))])
    (H0:=[.cells c true,.dead,.dead,.cells ⟨[.slice (some ⟨0,off,none⟩) n 7,.slice b n2 z2,.slice d n3 z3,.int .i64 age,.int .i64 shear]⟩ false,.cells ⟨.string s :: rest⟩ false]) (pick:=pick64) (e:=e') (vs:=vs)
    (base:=3) (wr:=[]) (wr1:=[]) (c:=theLoop Try.prog 64 0) (t:=t) hev hl (by
      intro kv hm
      simp only [List.mem_cons,List.not_mem_nil,or_false] at hm
      rcases hm with rfl | rfl | rfl | rfl
      · exact ⟨e1,rfl,rfl⟩
      · exact ⟨e2,rfl,rfl⟩
      · exact ⟨e5,rfl,rfl⟩
      · exact ⟨e6,rfl,rfl⟩) (by simp) hsc2 hk2 he hvs
  simp only [List.length_cons,List.length_nil,Nat.zero_add,Nat.reduceAdd] at use
  rw [tree64] at use
  simp only [Int.ofNat_eq_natCast,Int.toNat_natCast] at use ⊢
  by_cases hin : (k : Int) < (i : Int)
  · obtain ⟨m,hm⟩ : ∃ m,i - k = m + 1:=⟨i - k - 1,by omega⟩
    have hw : IntKind.i64.wrap ((k : Int) + 1) = ((k + 1 : Nat) : Int):=by rw [wrap64_id (by omega) (by omega)]; rfl
    rw [hm]
    have hm' : i - (k + 1) = m:=by omega
    have hme : (Nat.sub i (k + 1)).blt (mes64 (.code none (.loop (theLoop Try.prog 64 0)) ⟨t,[],⟨.cells c true :: .dead :: .dead :: .cells ⟨[.slice (some ⟨0,off,none⟩) n 7,.slice b n2 z2,.slice d n3 z3,.int .i64 age,.int .i64 shear]⟩ false :: .cells ⟨.string s :: rest⟩ false :: G,3,[]⟩⟩)) = true:=by
      simp only [mes64,e1,e2,e5,e6,Nat.blt_eq,Int.toNat_natCast]
      show i - (k + 1) < i - k
      omega
    have hok : ok64 off c n i ↑(k + 1) = true:=dec_iff.2 ⟨hg,by omega,hik,by omega,hn⟩
    have x0 : isStr c (off + k * 7) = true:=isStr7 (hg.2 k (by omega))
    have hkn2 : (k : Int) < n:=by omega
    simp only [hw,Int.toNat_natCast,hm',hin,decide_true,cond_true,Bool.true_and,Bool.and_self,Int.natCast_nonneg,eqCode_self,hme,hok,Nat.add_zero,x0,hkn2,h4] at use
    cases hp : twP c off s k with
    | true =>
      have e1 : twB c off s (m + 1) k = true:=by simp [twB,fst_hit hp]
      rw [e1]
      refine use .ret [.int .i64 5] ?_ rfl rfl
      revert hp
      unfold twP sEq
      try simp only [Nat.add_zero]
      intro hp; rw [hp]; first | rfl | (simp; done)
    | false =>
      have e1 : twB c off s (m + 1) k = twB c off s m (k + 1):=by simp [twB,fst_miss hp]
      rw [e1]
      cases hb : twB c off s m (k + 1) with
      | true =>
        rw [hb] at use
        refine use .ret [.int .i64 5] ?_ rfl rfl
        revert hp
        unfold twP sEq
        try simp only [Nat.add_zero]
        intro hp; rw [hp]; first | rfl | (simp; done)
      | false =>
        rw [hb] at use
        refine use (.exit 0) [pp 3,pp 4] ?_ rfl rfl
        revert hp
        unfold twP sEq
        try simp only [Nat.add_zero]
        intro hp; rw [hp]; first | rfl | (simp; done)
  · have h0 : i - k = 0:=by omega
    have e1 : twB c off s (i - k) k = false:=by rw [h0]; rfl
    rw [e1]
    refine use (.exit 0) [pp 3,pp 4] ?_ rfl rfl
    simp only [hin,decide_false,cond_false]
    try rfl
end
end Go.Proofs.Ytaglpbmnadlpgaa.Old

namespace Go.Proofs.Ytaglpbmnadlpgaa.Old
open Go.Gi Go.RowKit
noncomputable section
set_option maxRecDepth 100000
set_option linter.unusedSimpArgs false
set_option linter.unusedVariables false
def SliceL (L : List Leaf) (a : Option Addr) (n sz : Nat) (H : List Ob) : Prop:=n = 0 ∨ ∃ b off,a = some ⟨b,off,none⟩ ∧ sz = L.length ∧ isCells H b = true ∧ GoodL L (cellsAt H b) off n
def blkOf (a : Option Addr) : Nat:=match a with
  | some x=>x.block
  | none=>0
def atB (k : Nat) (a : Option Addr) : Option Addr:=match a with
  | some x=>some ⟨k,x.off,x.spot⟩
  | none=>none
theorem atB_ren {ρ : Nat → Nat} {k : Nat} {a : Option Addr} (h : ρ k = blkOf a) : renA ρ (atB k a) = a:=by
  cases a with
  | none=>rfl
  | some x=>obtain ⟨b,o,s⟩:=x; simp only [atB,renA,h]; rfl
def NilOk (a : Option Addr) (l z : Nat) : Prop:=a = none → l = 0 ∧ z = 0
theorem atB_sc {n k l z : Nat} {a : Option Addr} (h : k < n) (h0 : NilOk a l z) : sc1 n (.slice (atB k a) l z) = true:=by
  cases a with
  | none=>obtain ⟨rfl,rfl⟩:=h0 rfl; rfl
  | some x=>simp [atB,sc1,sc0,h]
theorem atB_okR {n k l z : Nat} {a : Option Addr} (h : k < n) : okR0 n (.slice (atB k a) l z) = true:=by
  cases a with
  | none=>rfl
  | some x=>simp [atB,okR0,okA,Nat.blt_eq,h]
section
variable {P : Program} {f : FuncId} {args args1 : Array Value} {v : Value} {h : Hp}
def ObAt (o : Ob) (b : Nat) (H : List Ob) : Prop:=o = .dead ∨ ∃ c,o = .cells c true ∧ c.toList.all g0 = true ∧ ∃ ro,H[b]? = some (.cells c ro)
theorem frame3 {o0 o1 o2 : Ob} (b0 b1 b2 : Nat) (hf : Fact P (.call f args1 ⟨[o0,o1,o2],3,[]⟩) (.ret v ⟨[o0,o1,o2],3,[]⟩)) (hv : gr v = true) (h0 : ObAt o0 b0 h.bl) (h1 : ObAt o1 b1 h.bl) (h2 : ObAt o2 b2 h.bl)
    (ha : args = args1.map (ren1 fun i=>if i = 0 then b0 else if i = 1 then b1 else b2)) (hok : args1.toList.all (okR1 3) = true) : Fact P (.call f args h) (.ret v h):=by
  have key : ∀ {o : Ob} {b : Nat},ObAt o b h.bl → o = .dead ∨ ∃ c,o = .cells c true ∧ c.toList.all gA = true ∧ ∃ ro,h.bl[b]? = some (.cells c ro):=by
    rintro o b (h | ⟨c,h1,h2,h3⟩)
    · exact .inl h
    · exact .inr ⟨c,h1,all_gA h2,h3⟩
  refine hf.frame (fun i=>if i = 0 then b0 else if i = 1 then b1 else b2) (Nat.le_refl 3) hv (fun i ob hi=>?_) ha hok
  cases i with
  | zero=>simp only [List.getElem?_cons_zero,Option.some.injEq] at hi; subst hi; exact key h0
  | succ i=>cases i with
    | zero=>simp only [List.getElem?_cons_succ,List.getElem?_cons_zero,Option.some.injEq] at hi; subst hi; exact key h1
    | succ i=>cases i with
      | zero=>simp only [List.getElem?_cons_succ,List.getElem?_cons_zero,Option.some.injEq] at hi; subst hi; exact key h2
      | succ i=>simp at hi
end
theorem cond_hd {α : Type} {b : Bool} {x y z : α} (h1 : b = true → x = z) (h2 : b = false → y = z) : cond b x y = z:=by
  cases b with
  | true=>exact h1 rfl
  | false=>exact h2 rfl
def c64 (a b d : Option Addr) (n z n2 z2 n3 z3 : Nat) (i : Int) (H : List Ob) : Bool:=dec (SliceL L7 a n z H ∧ 0 ≤ i ∧ i < n ∧ n ≤ 20 ∧ NilOk b n2 z2 ∧ NilOk d n3 z3)
def p64 : Ans
  | .call 64 ⟨[.agg ⟨[.slice a n z,.slice b n2 z2,.slice d n3 z3,.int .i64 age,.int .i64 shear]⟩,.int .i64 i]⟩ h =>
    some (.br (c64 a b d n z n2 z2 n3 z3 i h.bl) (.leaf (.ret (.int .i64 (srcE (arrOf a h.bl) (offOf a) i.toNat)) h)) .no)
  | _=>none
theorem tree64c (J : Task → List Value) (off : Nat) (c : Array Value) (n : Nat) (i age shear : Int) (b d : Option Addr) (n2 z2 n3 z3 : Nat) :
    evC Try.prog ((sh64.ans J).or (p22 23)).c 60 (.call 64 ⟨[.agg ⟨[.slice (some ⟨0,off,none⟩) n 7,.slice b n2 z2,.slice d n3 z3,.int .i64 age,.int .i64 shear]⟩,.int .i64 i]⟩ ⟨[.cells c true,.dead,.dead],3,[]⟩) some =
    cond (and (decide ((0 : Int) ≤ i)) (decide (i < (Int.ofNat n))))
 (cond (and true (rdOk c [Leaf.str,(Leaf.int .i64),(Leaf.int .i64),(Leaf.int .i64),(Leaf.int .i64),(Leaf.int .i64),(Leaf.int .i64)] (off+((Int.toNat i)*7))))
 (cond (not (nm (getStr c (off+((Int.toNat i)*7)))))
 (some (Out.ret (.int .i64 (6 : Int)) (Hp.mk [(Ob.cells c true),Ob.dead,Ob.dead] 3 [])))
 (cond (eqCode (theLoop Try.prog 64 0) (theLoop Try.prog 64 0))
 (cond (okA3 b d n2 z2 n3 z3 [(.int .i64 (getInt c ((off+((Int.toNat i)*7))+1))),(.int .i64 (getInt c (((off+((Int.toNat i)*7))+1)+1))),(.int .i64 (getInt c ((((off+((Int.toNat i)*7))+1)+1)+1))),(.int .i64 (getInt c (((((off+((Int.toNat i)*7))+1)+1)+1)+1))),(.int .i64 (getInt c ((((((off+((Int.toNat i)*7))+1)+1)+1)+1)+1))),(.int .i64 (getInt c (((((((off+((Int.toNat i)*7))+1)+1)+1)+1)+1)+1)))])
 (cond (ok64 off c n i (0 : Int))
 (cond (twB c off (getStr c (off+((Int.toNat i)*7))) ((Int.toNat i) - 0) 0)
 (some (Out.ret (.int .i64 (5 : Int)) (Hp.mk [(Ob.cells c true),Ob.dead,Ob.dead] 3 [])))
 (cond (decide ((1 : Int) ≤ (getInt c ((off+((Int.toNat i)*7))+1))))
 (cond (not (decide ((getInt c ((off+((Int.toNat i)*7))+1)) ≤ (3 : Int))))
 (some (Out.ret (.int .i64 (2 : Int)) (Hp.mk [(Ob.cells c true),Ob.dead,Ob.dead] 3 [])))
 (cond (decide ((0 : Int) ≤ (getInt c (((off+((Int.toNat i)*7))+1)+1))))
 (cond (not (decide ((getInt c (((off+((Int.toNat i)*7))+1)+1)) ≤ (5000 : Int))))
 (some (Out.ret (.int .i64 (7 : Int)) (Hp.mk [(Ob.cells c true),Ob.dead,Ob.dead] 3 [])))
 (cond (decide ((0 : Int) ≤ (getInt c ((((off+((Int.toNat i)*7))+1)+1)+1))))
 (cond (not (decide ((getInt c ((((off+((Int.toNat i)*7))+1)+1)+1)) ≤ (6000 : Int))))
 (some (Out.ret (.int .i64 (7 : Int)) (Hp.mk [(Ob.cells c true),Ob.dead,Ob.dead] 3 [])))
 (cond (decide ((1 : Int) ≤ (getInt c (((((off+((Int.toNat i)*7))+1)+1)+1)+1))))
 (cond (not (decide ((getInt c (((((off+((Int.toNat i)*7))+1)+1)+1)+1)) ≤ (60000 : Int))))
 (some (Out.ret (.int .i64 (7 : Int)) (Hp.mk [(Ob.cells c true),Ob.dead,Ob.dead] 3 [])))
 (cond (decide ((0 : Int) ≤ (getInt c ((((((off+((Int.toNat i)*7))+1)+1)+1)+1)+1))))
 (cond (not (decide ((getInt c ((((((off+((Int.toNat i)*7))+1)+1)+1)+1)+1)) ≤ (99999999 : Int))))
 (some (Out.ret (.int .i64 (7 : Int)) (Hp.mk [(Ob.cells c true),Ob.dead,Ob.dead] 3 [])))
 (cond (decide ((0 : Int) ≤ (getInt c (((((((off+((Int.toNat i)*7))+1)+1)+1)+1)+1)+1))))
 (cond (not (decide ((getInt c (((((((off+((Int.toNat i)*7))+1)+1)+1)+1)+1)+1)) ≤ (99999999 : Int))))
 (some (Out.ret (.int .i64 (7 : Int)) (Hp.mk [(Ob.cells c true),Ob.dead,Ob.dead] 3 [])))
 (cond (decide ((getInt c (((((((off+((Int.toNat i)*7))+1)+1)+1)+1)+1)+1)) < (getInt c ((((((off+((Int.toNat i)*7))+1)+1)+1)+1)+1))))
 (some (Out.ret (.int .i64 (7 : Int)) (Hp.mk [(Ob.cells c true),Ob.dead,Ob.dead] 3 [])))
 (some (Out.ret (.int .i64 (0 : Int)) (Hp.mk [(Ob.cells c true),Ob.dead,Ob.dead] 3 [])))))
 (some (Out.ret (.int .i64 (7 : Int)) (Hp.mk [(Ob.cells c true),Ob.dead,Ob.dead] 3 [])))))
 (some (Out.ret (.int .i64 (7 : Int)) (Hp.mk [(Ob.cells c true),Ob.dead,Ob.dead] 3 [])))))
 (some (Out.ret (.int .i64 (7 : Int)) (Hp.mk [(Ob.cells c true),Ob.dead,Ob.dead] 3 [])))))
 (some (Out.ret (.int .i64 (7 : Int)) (Hp.mk [(Ob.cells c true),Ob.dead,Ob.dead] 3 [])))))
 (some (Out.ret (.int .i64 (7 : Int)) (Hp.mk [(Ob.cells c true),Ob.dead,Ob.dead] 3 [])))))
 (some (Out.ret (.int .i64 (2 : Int)) (Hp.mk [(Ob.cells c true),Ob.dead,Ob.dead] 3 [])))))
 none)
 none)
 none))
 none)
 none:=by kernel_rfl
theorem known64c : Known Try.prog p64:=by
  obtain ⟨J,hJ⟩:=known64
  have hK:=hJ.or known23c
  intro t xx o h ho
  unfold p64 at h
  split at h
  case h_2=>cases h
  rename_i a n z b n2 z2 d n3 z3 age shear i hp
  simp only [Option.some.injEq] at h
  subst h
  simp only [AT.out] at ho
  obtain ⟨hok,ho⟩:=cond_some ho
  simp only [Option.some.injEq] at ho
  subst ho
  obtain ⟨hs,hi0,hin,hn,hb,hd⟩:=dec_iff.1 hok
  rcases hs with rfl | ⟨b0,off,rfl,rfl,hc,hgood⟩
  · omega
  obtain ⟨i,rfl⟩:=Int.eq_ofNat_of_zero_le hi0
  refine frame3 (args1:=⟨[.agg ⟨[.slice (some ⟨0,off,none⟩) n 7,.slice (atB 1 b) n2 z2,.slice (atB 2 d) n3 z3,.int .i64 age,.int .i64 shear]⟩,.int .i64 i]⟩) b0 (blkOf b) (blkOf d) (hK.fact noNG mixed (n:=60) ?_) rfl
    (.inr ⟨_,rfl,hgood.1,cells_ok hc⟩) (.inl rfl) (.inl rfl) ?_ ?_
  · rw [tree64c]
    have hkn : (i : Int) < n:=hin
    have k1 : okA3 (atB 1 b) (atB 2 d) n2 z2 n3 z3 = fun rest=>dec (rest.all g0 = true):=by
      funext rest; simp [okA3,atB_sc,hb,hd]
    have k2 : ok64 off (cellsAt hp.bl b0) n i 0 = true:=dec_iff.2 ⟨hgood,by omega,by omega,by omega,hn⟩
    have k3:=hgood.2 i (by omega)
    simp only [show L7.length = 7 from rfl] at k3
    simp only [Int.ofNat_eq_natCast,Int.toNat_natCast,Int.natCast_nonneg,hkn,decide_true,Bool.and_self,Bool.true_and,cond_true,k1,k2,k3,eqCode_self,Nat.sub_zero,arrOf,offOf,srcE,inB]
    rw [show List.all _ g0 = true from rfl]
    simp only [dec_iff.2 trivial,Nat.add_assoc,Nat.reduceAdd,Nat.add_zero]
    clear ho hok hgood k1 k2 k3 hc hK hJ hb hd
    repeat' refine cond_hd (fun _=>?_) (fun _=>?_)
    all_goals first | (simp_all; done) | grind
  · simp only [List.map_toArray,List.map_cons,List.map_nil,ren1,ren0]
    rw [atB_ren (by simp),atB_ren (by simp)]; rfl
  · have e1 : okR0 3 (.slice (atB 1 b) n2 z2) = true:=atB_okR (by decide)
    have e2 : okR0 3 (.slice (atB 2 d) n3 z3) = true:=atB_okR (by decide)
    simp only [List.all_cons,List.all_nil,okR1,e1,e2]; rfl
end
end Go.Proofs.Ytaglpbmnadlpgaa.Old

namespace Go.Proofs.Ytaglpbmnadlpgaa.Old
open Go.Gi Go.RowKit
noncomputable section
def sdP (c : Array Value) (off : Nat) (x0 x1 x2 : Int) (k : Nat) : Bool :=
  decide (getInt c (off + k * 5) = x0) && (decide (getInt c (off + k * 5 + 1) = x1) && decide (getInt c (off + k * 5 + 2) = x2))
def sdB (c : Array Value) (off : Nat) (x0 x1 x2 : Int) (m k : Nat) : Bool:=(fst (sdP c off x0 x1 x2) m k).isSome
def lastS (c : Array Value) (off : Nat) (x0 : Int) : Nat → Nat → Int → Int
  | 0,_,l=>l
  | m + 1,k,l=>lastS c off x0 m (k + 1) (if getInt c (off + k * 5) = x0 then k else l)
def okB65 (a d : Option Addr) (n z n3 z3 : Nat) (s c0 : Array Value) : Bool:=dec (sc1 3 (.slice a n z) = true ∧ sc1 3 (.slice d n3 z3) = true ∧ s.toList.all g0 = true ∧ c0.toList.all g0 = true)
def ok65 (off : Nat) (c : Array Value) (n : Nat) (i k : Int) : Bool:=dec (GoodL L5 c off n ∧ 0 ≤ i ∧ i < n ∧ 0 ≤ k ∧ n ≤ 60)
def sh65 : Shape
  | .code none (.loop code) ⟨t,[],⟨.cells c0 true :: .cells c true :: .dead :: .cells ⟨[.slice a n z,.slice (some ⟨1,off,none⟩) n2 5,.slice d n3 z3,.int .i64 age,.int .i64 shear]⟩ false :: .cells ⟨[.int .i64 x0,.int .i64 x1,.int .i64 x2,.int .i64 x3,.int .i64 x4]⟩ false :: .cells s false :: G,3,[]⟩⟩ =>
    match Nat.beq (firstReg code) 9,lget t 1,lget t 2,lget t 5,lget t 6,lget t 7,lget t 8 with
    | true,.int .i64 i,.pointer (some ⟨3,0,none⟩),.pointer (some ⟨4,0,none⟩),.pointer (some ⟨5,0,none⟩),.int .i64 l,.int .i64 k=>some fun j =>
      .br (eqCode code (theLoop Try.prog 65 0)) (.br (Nat.beq t.length 119) (.br (okB65 a d n z n3 z3 s c0) (.br (ok65 off c n2 i k)
 (.br (sdB c off x0 x1 x2 (i.toNat - k.toNat) k.toNat)
          (loopEnd 119 .ret [(4,.int .i64 5)] ⟨.cells c0 true :: .cells c true :: .dead :: .cells ⟨[.slice a n z,.slice (some ⟨1,off,none⟩) n2 5,.slice d n3 z3,.int .i64 age,.int .i64 shear]⟩ false :: .cells ⟨[.int .i64 x0,.int .i64 x1,.int .i64 x2,.int .i64 x3,.int .i64 x4]⟩ false :: .cells s false :: G,3,[]⟩ j)
          (loopEnd 119 (.exit 0) [(2,pp 3),(5,pp 4),(6,pp 5),(7,.int .i64 (lastS c off x0 (i.toNat - k.toNat) k.toNat l))] ⟨.cells c0 true :: .cells c true :: .dead :: .cells ⟨[.slice a n z,.slice (some ⟨1,off,none⟩) n2 5,.slice d n3 z3,.int .i64 age,.int .i64 shear]⟩ false :: .cells ⟨[.int .i64 x0,.int .i64 x1,.int .i64 x2,.int .i64 x3,.int .i64 x4]⟩ false :: .cells s false :: G,3,[]⟩ j)) .no) .no) .no) .no
    | _,_,_,_,_,_,_=>none
  | _=>none
def mes65 : Task → Nat
  | .code _ _ s=>match lget s.t 1,lget s.t 8 with
    | .int _ n,.int _ i=>Nat.sub n.toNat i.toNat
    | _,_=>0
  | _=>0
def pick65 : Ex → List Nat
  | .ret=>[4]
  | _=>[2,5,6,7]
end
end Go.Proofs.Ytaglpbmnadlpgaa.Old

namespace Go.Proofs.Ytaglpbmnadlpgaa.Old
open Go.Gi Go.RowKit
noncomputable section
set_option maxRecDepth 100000
set_option linter.unusedSimpArgs false
theorem tree65 (J : Task → List Value) (off : Nat) (c0 c s : Array Value) (n n2 : Nat) (i k l x0 x1 x2 x3 x4 age shear : Int) (a d : Option Addr) (z n3 z3 : Nat) (M : Nat) (y : List Value) :
    evS Try.prog (((sh65.ans J).below mes65 M).or (fun _=>none)) 60 (.code none (.loop (theLoop Try.prog 65 0)) ⟨sets (junkF 119 y) [(1,.int .i64 i),(2,pp 3),(5,pp 4),(6,pp 5),(7,.int .i64 l),(8,.int .i64 k)],[],⟨[.cells c0 true,.cells c true,.dead,.cells ⟨[.slice a n z,.slice (some ⟨1,off,none⟩) n2 5,.slice d n3 z3,.int .i64 age,.int .i64 shear]⟩ false,.cells ⟨[.int .i64 x0,.int .i64 x1,.int .i64 x2,.int .i64 x3,.int .i64 x4]⟩ false,.cells s false],3,[]⟩⟩) (sumK 6 119 pick65) =
    cond (decide (k < i))
 (cond (and (decide ((0 : Int) ≤ k)) (decide (k < (Int.ofNat n2))))
 (cond (and true (rdOk c [(Leaf.int .i64),(Leaf.int .i64),(Leaf.int .i64),(Leaf.int .i64),(Leaf.int .i64)] (off+((Int.toNat k)*5))))
 (cond (decide ((getInt c (off+((Int.toNat k)*5))) = x0))
 (cond (decide ((getInt c ((off+((Int.toNat k)*5))+1)) = x1))
 (cond (decide ((getInt c (((off+((Int.toNat k)*5))+1)+1)) = x2))
 (some (Out.ex Ex.ret (St.mk [(.int .i64 (5 : Int))] [] (Hp.mk [(Ob.cells c0 true),(Ob.cells c true),Ob.dead,(Ob.cells ⟨[(.slice a n z),(.slice (some (Addr.mk 1 off none)) n2 5),(.slice d n3 z3),(.int .i64 age),(.int .i64 shear)]⟩ false),(Ob.cells ⟨[(.int .i64 x0),(.int .i64 x1),(.int .i64 x2),(.int .i64 x3),(.int .i64 x4)]⟩ false),(Ob.cells s false)] 119 []))))
 (cond (decide ((getInt c (off+((Int.toNat k)*5))) = x0))
 (cond (Nat.blt (Nat.sub (Int.toNat i) (Int.toNat (IntKind.wrap .i64 (k+(1 : Int))))) M)
 (cond (eqCode (theLoop Try.prog 65 0) (theLoop Try.prog 65 0))
 (cond (okB65 a d n z n3 z3 s c0)
 (cond (ok65 off c n2 i (IntKind.wrap .i64 (k+(1 : Int))))
 (cond (sdB c off x0 x1 x2 ((Int.toNat i) - (Int.toNat (IntKind.wrap .i64 (k+(1 : Int))))) (Int.toNat (IntKind.wrap .i64 (k+(1 : Int)))))
 (some (Out.ex Ex.ret (St.mk [(.int .i64 (5 : Int))] [] (Hp.mk [(Ob.cells c0 true),(Ob.cells c true),Ob.dead,(Ob.cells ⟨[(.slice a n z),(.slice (some (Addr.mk 1 off none)) n2 5),(.slice d n3 z3),(.int .i64 age),(.int .i64 shear)]⟩ false),(Ob.cells ⟨[(.int .i64 x0),(.int .i64 x1),(.int .i64 x2),(.int .i64 x3),(.int .i64 x4)]⟩ false),(Ob.cells s false)] 119 []))))
 (some (Out.ex (Ex.exit 0) (St.mk [(.pointer (some (Addr.mk 3 0 none))),(.pointer (some (Addr.mk 4 0 none))),(.pointer (some (Addr.mk 5 0 none))),(.int .i64 (lastS c off x0 ((Int.toNat i) - (Int.toNat (IntKind.wrap .i64 (k+(1 : Int))))) (Int.toNat (IntKind.wrap .i64 (k+(1 : Int)))) k))] [] (Hp.mk [(Ob.cells c0 true),(Ob.cells c true),Ob.dead,(Ob.cells ⟨[(.slice a n z),(.slice (some (Addr.mk 1 off none)) n2 5),(.slice d n3 z3),(.int .i64 age),(.int .i64 shear)]⟩ false),(Ob.cells ⟨[(.int .i64 x0),(.int .i64 x1),(.int .i64 x2),(.int .i64 x3),(.int .i64 x4)]⟩ false),(Ob.cells s false)] 119 [])))))
 none)
 none)
 none)
 none)
 (cond (Nat.blt (Nat.sub (Int.toNat i) (Int.toNat (IntKind.wrap .i64 (k+(1 : Int))))) M)
 (cond (eqCode (theLoop Try.prog 65 0) (theLoop Try.prog 65 0))
 (cond (okB65 a d n z n3 z3 s c0)
 (cond (ok65 off c n2 i (IntKind.wrap .i64 (k+(1 : Int))))
 (cond (sdB c off x0 x1 x2 ((Int.toNat i) - (Int.toNat (IntKind.wrap .i64 (k+(1 : Int))))) (Int.toNat (IntKind.wrap .i64 (k+(1 : Int)))))
 (some (Out.ex Ex.ret (St.mk [(.int .i64 (5 : Int))] [] (Hp.mk [(Ob.cells c0 true),(Ob.cells c true),Ob.dead,(Ob.cells ⟨[(.slice a n z),(.slice (some (Addr.mk 1 off none)) n2 5),(.slice d n3 z3),(.int .i64 age),(.int .i64 shear)]⟩ false),(Ob.cells ⟨[(.int .i64 x0),(.int .i64 x1),(.int .i64 x2),(.int .i64 x3),(.int .i64 x4)]⟩ false),(Ob.cells s false)] 119 []))))
 (some (Out.ex (Ex.exit 0) (St.mk [(.pointer (some (Addr.mk 3 0 none))),(.pointer (some (Addr.mk 4 0 none))),(.pointer (some (Addr.mk 5 0 none))),(.int .i64 (lastS c off x0 ((Int.toNat i) - (Int.toNat (IntKind.wrap .i64 (k+(1 : Int))))) (Int.toNat (IntKind.wrap .i64 (k+(1 : Int)))) l))] [] (Hp.mk [(Ob.cells c0 true),(Ob.cells c true),Ob.dead,(Ob.cells ⟨[(.slice a n z),(.slice (some (Addr.mk 1 off none)) n2 5),(.slice d n3 z3),(.int .i64 age),(.int .i64 shear)]⟩ false),(Ob.cells ⟨[(.int .i64 x0),(.int .i64 x1),(.int .i64 x2),(.int .i64 x3),(.int .i64 x4)]⟩ false),(Ob.cells s false)] 119 [])))))
 none)
 none)
 none)
 none)))
 (cond (decide ((getInt c (off+((Int.toNat k)*5))) = x0))
 (cond (Nat.blt (Nat.sub (Int.toNat i) (Int.toNat (IntKind.wrap .i64 (k+(1 : Int))))) M)
 (cond (eqCode (theLoop Try.prog 65 0) (theLoop Try.prog 65 0))
 (cond (okB65 a d n z n3 z3 s c0)
 (cond (ok65 off c n2 i (IntKind.wrap .i64 (k+(1 : Int))))
 (cond (sdB c off x0 x1 x2 ((Int.toNat i) - (Int.toNat (IntKind.wrap .i64 (k+(1 : Int))))) (Int.toNat (IntKind.wrap .i64 (k+(1 : Int)))))
 (some (Out.ex Ex.ret (St.mk [(.int .i64 (5 : Int))] [] (Hp.mk [(Ob.cells c0 true),(Ob.cells c true),Ob.dead,(Ob.cells ⟨[(.slice a n z),(.slice (some (Addr.mk 1 off none)) n2 5),(.slice d n3 z3),(.int .i64 age),(.int .i64 shear)]⟩ false),(Ob.cells ⟨[(.int .i64 x0),(.int .i64 x1),(.int .i64 x2),(.int .i64 x3),(.int .i64 x4)]⟩ false),(Ob.cells s false)] 119 []))))
 (some (Out.ex (Ex.exit 0) (St.mk [(.pointer (some (Addr.mk 3 0 none))),(.pointer (some (Addr.mk 4 0 none))),(.pointer (some (Addr.mk 5 0 none))),(.int .i64 (lastS c off x0 ((Int.toNat i) - (Int.toNat (IntKind.wrap .i64 (k+(1 : Int))))) (Int.toNat (IntKind.wrap .i64 (k+(1 : Int)))) k))] [] (Hp.mk [(Ob.cells c0 true),(Ob.cells c true),Ob.dead,(Ob.cells ⟨[(.slice a n z),(.slice (some (Addr.mk 1 off none)) n2 5),(.slice d n3 z3),(.int .i64 age),(.int .i64 shear)]⟩ false),(Ob.cells ⟨[(.int .i64 x0),(.int .i64 x1),(.int .i64 x2),(.int .i64 x3),(.int .i64 x4)]⟩ false),(Ob.cells s false)] 119 [])))))
 none)
 none)
 none)
 none)
 (cond (Nat.blt (Nat.sub (Int.toNat i) (Int.toNat (IntKind.wrap .i64 (k+(1 : Int))))) M)
 (cond (eqCode (theLoop Try.prog 65 0) (theLoop Try.prog 65 0))
 (cond (okB65 a d n z n3 z3 s c0)
 (cond (ok65 off c n2 i (IntKind.wrap .i64 (k+(1 : Int))))
 (cond (sdB c off x0 x1 x2 ((Int.toNat i) - (Int.toNat (IntKind.wrap .i64 (k+(1 : Int))))) (Int.toNat (IntKind.wrap .i64 (k+(1 : Int)))))
 (some (Out.ex Ex.ret (St.mk [(.int .i64 (5 : Int))] [] (Hp.mk [(Ob.cells c0 true),(Ob.cells c true),Ob.dead,(Ob.cells ⟨[(.slice a n z),(.slice (some (Addr.mk 1 off none)) n2 5),(.slice d n3 z3),(.int .i64 age),(.int .i64 shear)]⟩ false),(Ob.cells ⟨[(.int .i64 x0),(.int .i64 x1),(.int .i64 x2),(.int .i64 x3),(.int .i64 x4)]⟩ false),(Ob.cells s false)] 119 []))))
 (some (Out.ex (Ex.exit 0) (St.mk [(.pointer (some (Addr.mk 3 0 none))),(.pointer (some (Addr.mk 4 0 none))),(.pointer (some (Addr.mk 5 0 none))),(.int .i64 (lastS c off x0 ((Int.toNat i) - (Int.toNat (IntKind.wrap .i64 (k+(1 : Int))))) (Int.toNat (IntKind.wrap .i64 (k+(1 : Int)))) l))] [] (Hp.mk [(Ob.cells c0 true),(Ob.cells c true),Ob.dead,(Ob.cells ⟨[(.slice a n z),(.slice (some (Addr.mk 1 off none)) n2 5),(.slice d n3 z3),(.int .i64 age),(.int .i64 shear)]⟩ false),(Ob.cells ⟨[(.int .i64 x0),(.int .i64 x1),(.int .i64 x2),(.int .i64 x3),(.int .i64 x4)]⟩ false),(Ob.cells s false)] 119 [])))))
 none)
 none)
 none)
 none)))
 (cond (decide ((getInt c (off+((Int.toNat k)*5))) = x0))
 (cond (Nat.blt (Nat.sub (Int.toNat i) (Int.toNat (IntKind.wrap .i64 (k+(1 : Int))))) M)
 (cond (eqCode (theLoop Try.prog 65 0) (theLoop Try.prog 65 0))
 (cond (okB65 a d n z n3 z3 s c0)
 (cond (ok65 off c n2 i (IntKind.wrap .i64 (k+(1 : Int))))
 (cond (sdB c off x0 x1 x2 ((Int.toNat i) - (Int.toNat (IntKind.wrap .i64 (k+(1 : Int))))) (Int.toNat (IntKind.wrap .i64 (k+(1 : Int)))))
 (some (Out.ex Ex.ret (St.mk [(.int .i64 (5 : Int))] [] (Hp.mk [(Ob.cells c0 true),(Ob.cells c true),Ob.dead,(Ob.cells ⟨[(.slice a n z),(.slice (some (Addr.mk 1 off none)) n2 5),(.slice d n3 z3),(.int .i64 age),(.int .i64 shear)]⟩ false),(Ob.cells ⟨[(.int .i64 x0),(.int .i64 x1),(.int .i64 x2),(.int .i64 x3),(.int .i64 x4)]⟩ false),(Ob.cells s false)] 119 []))))
 (some (Out.ex (Ex.exit 0) (St.mk [(.pointer (some (Addr.mk 3 0 none))),(.pointer (some (Addr.mk 4 0 none))),(.pointer (some (Addr.mk 5 0 none))),(.int .i64 (lastS c off x0 ((Int.toNat i) - (Int.toNat (IntKind.wrap .i64 (k+(1 : Int))))) (Int.toNat (IntKind.wrap .i64 (k+(1 : Int)))) k))] [] (Hp.mk [(Ob.cells c0 true),(Ob.cells c true),Ob.dead,(Ob.cells ⟨[(.slice a n z),(.slice (some (Addr.mk 1 off none)) n2 5),(.slice d n3 z3),(.int .i64 age),(.int .i64 shear)]⟩ false),(Ob.cells ⟨[(.int .i64 x0),(.int .i64 x1),(.int .i64 x2),(.int .i64 x3),(.int .i64 x4)]⟩ false),(Ob.cells s false)] 119 [])))))
 none)
 none)
 none)
 none)
 (cond (Nat.blt (Nat.sub (Int.toNat i) (Int.toNat (IntKind.wrap .i64 (k+(1 : Int))))) M)
 (cond (eqCode (theLoop Try.prog 65 0) (theLoop Try.prog 65 0))
 (cond (okB65 a d n z n3 z3 s c0)
 (cond (ok65 off c n2 i (IntKind.wrap .i64 (k+(1 : Int))))
 (cond (sdB c off x0 x1 x2 ((Int.toNat i) - (Int.toNat (IntKind.wrap .i64 (k+(1 : Int))))) (Int.toNat (IntKind.wrap .i64 (k+(1 : Int)))))
 (some (Out.ex Ex.ret (St.mk [(.int .i64 (5 : Int))] [] (Hp.mk [(Ob.cells c0 true),(Ob.cells c true),Ob.dead,(Ob.cells ⟨[(.slice a n z),(.slice (some (Addr.mk 1 off none)) n2 5),(.slice d n3 z3),(.int .i64 age),(.int .i64 shear)]⟩ false),(Ob.cells ⟨[(.int .i64 x0),(.int .i64 x1),(.int .i64 x2),(.int .i64 x3),(.int .i64 x4)]⟩ false),(Ob.cells s false)] 119 []))))
 (some (Out.ex (Ex.exit 0) (St.mk [(.pointer (some (Addr.mk 3 0 none))),(.pointer (some (Addr.mk 4 0 none))),(.pointer (some (Addr.mk 5 0 none))),(.int .i64 (lastS c off x0 ((Int.toNat i) - (Int.toNat (IntKind.wrap .i64 (k+(1 : Int))))) (Int.toNat (IntKind.wrap .i64 (k+(1 : Int)))) l))] [] (Hp.mk [(Ob.cells c0 true),(Ob.cells c true),Ob.dead,(Ob.cells ⟨[(.slice a n z),(.slice (some (Addr.mk 1 off none)) n2 5),(.slice d n3 z3),(.int .i64 age),(.int .i64 shear)]⟩ false),(Ob.cells ⟨[(.int .i64 x0),(.int .i64 x1),(.int .i64 x2),(.int .i64 x3),(.int .i64 x4)]⟩ false),(Ob.cells s false)] 119 [])))))
 none)
 none)
 none)
 none)))
 none)
 none)
 (some (Out.ex (Ex.exit 0) (St.mk [(.pointer (some (Addr.mk 3 0 none))),(.pointer (some (Addr.mk 4 0 none))),(.pointer (some (Addr.mk 5 0 none))),(.int .i64 l)] [] (Hp.mk [(Ob.cells c0 true),(Ob.cells c true),Ob.dead,(Ob.cells ⟨[(.slice a n z),(.slice (some (Addr.mk 1 off none)) n2 5),(.slice d n3 z3),(.int .i64 age),(.int .i64 shear)]⟩ false),(Ob.cells ⟨[(.int .i64 x0),(.int .i64 x1),(.int .i64 x2),(.int .i64 x3),(.int .i64 x4)]⟩ false),(Ob.cells s false)] 119 [])))):=by kernel_rfl
theorem allsc {n : Nat} {c : Array Value} (h : c.toList.all g0 = true) : c.toList.all (sc1 n) = true:=by rw [List.all_eq_true] at h ⊢; exact fun x hx=>sc1_g0 (h x hx)
theorem at1_sc {n off l z : Nat} (h : 1 < n) : sc1 n (.slice (some ⟨1,off,none⟩) l z) = true:=by simp [sc1,sc0,h]
theorem known65 : ∃ J,Known Try.prog (sh65.ans J):=by
  refine Known.junk (Known.nothing _) mes65 sh65 ?_
  intro J t f hs hkn
  unfold sh65 at hs
  split at hs
  case h_2=>cases hs
  rename_i code t c0 c a n z off n2 d n3 z3 age shear x0 x1 x2 x3 x4 s G
  split at hs
  case h_2=>cases hs
  rename_i i l k er e1 e2 e5 e6 e7 e8
  simp only [Option.some.injEq] at hs
  subst hs
  refine ex_guard fun h1=>ex_guard fun h2=>ex_guard fun h4=>ex_guard fun h3=>?_
  obtain rfl:=eqCode_eq h1
  have hl : t.length = 119:=Nat.eq_of_beq_eq_true h2
  obtain ⟨hb1,hd1,hrest,hc0⟩:=dec_iff.1 h4
  have hb5:=slice_sc hb1 (show 3 ≤ 6 by decide)
  have hd5:=slice_sc hd1 (show 3 ≤ 6 by decide)
  obtain ⟨hg,hi0,hik,hk0,hn⟩:=dec_iff.1 h3
  obtain ⟨i,rfl⟩:=Int.eq_ofNat_of_zero_le hi0
  obtain ⟨k,rfl⟩:=Int.eq_ofNat_of_zero_le hk0
  have q1:=allsc (n:=6) hg.1
  have q2:=allsc (n:=6) hrest
  have q3:=allsc (n:=6) hc0
  have hsc2 : (([.cells c0 true,.cells c true,.dead,.cells ⟨[.slice a n z,.slice (some ⟨1,off,none⟩) n2 5,.slice d n3 z3,.int .i64 age,.int .i64 shear]⟩ false,.cells ⟨[.int .i64 x0,.int .i64 x1,.int .i64 x2,.int .i64 x3,.int .i64 x4]⟩ false,.cells s false] : List Ob).all (obSc ([.cells c0 true,.cells c true,.dead,.cells ⟨[.slice a n z,.slice (some ⟨1,off,none⟩) n2 5,.slice d n3 z3,.int .i64 age,.int .i64 shear]⟩ false,.cells ⟨[.int .i64 x0,.int .i64 x1,.int .i64 x2,.int .i64 x3,.int .i64 x4]⟩ false,.cells s false] : List Ob).length)) = true:=by simp [obSc,q1,q2,q3,hb5,hd5,str_sc,int_sc,at1_sc]
  have hk2:=keptSelf hsc2
  have use:=fun e' vs hev he hvs=>hkn.loopLeaf (G:=G) noNG mixed (n:=60) (N0:=119) (N:=119) (live:=[(1,.int .i64 (Int.ofNat i)),(2,pp 3),(5,pp 4),(6,pp 5),(7,.int .i64 l),(8,.int .i64 (Int.ofNat k))])
    (H0:=[.cells c0 true,.cells c true,.dead,.cells ⟨[.slice a n z,.slice (some ⟨1,off,none⟩) n2 5,.slice d n3 z3,.int .i64 age,.int .i64 shear]⟩ false,.cells ⟨[.int .i64 x0,.int .i64 x1,.int .i64 x2,.int .i64 x3,.int .i64 x4]⟩ false,.cells s false]) (pick:=pick65) (e:=e') (vs:=vs)
    (base:=3) (wr:=[]) (wr1:=[]) (c:=theLoop Try.prog 65 0) (t:=t) hev hl (by
      intro kv hm
      simp only [List.mem_cons,List.not_mem_nil,or_false] at hm
      rcases hm with rfl | rfl | rfl | rfl | rfl | rfl
      · exact ⟨e1,rfl,rfl⟩
      · exact ⟨e2,rfl,rfl⟩
      · exact ⟨e5,rfl,rfl⟩
      · exact ⟨e6,rfl,rfl⟩
      · exact ⟨e7,rfl,rfl⟩
      · exact ⟨e8,rfl,rfl⟩) (by simp) hsc2 hk2 he hvs
  simp only [List.length_cons,List.length_nil,Nat.zero_add,Nat.reduceAdd] at use
  rw [tree65] at use
  simp only [Int.ofNat_eq_natCast,Int.toNat_natCast] at use ⊢
  by_cases hin : (k : Int) < (i : Int)
  · obtain ⟨m,hm⟩ : ∃ m,i - k = m + 1:=⟨i - k - 1,by omega⟩
    have hw : IntKind.i64.wrap ((k : Int) + 1) = ((k + 1 : Nat) : Int):=by rw [wrap64_id (by omega) (by omega)]; rfl
    rw [hm]
    have hm' : i - (k + 1) = m:=by omega
    have hme : (Nat.sub i (k + 1)).blt (mes65 (.code none (.loop (theLoop Try.prog 65 0)) ⟨t,[],⟨.cells c0 true :: .cells c true :: .dead :: .cells ⟨[.slice a n z,.slice (some ⟨1,off,none⟩) n2 5,.slice d n3 z3,.int .i64 age,.int .i64 shear]⟩ false :: .cells ⟨[.int .i64 x0,.int .i64 x1,.int .i64 x2,.int .i64 x3,.int .i64 x4]⟩ false :: .cells s false :: G,3,[]⟩⟩)) = true:=by
      simp only [mes65,e1,e2,e5,e6,e7,e8,Nat.blt_eq,Int.toNat_natCast]
      show i - (k + 1) < i - k
      omega
    have hok : ok65 off c n2 i ↑(k + 1) = true:=dec_iff.2 ⟨hg,by omega,hik,by omega,hn⟩
    have x0':=hg.2 k (by omega)
    simp only [show L5.length = 5 from rfl] at x0'
    have hkn2 : (k : Int) < n2:=by omega
    simp only [hw,Int.toNat_natCast,hm',hin,decide_true,cond_true,Bool.true_and,Bool.and_self,Int.natCast_nonneg,eqCode_self,hme,hok,Nat.add_zero,x0',hkn2,h4] at use
    cases hp : sdP c off x0 x1 x2 k with
    | true =>
      have e1 : sdB c off x0 x1 x2 (m + 1) k = true:=by simp [sdB,fst_hit hp]
      rw [e1]
      refine use .ret [.int .i64 5] ?_ rfl rfl
      revert hp
      unfold sdP
      try simp only [cond_eq_ite,Bool.not_eq_true',Bool.and_eq_true,decide_eq_true_eq,decide_eq_false_iff_not]
      (clear use hkn hk2 hsc2 hme hok h1 h2 h3 h4 er hg q1 q2 q3 hb1 hd1 hb5 hd5 hrest hc0 hl e2 e5 e6 e7 e8 x0'; simp only [lastS,Nat.add_assoc,Nat.reduceAdd]; by_cases d0 : getInt c (off + k * 5) = x0 <;> by_cases d1 : getInt c (off + (k * 5 + 1)) = x1 <;> by_cases d2 : getInt c (off + (k * 5 + 2)) = x2 <;> simp [d0,d1,d2,pp])
    | false =>
      have e1 : sdB c off x0 x1 x2 (m + 1) k = sdB c off x0 x1 x2 m (k + 1):=by simp [sdB,fst_miss hp]
      rw [e1]
      cases hb : sdB c off x0 x1 x2 m (k + 1) with
      | true =>
        rw [hb] at use
        refine use .ret [.int .i64 5] ?_ rfl rfl
        revert hp
        unfold sdP
        try simp only [cond_eq_ite,Bool.not_eq_true',Bool.and_eq_true,decide_eq_true_eq,decide_eq_false_iff_not]
        (clear use hkn hk2 hsc2 hme hok h1 h2 h3 h4 er hg q1 q2 q3 hb1 hd1 hb5 hd5 hrest hc0 hl e2 e5 e6 e7 e8 x0'; simp only [lastS,Nat.add_assoc,Nat.reduceAdd]; by_cases d0 : getInt c (off + k * 5) = x0 <;> by_cases d1 : getInt c (off + (k * 5 + 1)) = x1 <;> by_cases d2 : getInt c (off + (k * 5 + 2)) = x2 <;> simp [d0,d1,d2,pp])
      | false =>
        rw [hb] at use
        refine use (.exit 0) [pp 3,pp 4,pp 5,.int .i64 (lastS c off x0 (m + 1) k l)] ?_ rfl rfl
        revert hp
        unfold sdP
        try simp only [cond_eq_ite,Bool.not_eq_true',Bool.and_eq_true,decide_eq_true_eq,decide_eq_false_iff_not]
        (clear use hkn hk2 hsc2 hme hok h1 h2 h3 h4 er hg q1 q2 q3 hb1 hd1 hb5 hd5 hrest hc0 hl e2 e5 e6 e7 e8 x0'; simp only [lastS,Nat.add_assoc,Nat.reduceAdd]; by_cases d0 : getInt c (off + k * 5) = x0 <;> by_cases d1 : getInt c (off + (k * 5 + 1)) = x1 <;> by_cases d2 : getInt c (off + (k * 5 + 2)) = x2 <;> simp [d0,d1,d2,pp])
  · have h0 : i - k = 0:=by omega
    have e1 : sdB c off x0 x1 x2 (i - k) k = false:=by rw [h0]; rfl
    rw [e1]
    rw [h0]
    refine use (.exit 0) [pp 3,pp 4,pp 5,.int .i64 (lastS c off x0 0 k l)] ?_ rfl rfl
    simp only [hin,decide_false,cond_false]
    try rfl
end
end Go.Proofs.Ytaglpbmnadlpgaa.Old

namespace Go.Proofs.Ytaglpbmnadlpgaa.Old
open Go.Gi Go.RowKit
noncomputable section
set_option maxRecDepth 100000
set_option linter.unusedSimpArgs false
set_option linter.unusedVariables false
theorem lastS_lt {c : Array Value} {off : Nat} {x0 : Int} {n : Nat} : ∀ {m k : Nat} {l : Int},l < n → k + m ≤ n → lastS c off x0 m k l < n
  | 0,_,_,h,_=>h
  | m + 1,k,l,h,hk=>by
    simp only [lastS]
    refine lastS_lt ?_ (by omega)
    split <;> omega
def sdE (c0 : Array Value) (off0 n : Nat) (c : Array Value) (off i : Nat) : Int :=
  if inB (getInt c (off + i * 5)) 0 ((n : Int) - 1) = false then 4
  else if inB (getInt c (off + i * 5 + 1)) 0 100000 = false ∨
    inB (getInt c (off + i * 5 + 2)) (getInt c0 (off0 + (getInt c (off + i * 5)).toNat * 7 + 5)) (getInt c0 (off0 + (getInt c (off + i * 5)).toNat * 7 + 6)) = false ∨
    inB (getInt c (off + i * 5 + 3)) (-20000) 20000 = false ∨ inB (getInt c (off + i * 5 + 4)) (-20000) 20000 = false then 7
  else if sdB c off (getInt c (off + i * 5)) (getInt c (off + i * 5 + 1)) (getInt c (off + i * 5 + 2)) i 0 = true then 5
  else if getInt c0 (off0 + (getInt c (off + i * 5)).toNat * 7 + 1) = 2 ∧ 0 ≤ lastS c off (getInt c (off + i * 5)) i 0 (-1) ∧
    (getInt c (off + i * 5 + 1) < getInt c (off + (lastS c off (getInt c (off + i * 5)) i 0 (-1)).toNat * 5 + 1) ∨
     getInt c (off + i * 5 + 2) < getInt c (off + (lastS c off (getInt c (off + i * 5)) i 0 (-1)).toNat * 5 + 2)) then 2 else 0
def c65 (a b d : Option Addr) (n z n2 z2 n3 z3 : Nat) (i : Int) (H : List Ob) : Bool:=dec (SliceL L7 a n z H ∧ SliceL L5 b n2 z2 H ∧ 0 ≤ i ∧ i < n2 ∧ n ≤ 20 ∧ n2 ≤ 60 ∧ NilOk d n3 z3)
def p65 : Ans
  | .call 65 ⟨[.agg ⟨[.slice a n z,.slice b n2 z2,.slice d n3 z3,.int .i64 age,.int .i64 shear]⟩,.int .i64 i]⟩ h =>
    some (.br (c65 a b d n z n2 z2 n3 z3 i h.bl) (.leaf (.ret (.int .i64 (sdE (arrOf a h.bl) (offOf a) n (arrOf b h.bl) (offOf b) i.toNat)) h)) .no)
  | _=>none
theorem isInt5 {c : Array Value} {x : Nat} (h : rdOk c L5 x = true) : isInt .i64 c (x + 1) = true ∧ isInt .i64 c (x + 2) = true:=by
  simp only [rdOk,rdLeaf,Bool.and_eq_true] at h
  exact ⟨h.2.1,h.2.2.1⟩
theorem tree65c (J : Task → List Value) (off off0 : Nat) (c0 c : Array Value) (n n2 : Nat) (i age shear : Int) (d : Option Addr) (n3 z3 : Nat) :
    evC Try.prog (sh65.ans J).c 60 (.call 65 ⟨[.agg ⟨[.slice (some ⟨0,off0,none⟩) n 7,.slice (some ⟨1,off,none⟩) n2 5,.slice d n3 z3,.int .i64 age,.int .i64 shear]⟩,.int .i64 i]⟩ ⟨[.cells c0 true,.cells c true,.dead],3,[]⟩) some =
    cond (and (decide ((0 : Int) ≤ i)) (decide (i < (Int.ofNat n2))))
 (cond (and true (rdOk c [(Leaf.int .i64),(Leaf.int .i64),(Leaf.int .i64),(Leaf.int .i64),(Leaf.int .i64)] (off+((Int.toNat i)*5))))
 (cond (decide ((0 : Int) ≤ (getInt c (off+((Int.toNat i)*5)))))
 (cond (not (decide ((getInt c (off+((Int.toNat i)*5))) ≤ (IntKind.wrap .i64 ((Int.ofNat n) - (1 : Int))))))
 (some (Out.ret (.int .i64 (4 : Int)) (Hp.mk [(Ob.cells c0 true),(Ob.cells c true),Ob.dead] 3 [])))
 (cond (and (decide ((0 : Int) ≤ (getInt c (off+((Int.toNat i)*5))))) (decide ((getInt c (off+((Int.toNat i)*5))) < (Int.ofNat n))))
 (cond (and true (rdOk c0 [Leaf.str,(Leaf.int .i64),(Leaf.int .i64),(Leaf.int .i64),(Leaf.int .i64),(Leaf.int .i64),(Leaf.int .i64)] (off0+((Int.toNat (getInt c (off+((Int.toNat i)*5))))*7))))
 (cond (decide ((0 : Int) ≤ (getInt c ((off+((Int.toNat i)*5))+1))))
 (cond (not (decide ((getInt c ((off+((Int.toNat i)*5))+1)) ≤ (100000 : Int))))
 (some (Out.ret (.int .i64 (7 : Int)) (Hp.mk [(Ob.cells c0 true),(Ob.cells c true),Ob.dead] 3 [])))
 (cond (decide ((getInt c0 ((((((off0+((Int.toNat (getInt c (off+((Int.toNat i)*5))))*7))+1)+1)+1)+1)+1)) ≤ (getInt c (((off+((Int.toNat i)*5))+1)+1))))
 (cond (not (decide ((getInt c (((off+((Int.toNat i)*5))+1)+1)) ≤ (getInt c0 (((((((off0+((Int.toNat (getInt c (off+((Int.toNat i)*5))))*7))+1)+1)+1)+1)+1)+1)))))
 (some (Out.ret (.int .i64 (7 : Int)) (Hp.mk [(Ob.cells c0 true),(Ob.cells c true),Ob.dead] 3 [])))
 (cond (decide ((-20000 : Int) ≤ (getInt c ((((off+((Int.toNat i)*5))+1)+1)+1))))
 (cond (not (decide ((getInt c ((((off+((Int.toNat i)*5))+1)+1)+1)) ≤ (20000 : Int))))
 (some (Out.ret (.int .i64 (7 : Int)) (Hp.mk [(Ob.cells c0 true),(Ob.cells c true),Ob.dead] 3 [])))
 (cond (decide ((-20000 : Int) ≤ (getInt c (((((off+((Int.toNat i)*5))+1)+1)+1)+1))))
 (cond (not (decide ((getInt c (((((off+((Int.toNat i)*5))+1)+1)+1)+1)) ≤ (20000 : Int))))
 (some (Out.ret (.int .i64 (7 : Int)) (Hp.mk [(Ob.cells c0 true),(Ob.cells c true),Ob.dead] 3 [])))
 (cond (eqCode (theLoop Try.prog 65 0) (theLoop Try.prog 65 0))
 (cond (okB65 (some (Addr.mk 0 off0 none)) d n 7 n3 z3 ⟨[(.string (getStr c0 (off0+((Int.toNat (getInt c (off+((Int.toNat i)*5))))*7)))),(.int .i64 (getInt c0 ((off0+((Int.toNat (getInt c (off+((Int.toNat i)*5))))*7))+1))),(.int .i64 (getInt c0 (((off0+((Int.toNat (getInt c (off+((Int.toNat i)*5))))*7))+1)+1))),(.int .i64 (getInt c0 ((((off0+((Int.toNat (getInt c (off+((Int.toNat i)*5))))*7))+1)+1)+1))),(.int .i64 (getInt c0 (((((off0+((Int.toNat (getInt c (off+((Int.toNat i)*5))))*7))+1)+1)+1)+1))),(.int .i64 (getInt c0 ((((((off0+((Int.toNat (getInt c (off+((Int.toNat i)*5))))*7))+1)+1)+1)+1)+1))),(.int .i64 (getInt c0 (((((((off0+((Int.toNat (getInt c (off+((Int.toNat i)*5))))*7))+1)+1)+1)+1)+1)+1)))]⟩ c0)
 (cond (ok65 off c n2 i (0 : Int))
 (cond (sdB c off (getInt c (off+((Int.toNat i)*5))) (getInt c ((off+((Int.toNat i)*5))+1)) (getInt c (((off+((Int.toNat i)*5))+1)+1)) ((Int.toNat i) - 0) 0)
 (some (Out.ret (.int .i64 (5 : Int)) (Hp.mk [(Ob.cells c0 true),(Ob.cells c true),Ob.dead] 3 [])))
 (cond (decide ((getInt c0 ((off0+((Int.toNat (getInt c (off+((Int.toNat i)*5))))*7))+1)) = (2 : Int)))
 (cond (decide ((0 : Int) ≤ (lastS c off (getInt c (off+((Int.toNat i)*5))) ((Int.toNat i) - 0) 0 (-1 : Int))))
 (cond (and (decide ((0 : Int) ≤ (lastS c off (getInt c (off+((Int.toNat i)*5))) ((Int.toNat i) - 0) 0 (-1 : Int)))) (decide ((lastS c off (getInt c (off+((Int.toNat i)*5))) ((Int.toNat i) - 0) 0 (-1 : Int)) < (Int.ofNat n2))))
 (cond (and true (isInt .i64 c ((off+((Int.toNat (lastS c off (getInt c (off+((Int.toNat i)*5))) ((Int.toNat i) - 0) 0 (-1 : Int)))*5))+1)))
 (cond (decide ((getInt c ((off+((Int.toNat i)*5))+1)) < (getInt c ((off+((Int.toNat (lastS c off (getInt c (off+((Int.toNat i)*5))) ((Int.toNat i) - 0) 0 (-1 : Int)))*5))+1))))
 (some (Out.ret (.int .i64 (2 : Int)) (Hp.mk [(Ob.cells c0 true),(Ob.cells c true),Ob.dead] 3 [])))
 (cond (and (decide ((0 : Int) ≤ (lastS c off (getInt c (off+((Int.toNat i)*5))) ((Int.toNat i) - 0) 0 (-1 : Int)))) (decide ((lastS c off (getInt c (off+((Int.toNat i)*5))) ((Int.toNat i) - 0) 0 (-1 : Int)) < (Int.ofNat n2))))
 (cond (and true (isInt .i64 c ((off+((Int.toNat (lastS c off (getInt c (off+((Int.toNat i)*5))) ((Int.toNat i) - 0) 0 (-1 : Int)))*5))+2)))
 (cond (decide ((getInt c (((off+((Int.toNat i)*5))+1)+1)) < (getInt c ((off+((Int.toNat (lastS c off (getInt c (off+((Int.toNat i)*5))) ((Int.toNat i) - 0) 0 (-1 : Int)))*5))+2))))
 (some (Out.ret (.int .i64 (2 : Int)) (Hp.mk [(Ob.cells c0 true),(Ob.cells c true),Ob.dead] 3 [])))
 (some (Out.ret (.int .i64 (0 : Int)) (Hp.mk [(Ob.cells c0 true),(Ob.cells c true),Ob.dead] 3 []))))
 none)
 none))
 none)
 none)
 (some (Out.ret (.int .i64 (0 : Int)) (Hp.mk [(Ob.cells c0 true),(Ob.cells c true),Ob.dead] 3 []))))
 (some (Out.ret (.int .i64 (0 : Int)) (Hp.mk [(Ob.cells c0 true),(Ob.cells c true),Ob.dead] 3 [])))))
 none)
 none)
 none))
 (some (Out.ret (.int .i64 (7 : Int)) (Hp.mk [(Ob.cells c0 true),(Ob.cells c true),Ob.dead] 3 [])))))
 (some (Out.ret (.int .i64 (7 : Int)) (Hp.mk [(Ob.cells c0 true),(Ob.cells c true),Ob.dead] 3 [])))))
 (some (Out.ret (.int .i64 (7 : Int)) (Hp.mk [(Ob.cells c0 true),(Ob.cells c true),Ob.dead] 3 [])))))
 (some (Out.ret (.int .i64 (7 : Int)) (Hp.mk [(Ob.cells c0 true),(Ob.cells c true),Ob.dead] 3 []))))
 none)
 none))
 (some (Out.ret (.int .i64 (4 : Int)) (Hp.mk [(Ob.cells c0 true),(Ob.cells c true),Ob.dead] 3 []))))
 none)
 none:=by kernel_rfl
theorem tree65y (off : Nat) (c : Array Value) (n2 : Nat) (i age shear : Int) (d : Option Addr) (z n3 z3 : Nat) :
    evC Try.prog (fun _ _=>none) 60 (.call 65 ⟨[.agg ⟨[.slice none 0 z,.slice (some ⟨1,off,none⟩) n2 5,.slice d n3 z3,.int .i64 age,.int .i64 shear]⟩,.int .i64 i]⟩ ⟨[.dead,.cells c true,.dead],3,[]⟩) some =
    cond (and (decide ((0 : Int) ≤ i)) (decide (i < (Int.ofNat n2))))
 (cond (and true (rdOk c [(Leaf.int .i64),(Leaf.int .i64),(Leaf.int .i64),(Leaf.int .i64),(Leaf.int .i64)] (off+((Int.toNat i)*5))))
 (cond (decide ((0 : Int) ≤ (getInt c (off+((Int.toNat i)*5)))))
 (cond (not (decide ((getInt c (off+((Int.toNat i)*5))) ≤ (-1 : Int))))
 (some (Out.ret (.int .i64 (4 : Int)) (Hp.mk [Ob.dead,(Ob.cells c true),Ob.dead] 3 [])))
 none)
 (some (Out.ret (.int .i64 (4 : Int)) (Hp.mk [Ob.dead,(Ob.cells c true),Ob.dead] 3 []))))
 none)
 none:=by kernel_rfl
theorem tree65w (off o0 : Nat) (c : Array Value) (n2 : Nat) (i age shear : Int) (d : Option Addr) (z n3 z3 : Nat) :
    evC Try.prog (fun _ _=>none) 60 (.call 65 ⟨[.agg ⟨[.slice (some ⟨0,o0,none⟩) 0 z,.slice (some ⟨1,off,none⟩) n2 5,.slice d n3 z3,.int .i64 age,.int .i64 shear]⟩,.int .i64 i]⟩ ⟨[.dead,.cells c true,.dead],3,[]⟩) some =
    cond (and (decide ((0 : Int) ≤ i)) (decide (i < (Int.ofNat n2))))
 (cond (and true (rdOk c [(Leaf.int .i64),(Leaf.int .i64),(Leaf.int .i64),(Leaf.int .i64),(Leaf.int .i64)] (off+((Int.toNat i)*5))))
 (cond (decide ((0 : Int) ≤ (getInt c (off+((Int.toNat i)*5)))))
 (cond (not (decide ((getInt c (off+((Int.toNat i)*5))) ≤ (-1 : Int))))
 (some (Out.ret (.int .i64 (4 : Int)) (Hp.mk [Ob.dead,(Ob.cells c true),Ob.dead] 3 [])))
 (cond (and (decide ((0 : Int) ≤ (getInt c (off+((Int.toNat i)*5))))) (decide ((getInt c (off+((Int.toNat i)*5))) < (0 : Int))))
 (none)
 none))
 (some (Out.ret (.int .i64 (4 : Int)) (Hp.mk [Ob.dead,(Ob.cells c true),Ob.dead] 3 []))))
 none)
 none:=by kernel_rfl
theorem tree65x (off o0 : Nat) (sp : Nat) (c : Array Value) (n2 : Nat) (i age shear : Int) (d : Option Addr) (z n3 z3 : Nat) :
    evC Try.prog (fun _ _=>none) 60 (.call 65 ⟨[.agg ⟨[.slice (some ⟨0,o0,some sp⟩) 0 z,.slice (some ⟨1,off,none⟩) n2 5,.slice d n3 z3,.int .i64 age,.int .i64 shear]⟩,.int .i64 i]⟩ ⟨[.dead,.cells c true,.dead],3,[]⟩) some =
    cond (and (decide ((0 : Int) ≤ i)) (decide (i < (Int.ofNat n2))))
 (cond (and true (rdOk c [(Leaf.int .i64),(Leaf.int .i64),(Leaf.int .i64),(Leaf.int .i64),(Leaf.int .i64)] (off+((Int.toNat i)*5))))
 (cond (decide ((0 : Int) ≤ (getInt c (off+((Int.toNat i)*5)))))
 (cond (not (decide ((getInt c (off+((Int.toNat i)*5))) ≤ (-1 : Int))))
 (some (Out.ret (.int .i64 (4 : Int)) (Hp.mk [Ob.dead,(Ob.cells c true),Ob.dead] 3 [])))
 none)
 (some (Out.ret (.int .i64 (4 : Int)) (Hp.mk [Ob.dead,(Ob.cells c true),Ob.dead] 3 []))))
 none)
 none:=by kernel_rfl
theorem known65c : Known Try.prog p65:=by
  obtain ⟨J,hJ⟩:=known65
  intro t xx o h ho
  unfold p65 at h
  split at h
  case h_2=>cases h
  rename_i a n z b n2 z2 d n3 z3 age shear i hp
  simp only [Option.some.injEq] at h
  subst h
  simp only [AT.out] at ho
  obtain ⟨hok,ho⟩:=cond_some ho
  simp only [Option.some.injEq] at ho
  subst ho
  obtain ⟨hs,hs2,hi0,hin,hn,hn2,hd⟩:=dec_iff.1 hok
  clear hok ho
  rcases hs2 with rfl | ⟨b1,off,rfl,rfl,hc,hgood⟩
  · omega
  obtain ⟨i,rfl⟩:=Int.eq_ofNat_of_zero_le hi0
  have hkn : (i : Int) < n2:=hin
  have e2 : ∀ k,okR0 3 (.slice (atB 2 d) n3 k) = true:=fun k=>atB_okR (by decide)
  have k3:=hgood.2 i (by omega)
  simp only [show L5.length = 5 from rfl] at k3
  rcases Nat.eq_zero_or_pos n with rfl | hpos
  · cases a with
    | none =>
      refine frame3 (args1:=⟨[.agg ⟨[.slice none 0 z,.slice (some ⟨1,off,none⟩) n2 5,.slice (atB 2 d) n3 z3,.int .i64 age,.int .i64 shear]⟩,.int .i64 i]⟩) 0 b1 (blkOf d) ((Known.nothing _).fact noNG mixed (n:=60) ?_) rfl
        (.inl rfl) (.inr ⟨_,rfl,hgood.1,cells_ok hc⟩) (.inl rfl) ?_ ?_
      · refine (tree65y ..).trans ?_
        simp only [Int.ofNat_eq_natCast,Int.toNat_natCast,Int.natCast_nonneg,hkn,decide_true,Bool.and_self,Bool.true_and,cond_true,k3,arrOf,offOf,sdE,inB]
        repeat' refine cond_hd (fun _=>?_) (fun _=>?_)
        all_goals first | (simp_all; done) | grind
      · simp only [List.map_toArray,List.map_cons,List.map_nil,ren1,ren0]
        rw [atB_ren (by simp)]; rfl
      · simp only [List.all_cons,List.all_nil,okR1,e2]; rfl
    | some x =>
      obtain ⟨xb,o0,sp⟩:=x
      cases sp with
      | none =>
        refine frame3 (args1:=⟨[.agg ⟨[.slice (some ⟨0,o0,none⟩) 0 z,.slice (some ⟨1,off,none⟩) n2 5,.slice (atB 2 d) n3 z3,.int .i64 age,.int .i64 shear]⟩,.int .i64 i]⟩) xb b1 (blkOf d) ((Known.nothing _).fact noNG mixed (n:=60) ?_) rfl
          (.inl rfl) (.inr ⟨_,rfl,hgood.1,cells_ok hc⟩) (.inl rfl) ?_ ?_
        · refine (tree65w ..).trans ?_
          simp only [Int.ofNat_eq_natCast,Int.toNat_natCast,Int.natCast_nonneg,hkn,decide_true,Bool.and_self,Bool.true_and,cond_true,k3,arrOf,offOf,sdE,inB]
          repeat' refine cond_hd (fun _=>?_) (fun _=>?_)
          all_goals first | (simp_all; done) | grind
        · simp only [List.map_toArray,List.map_cons,List.map_nil,ren1,ren0]
          rw [atB_ren (by simp)]; rfl
        · simp only [List.all_cons,List.all_nil,okR1,e2]; rfl
      | some sp =>
        refine frame3 (args1:=⟨[.agg ⟨[.slice (some ⟨0,o0,some sp⟩) 0 z,.slice (some ⟨1,off,none⟩) n2 5,.slice (atB 2 d) n3 z3,.int .i64 age,.int .i64 shear]⟩,.int .i64 i]⟩) xb b1 (blkOf d) ((Known.nothing _).fact noNG mixed (n:=60) ?_) rfl
          (.inl rfl) (.inr ⟨_,rfl,hgood.1,cells_ok hc⟩) (.inl rfl) ?_ ?_
        · refine (tree65x ..).trans ?_
          simp only [Int.ofNat_eq_natCast,Int.toNat_natCast,Int.natCast_nonneg,hkn,decide_true,Bool.and_self,Bool.true_and,cond_true,k3,arrOf,offOf,sdE,inB]
          repeat' refine cond_hd (fun _=>?_) (fun _=>?_)
          all_goals first | (simp_all; done) | grind
        · simp only [List.map_toArray,List.map_cons,List.map_nil,ren1,ren0]
          rw [atB_ren (by simp)]; rfl
        · simp only [List.all_cons,List.all_nil,okR1,e2]; rfl
  rcases hs with rfl | ⟨b0,off0,rfl,rfl,hc0,hgood0⟩
  · omega
  refine frame3 (args1:=⟨[.agg ⟨[.slice (some ⟨0,off0,none⟩) n 7,.slice (some ⟨1,off,none⟩) n2 5,.slice (atB 2 d) n3 z3,.int .i64 age,.int .i64 shear]⟩,.int .i64 i]⟩) b0 b1 (blkOf d) (hJ.fact noNG mixed (n:=60) ?_) rfl
    (.inr ⟨_,rfl,hgood0.1,cells_ok hc0⟩) (.inr ⟨_,rfl,hgood.1,cells_ok hc⟩) (.inl rfl) ?_ ?_
  · rw [tree65c]
    have hw : IntKind.i64.wrap ((n : Int) - 1) = (n : Int) - 1:=wrap64_id (by omega) (by omega)
    have k1 : ∀ s,okB65 (some ⟨0,off0,none⟩) (atB 2 d) n 7 n3 z3 s (cellsAt hp.bl b0) = dec (s.toList.all g0 = true):=by
      intro s
      have q1:=atB_sc (n:=3) (k:=2) (a:=d) (l:=n3) (z:=z3) (by decide) hd
      have q2:=hgood0.1
      simp only [okB65,q1,q2,at0_sc (show 0 < 3 by decide),true_and,and_true]
    have k2 : ok65 off (cellsAt hp.bl b1) n2 i 0 = true:=dec_iff.2 ⟨hgood,by omega,by omega,by omega,hn2⟩
    have kI:=fun k hk=>isInt5 (hgood.2 k hk)
    have kR:=hgood0.2
    simp only [show L5.length = 5 from rfl] at kI
    simp only [show L7.length = 7 from rfl] at kR
    have hla:=lastS_lt (c:=cellsAt hp.bl b1) (off:=off) (x0:=getInt (cellsAt hp.bl b1) (off + i * 5)) (n:=n2) (m:=i) (k:=0) (l:=-1) (by omega) (by omega)
    simp only [Int.ofNat_eq_natCast,Int.toNat_natCast,Int.natCast_nonneg,hkn,decide_true,Bool.and_self,Bool.true_and,cond_true,k1,k2,k3,hw,eqCode_self,Nat.sub_zero,arrOf,offOf,sdE,inB]
    rw [show List.all _ g0 = true from rfl]
    simp only [dec_iff.2 trivial,Nat.add_assoc,Nat.reduceAdd,Nat.add_zero,cond_true,Int.reduceNeg]
    simp only [Nat.add_assoc,Nat.reduceAdd] at kI kR hla
    clear hJ hgood hgood0 k1 k2 e2 hd hw k3
    have kI1 : ∀ v : Int,0 ≤ v → v < n2 → isInt .i64 (cellsAt hp.bl b1) (off + (v.toNat * 5 + 1)) = true:=fun v h1 h2=>(kI v.toNat (by omega)).1
    have kI2 : ∀ v : Int,0 ≤ v → v < n2 → isInt .i64 (cellsAt hp.bl b1) (off + (v.toNat * 5 + 2)) = true:=fun v h1 h2=>(kI v.toNat (by omega)).2
    have kR1 : ∀ v : Int,0 ≤ v → v < n → rdOk (cellsAt hp.bl b0) L7 (off0 + v.toNat * 7) = true:=fun v h1 h2=>kR v.toNat (by omega)
    clear kI kR
    repeat' refine cond_hd (fun _=>?_) (fun _=>?_)
    all_goals grind
  · simp only [List.map_toArray,List.map_cons,List.map_nil,ren1,ren0]
    rw [atB_ren (by simp)]; rfl
  · simp only [List.all_cons,List.all_nil,okR1,e2]; rfl
end
end Go.Proofs.Ytaglpbmnadlpgaa.Old

namespace Go.Proofs.Ytaglpbmnadlpgaa.Old
open Go.Gi Go.RowKit
noncomputable section
def fB (p : Nat → Bool) (m k : Nat) : Bool:=(fst p m k).isSome
def fI (p : Nat → Bool) (m k : Nat) : Nat:=(fst p m k).getD 0
theorem fB_hit {p : Nat → Bool} {m i : Nat} (h : p i = true) : fB p (m + 1) i = true:=by simp [fB,fst_hit h]
theorem fB_miss {p : Nat → Bool} {m i : Nat} (h : p i = false) : fB p (m + 1) i = fB p m (i + 1):=by simp [fB,fst_miss h]
theorem fI_hit {p : Nat → Bool} {m i : Nat} (h : p i = true) : fI p (m + 1) i = i:=by simp [fI,fst_hit h]
theorem fI_miss {p : Nat → Bool} {m i : Nat} (h : p i = false) : fI p (m + 1) i = fI p m (i + 1):=by simp [fI,fst_miss h]
def srE (a : Option Addr) (H : List Ob) (k : Nat) : Int:=srcE (arrOf a H) (offOf a) k
def srP (a : Option Addr) (H : List Ob) (k : Nat) : Bool:=!decide (srE a H k = 0)
def soE (a b : Option Addr) (n : Nat) (H : List Ob) (k : Nat) : Int:=sdE (arrOf a H) (offOf a) n (arrOf b H) (offOf b) k
def soP (a b : Option Addr) (n : Nat) (H : List Ob) (k : Nat) : Bool:=!decide (soE a b n H k = 0)
def tmE (c : Array Value) (off k : Nat) : Int :=
  if inB (getInt c (off + k)) 1 100000000 = false then 7 else if 0 < k ∧ getInt c (off + k) ≤ getInt c (off + (k - 1)) then 2 else 0
def tmP (c : Array Value) (off k : Nat) : Bool:=!decide (tmE c off k = 0)
def grOb (o : Ob) : Prop:=o = .dead ∨ ∃ c,o = .cells c true ∧ c.toList.all g0 = true
def okC (a b d : Option Addr) (n z n2 z2 n3 z3 : Nat) (o0 o1 o2 : Ob) : Bool :=
  dec (sc1 3 (.slice a n z) = true ∧ sc1 3 (.slice b n2 z2) = true ∧ sc1 3 (.slice d n3 z3) = true ∧ grOb o0 ∧ grOb o1 ∧ grOb o2 ∧
    SliceL L7 a n z [o0,o1,o2] ∧ SliceL L5 b n2 z2 [o0,o1,o2] ∧ n ≤ 6 ∧ n2 ≤ 60 ∧ n3 ≤ 20)
def ok0 (i : Int) : Bool:=dec (0 ≤ i)
def sh21a : Shape
  | .code none (.loop code) ⟨t,[],⟨o0 :: o1 :: o2 :: .cells ⟨[.slice a n z,.slice b n2 z2,.slice d n3 z3,.int .i64 age,.int .i64 shear]⟩ false :: G,3,[]⟩⟩ =>
    match Nat.beq (firstReg code) 4,lget t 1,lget t 5 with
    | true,.pointer (some ⟨3,0,none⟩),.int .i64 k=>some fun j =>
      .br (eqCode code (theLoop Try.prog 21 0)) (.br (Nat.beq t.length 97) (.br (okC a b d n z n2 z2 n3 z3 o0 o1 o2) (.br (ok0 k)
 (.br (fB (srP a [o0,o1,o2]) (n - k.toNat) k.toNat)
          (loopEnd 97 .ret [(2,.int .i64 2),(3,.int .i64 (Int.ofNat (fI (srP a [o0,o1,o2]) (n - k.toNat) k.toNat))),(4,.int .i64 (srE a [o0,o1,o2] (fI (srP a [o0,o1,o2]) (n - k.toNat) k.toNat)))] ⟨o0 :: o1 :: o2 :: .cells ⟨[.slice a n z,.slice b n2 z2,.slice d n3 z3,.int .i64 age,.int .i64 shear]⟩ false :: G,3,[]⟩ j)
          (loopEnd 97 (.exit 0) [(1,pp 3)] ⟨o0 :: o1 :: o2 :: .cells ⟨[.slice a n z,.slice b n2 z2,.slice d n3 z3,.int .i64 age,.int .i64 shear]⟩ false :: G,3,[]⟩ j)) .no) .no) .no) .no
    | _,_,_=>none
  | _=>none
def sh21b : Shape
  | .code none (.loop code) ⟨t,[],⟨o0 :: o1 :: o2 :: .cells ⟨[.slice a n z,.slice b n2 z2,.slice d n3 z3,.int .i64 age,.int .i64 shear]⟩ false :: G,3,[]⟩⟩ =>
    match Nat.beq (firstReg code) 10,lget t 1,lget t 7 with
    | true,.pointer (some ⟨3,0,none⟩),.int .i64 k=>some fun j =>
      .br (eqCode code (theLoop Try.prog 21 1)) (.br (Nat.beq t.length 97) (.br (okC a b d n z n2 z2 n3 z3 o0 o1 o2) (.br (ok0 k)
 (.br (fB (soP a b n [o0,o1,o2]) (n2 - k.toNat) k.toNat)
          (loopEnd 97 .ret [(2,.int .i64 3),(3,.int .i64 (Int.ofNat (fI (soP a b n [o0,o1,o2]) (n2 - k.toNat) k.toNat))),(4,.int .i64 (soE a b n [o0,o1,o2] (fI (soP a b n [o0,o1,o2]) (n2 - k.toNat) k.toNat)))] ⟨o0 :: o1 :: o2 :: .cells ⟨[.slice a n z,.slice b n2 z2,.slice d n3 z3,.int .i64 age,.int .i64 shear]⟩ false :: G,3,[]⟩ j)
          (loopEnd 97 (.exit 2) [(1,pp 3)] ⟨o0 :: o1 :: o2 :: .cells ⟨[.slice a n z,.slice b n2 z2,.slice d n3 z3,.int .i64 age,.int .i64 shear]⟩ false :: G,3,[]⟩ j)) .no) .no) .no) .no
    | _,_,_=>none
  | _=>none
def okD (a b : Option Addr) (n z n2 z2 : Nat) (c : Array Value) (off n3 : Nat) (o0 o1 : Ob) (k : Int) : Bool :=
  dec (sc1 3 (.slice a n z) = true ∧ sc1 3 (.slice b n2 z2) = true ∧ grOb o0 ∧ grOb o1 ∧ GoodL L1 c off n3 ∧ n3 ≤ 20 ∧ 0 ≤ k)
def sh21c : Shape
  | .code none (.loop code) ⟨t,[],⟨o0 :: o1 :: .cells c true :: .cells ⟨[.slice a n z,.slice b n2 z2,.slice (some ⟨2,off,none⟩) n3 1,.int .i64 age,.int .i64 shear]⟩ false :: G,3,[]⟩⟩ =>
    match Nat.beq (firstReg code) 16,lget t 1,lget t 9 with
    | true,.pointer (some ⟨3,0,none⟩),.int .i64 k=>some fun j =>
      .br (eqCode code (theLoop Try.prog 21 2)) (.br (Nat.beq t.length 97) (.br (okD a b n z n2 z2 c off n3 o0 o1 k)
 (.br (fB (tmP c off) (n3 - k.toNat) k.toNat)
          (loopEnd 97 .ret [(2,.int .i64 4),(3,.int .i64 (Int.ofNat (fI (tmP c off) (n3 - k.toNat) k.toNat))),(4,.int .i64 (tmE c off (fI (tmP c off) (n3 - k.toNat) k.toNat)))] ⟨o0 :: o1 :: .cells c true :: .cells ⟨[.slice a n z,.slice b n2 z2,.slice (some ⟨2,off,none⟩) n3 1,.int .i64 age,.int .i64 shear]⟩ false :: G,3,[]⟩ j)
          (loopEnd 97 (.exit 4) [(1,pp 3)] ⟨o0 :: o1 :: .cells c true :: .cells ⟨[.slice a n z,.slice b n2 z2,.slice (some ⟨2,off,none⟩) n3 1,.int .i64 age,.int .i64 shear]⟩ false :: G,3,[]⟩ j)) .no) .no) .no
    | _,_,_=>none
  | _=>none
def mesB (q : Nat) (ix : Nat) : Task → Nat
  | .code _ _ ⟨t,_,⟨_ :: _ :: _ :: .cells ⟨[.slice _ n _,.slice _ n2 _,.slice _ n3 _,_,_]⟩ _ :: _,_,_⟩⟩=>match lget t ix with
    | .int _ i=>Nat.sub (match q with | 0=>n | 1=>n2 | _=>n3) i.toNat
    | _=>0
  | _=>0
def pick21 : Ex → List Nat
  | .ret=>[2,3,4]
  | _=>[1]
end
end Go.Proofs.Ytaglpbmnadlpgaa.Old

namespace Go.Proofs.Ytaglpbmnadlpgaa.Old
open Go.Gi Go.RowKit
noncomputable section
set_option maxRecDepth 100000
set_option linter.unusedSimpArgs false
theorem obSc_cells (n : Nat) (c : Array Value) (r : Bool) : obSc n (.cells c r) = c.toList.all (sc1 n):=rfl
theorem nilOk_of {n l z : Nat} {a : Option Addr} (h : sc1 n (.slice a l z) = true) : NilOk a l z:=by
  rintro rfl
  simp only [sc1,sc0,g0,Bool.and_eq_true,beq_iff_eq] at h
  exact h
theorem grOb_sc {n : Nat} {o : Ob} (h : grOb o) : obSc n o = true:=by
  rcases h with rfl | ⟨c,rfl,h⟩
  · rfl
  · exact allsc h
theorem at2_sc {n off l z : Nat} (h : 2 < n) : sc1 n (.slice (some ⟨2,off,none⟩) l z) = true:=by simp [sc1,sc0,h]
theorem isInt1 {c : Array Value} {off x : Nat} (h : rdOk c L1 (off + x * 1) = true) : isInt .i64 c (off + x) = true:=by
  rw [Nat.mul_one] at h
  simp only [rdOk,rdLeaf,Bool.and_eq_true] at h
  exact h.1
theorem nth3 {o0 o1 o2 : Ob} (X : List Ob) : ∀ {b : Nat},b < 3 → nthO (o0 :: o1 :: o2 :: X) b = nthO [o0,o1,o2] b
  | 0,_=>rfl
  | 1,_=>rfl
  | 2,_=>rfl
  | b + 3,h=>absurd h (by omega)
theorem arr3 {o0 o1 o2 : Ob} {X : List Ob} {a : Option Addr} {l z : Nat} (h : sc1 3 (.slice a l z) = true) : arrOf a (o0 :: o1 :: o2 :: X) = arrOf a [o0,o1,o2]:=by
  cases a with
  | none=>rfl
  | some x =>
    simp only [sc1,sc0,decide_eq_true_eq] at h
    simp only [arrOf,cellsAt,nth3 X h]
theorem sliceL3 {L : List Leaf} {o0 o1 o2 : Ob} {X : List Ob} {a : Option Addr} {l z n z' : Nat} (h : sc1 3 (.slice a l z) = true) (hs : SliceL L a n z' [o0,o1,o2]) : SliceL L a n z' (o0 :: o1 :: o2 :: X):=by
  rcases hs with rfl | ⟨b,off,rfl,rfl,hc,hg⟩
  · exact .inl rfl
  · simp only [sc1,sc0,decide_eq_true_eq] at h
    exact .inr ⟨b,off,rfl,rfl,by simpa only [isCells,nth3 X h] using hc,by simpa only [cellsAt,nth3 X h] using hg⟩
theorem tree21a (J : Task → List Value) (o0 o1 o2 : Ob) (a b d : Option Addr) (n z n2 z2 n3 z3 : Nat) (k age shear : Int) (M : Nat) (y : List Value) :
    evS Try.prog (((sh21a.ans J).below (mesB 0 5) M).or p64) 60 (.code none (.loop (theLoop Try.prog 21 0)) ⟨sets (junkF 97 y) [(1,pp 3),(5,.int .i64 k)],[],⟨[o0,o1,o2,.cells ⟨[.slice a n z,.slice b n2 z2,.slice d n3 z3,.int .i64 age,.int .i64 shear]⟩ false],3,[]⟩⟩) (sumK 4 97 pick21) =
    cond (decide (k < (Int.ofNat n)))
 (cond (c64 a b d n z n2 z2 n3 z3 k [o0,o1,o2,(Ob.cells ⟨[(.slice a n z),(.slice b n2 z2),(.slice d n3 z3),(.int .i64 age),(.int .i64 shear)]⟩ false)])
 (cond (not (decide ((srcE (arrOf a [o0,o1,o2,(Ob.cells ⟨[(.slice a n z),(.slice b n2 z2),(.slice d n3 z3),(.int .i64 age),(.int .i64 shear)]⟩ false)]) (offOf a) (Int.toNat k)) = (0 : Int))))
 (some (Out.ex Ex.ret (St.mk [(.int .i64 (2 : Int)),(.int .i64 k),(.int .i64 (srcE (arrOf a [o0,o1,o2,(Ob.cells ⟨[(.slice a n z),(.slice b n2 z2),(.slice d n3 z3),(.int .i64 age),(.int .i64 shear)]⟩ false)]) (offOf a) (Int.toNat k)))] [] (Hp.mk [o0,o1,o2,(Ob.cells ⟨[(.slice a n z),(.slice b n2 z2),(.slice d n3 z3),(.int .i64 age),(.int .i64 shear)]⟩ false)] 97 []))))
 (cond (Nat.blt (Nat.sub n (Int.toNat (IntKind.wrap .i64 (k+(1 : Int))))) M)
 (cond (eqCode (theLoop Try.prog 21 0) (theLoop Try.prog 21 0))
 (cond (okC a b d n z n2 z2 n3 z3 o0 o1 o2)
 (cond (ok0 (IntKind.wrap .i64 (k+(1 : Int))))
 (cond (fB (srP a [o0,o1,o2]) (n - (Int.toNat (IntKind.wrap .i64 (k+(1 : Int))))) (Int.toNat (IntKind.wrap .i64 (k+(1 : Int)))))
 (some (Out.ex Ex.ret (St.mk [(.int .i64 (2 : Int)),(.int .i64 (Int.ofNat (fI (srP a [o0,o1,o2]) (n - (Int.toNat (IntKind.wrap .i64 (k+(1 : Int))))) (Int.toNat (IntKind.wrap .i64 (k+(1 : Int))))))),(.int .i64 (srE a [o0,o1,o2] (fI (srP a [o0,o1,o2]) (n - (Int.toNat (IntKind.wrap .i64 (k+(1 : Int))))) (Int.toNat (IntKind.wrap .i64 (k+(1 : Int)))))))] [] (Hp.mk [o0,o1,o2,(Ob.cells ⟨[(.slice a n z),(.slice b n2 z2),(.slice d n3 z3),(.int .i64 age),(.int .i64 shear)]⟩ false)] 97 []))))
 (some (Out.ex (Ex.exit 0) (St.mk [(.pointer (some (Addr.mk 3 0 none)))] [] (Hp.mk [o0,o1,o2,(Ob.cells ⟨[(.slice a n z),(.slice b n2 z2),(.slice d n3 z3),(.int .i64 age),(.int .i64 shear)]⟩ false)] 97 [])))))
 none)
 none)
 none)
 none))
 none)
 (some (Out.ex (Ex.exit 0) (St.mk [(.pointer (some (Addr.mk 3 0 none)))] [] (Hp.mk [o0,o1,o2,(Ob.cells ⟨[(.slice a n z),(.slice b n2 z2),(.slice d n3 z3),(.int .i64 age),(.int .i64 shear)]⟩ false)] 97 [])))):=by kernel_rfl
theorem known21a : ∃ J,Known Try.prog (sh21a.ans J):=by
  refine Known.junk known64c (mesB 0 5) sh21a ?_
  intro J t f hs hkn
  unfold sh21a at hs
  split at hs
  case h_2=>cases hs
  rename_i code t o0 o1 o2 a n z b n2 z2 d n3 z3 age shear G
  split at hs
  case h_2=>cases hs
  rename_i k er e1 e5
  simp only [Option.some.injEq] at hs
  subst hs
  refine ex_guard fun h1=>ex_guard fun h2=>ex_guard fun h4=>ex_guard fun h3=>?_
  obtain rfl:=eqCode_eq h1
  have hl : t.length = 97:=Nat.eq_of_beq_eq_true h2
  obtain ⟨ha,hb,hd,q0,q1,q2,sa,sb,hn,hn2,hn3⟩:=dec_iff.1 h4
  have hk0 : 0 ≤ k:=dec_iff.1 h3
  have scs:=And.intro (slice_sc ha (show 3 ≤ 4 by decide)) (And.intro (slice_sc hb (show 3 ≤ 4 by decide)) (And.intro (slice_sc hd (show 3 ≤ 4 by decide)) (And.intro (grOb_sc (n:=4) q0) (And.intro (grOb_sc (n:=4) q1) (grOb_sc (n:=4) q2)))))
  obtain ⟨k,rfl⟩:=Int.eq_ofNat_of_zero_le hk0
  have hsc2 : (([o0,o1,o2,.cells ⟨[.slice a n z,.slice b n2 z2,.slice d n3 z3,.int .i64 age,.int .i64 shear]⟩ false] : List Ob).all (obSc ([o0,o1,o2,.cells ⟨[.slice a n z,.slice b n2 z2,.slice d n3 z3,.int .i64 age,.int .i64 shear]⟩ false] : List Ob).length)) = true:=by simp [obSc_cells,scs,str_sc,int_sc]
  have hk2:=keptSelf hsc2
  have use:=fun e' vs hev he hvs=>hkn.loopLeaf (G:=G) noNG mixed (n:=60) (N0:=97) (N:=97) (live:=[(1,pp 3),(5,.int .i64 (Int.ofNat k))])
    (H0:=[o0,o1,o2,.cells ⟨[.slice a n z,.slice b n2 z2,.slice d n3 z3,.int .i64 age,.int .i64 shear]⟩ false]) (pick:=pick21) (e:=e') (vs:=vs)
    (base:=3) (wr:=[]) (wr1:=[]) (c:=theLoop Try.prog 21 0) (t:=t) hev hl (by
      intro kv hm
      simp only [List.mem_cons,List.not_mem_nil,or_false] at hm
      rcases hm with rfl | rfl
      · exact ⟨e1,rfl,rfl⟩
      · exact ⟨e5,rfl,rfl⟩) (by simp) hsc2 hk2 he hvs
  simp only [List.length_cons,List.length_nil,Nat.zero_add,Nat.reduceAdd] at use
  rw [tree21a] at use
  simp only [Int.ofNat_eq_natCast,Int.toNat_natCast] at use ⊢
  by_cases hin : (k : Int) < (n : Int)
  · obtain ⟨m,hm⟩ : ∃ m,n - k = m + 1:=⟨n - k - 1,by omega⟩
    have hw : IntKind.i64.wrap ((k : Int) + 1) = ((k + 1 : Nat) : Int):=by rw [wrap64_id (by omega) (by omega)]; rfl
    rw [hm]
    have hm' : n - (k + 1) = m:=by omega
    have hme : (Nat.sub n (k + 1)).blt (mesB 0 5 (.code none (.loop (theLoop Try.prog 21 0)) ⟨t,[],⟨o0 :: o1 :: o2 :: .cells ⟨[.slice a n z,.slice b n2 z2,.slice d n3 z3,.int .i64 age,.int .i64 shear]⟩ false :: G,3,[]⟩⟩)) = true:=by
      simp only [mesB,e1,e5,Nat.blt_eq,Int.toNat_natCast]
      show n - (k + 1) < n - k
      omega
    have hok : ok0 ↑(k + 1) = true:=dec_iff.2 (by omega)
    have x0 : c64 a b d n z n2 z2 n3 z3 ↑k [o0,o1,o2,.cells ⟨[.slice a n z,.slice b n2 z2,.slice d n3 z3,.int .i64 age,.int .i64 shear]⟩ false] = true:=dec_iff.2 ⟨sliceL3 ha sa,by omega,by omega,by omega,nilOk_of hb,nilOk_of hd⟩
    have x1 : arrOf a [o0,o1,o2,.cells ⟨[.slice a n z,.slice b n2 z2,.slice d n3 z3,.int .i64 age,.int .i64 shear]⟩ false] = arrOf a [o0,o1,o2]:=arr3 ha
    simp only [hw,Int.toNat_natCast,hm',hin,decide_true,cond_true,Bool.true_and,Bool.and_self,Int.natCast_nonneg,eqCode_self,hme,Nat.add_zero,h4,hok,x0,x1] at use
    cases hp : (srP a [o0,o1,o2]) k with
    | true =>
      rw [fB_hit hp,fI_hit hp]
      refine use .ret [.int .i64 2,.int .i64 k,.int .i64 (srE a [o0,o1,o2] k)] ?_ rfl rfl
      have hq : (!decide (srcE (arrOf a [o0,o1,o2]) (offOf a) k = 0)) = true:=hp
      rw [hq]; rfl
    | false =>
      rw [fB_miss hp,fI_miss hp]
      cases hb : fB (srP a [o0,o1,o2]) m (k + 1) with
      | true =>
        rw [hb] at use
        refine use .ret [.int .i64 2,.int .i64 (Int.ofNat (fI (srP a [o0,o1,o2]) m (k + 1))),.int .i64 (srE a [o0,o1,o2] (fI (srP a [o0,o1,o2]) m (k + 1)))] ?_ rfl rfl
        have hq : (!decide (srcE (arrOf a [o0,o1,o2]) (offOf a) k = 0)) = false:=hp
        rw [hq]; rfl
      | false =>
        rw [hb] at use
        refine use (.exit 0) [pp 3] ?_ rfl rfl
        have hq : (!decide (srcE (arrOf a [o0,o1,o2]) (offOf a) k = 0)) = false:=hp
        rw [hq]; rfl
  · have h0 : n - k = 0:=by omega
    rw [h0]
    refine use (.exit 0) [pp 3] ?_ rfl rfl
    simp only [hin,decide_false,cond_false]
    try rfl
theorem tree21b (J : Task → List Value) (o0 o1 o2 : Ob) (a b d : Option Addr) (n z n2 z2 n3 z3 : Nat) (k age shear : Int) (M : Nat) (y : List Value) :
    evS Try.prog (((sh21b.ans J).below (mesB 1 7) M).or p65) 60 (.code none (.loop (theLoop Try.prog 21 1)) ⟨sets (junkF 97 y) [(1,pp 3),(7,.int .i64 k)],[],⟨[o0,o1,o2,.cells ⟨[.slice a n z,.slice b n2 z2,.slice d n3 z3,.int .i64 age,.int .i64 shear]⟩ false],3,[]⟩⟩) (sumK 4 97 pick21) =
    cond (decide (k < (Int.ofNat n2)))
 (cond (c65 a b d n z n2 z2 n3 z3 k [o0,o1,o2,(Ob.cells ⟨[(.slice a n z),(.slice b n2 z2),(.slice d n3 z3),(.int .i64 age),(.int .i64 shear)]⟩ false)])
 (cond (not (decide ((sdE (arrOf a [o0,o1,o2,(Ob.cells ⟨[(.slice a n z),(.slice b n2 z2),(.slice d n3 z3),(.int .i64 age),(.int .i64 shear)]⟩ false)]) (offOf a) n (arrOf b [o0,o1,o2,(Ob.cells ⟨[(.slice a n z),(.slice b n2 z2),(.slice d n3 z3),(.int .i64 age),(.int .i64 shear)]⟩ false)]) (offOf b) (Int.toNat k)) = (0 : Int))))
 (some (Out.ex Ex.ret (St.mk [(.int .i64 (3 : Int)),(.int .i64 k),(.int .i64 (sdE (arrOf a [o0,o1,o2,(Ob.cells ⟨[(.slice a n z),(.slice b n2 z2),(.slice d n3 z3),(.int .i64 age),(.int .i64 shear)]⟩ false)]) (offOf a) n (arrOf b [o0,o1,o2,(Ob.cells ⟨[(.slice a n z),(.slice b n2 z2),(.slice d n3 z3),(.int .i64 age),(.int .i64 shear)]⟩ false)]) (offOf b) (Int.toNat k)))] [] (Hp.mk [o0,o1,o2,(Ob.cells ⟨[(.slice a n z),(.slice b n2 z2),(.slice d n3 z3),(.int .i64 age),(.int .i64 shear)]⟩ false)] 97 []))))
 (cond (Nat.blt (Nat.sub n2 (Int.toNat (IntKind.wrap .i64 (k+(1 : Int))))) M)
 (cond (eqCode (theLoop Try.prog 21 1) (theLoop Try.prog 21 1))
 (cond (okC a b d n z n2 z2 n3 z3 o0 o1 o2)
 (cond (ok0 (IntKind.wrap .i64 (k+(1 : Int))))
 (cond (fB (soP a b n [o0,o1,o2]) (n2 - (Int.toNat (IntKind.wrap .i64 (k+(1 : Int))))) (Int.toNat (IntKind.wrap .i64 (k+(1 : Int)))))
 (some (Out.ex Ex.ret (St.mk [(.int .i64 (3 : Int)),(.int .i64 (Int.ofNat (fI (soP a b n [o0,o1,o2]) (n2 - (Int.toNat (IntKind.wrap .i64 (k+(1 : Int))))) (Int.toNat (IntKind.wrap .i64 (k+(1 : Int))))))),(.int .i64 (soE a b n [o0,o1,o2] (fI (soP a b n [o0,o1,o2]) (n2 - (Int.toNat (IntKind.wrap .i64 (k+(1 : Int))))) (Int.toNat (IntKind.wrap .i64 (k+(1 : Int)))))))] [] (Hp.mk [o0,o1,o2,(Ob.cells ⟨[(.slice a n z),(.slice b n2 z2),(.slice d n3 z3),(.int .i64 age),(.int .i64 shear)]⟩ false)] 97 []))))
 (some (Out.ex (Ex.exit 2) (St.mk [(.pointer (some (Addr.mk 3 0 none)))] [] (Hp.mk [o0,o1,o2,(Ob.cells ⟨[(.slice a n z),(.slice b n2 z2),(.slice d n3 z3),(.int .i64 age),(.int .i64 shear)]⟩ false)] 97 [])))))
 none)
 none)
 none)
 none))
 none)
 (some (Out.ex (Ex.exit 2) (St.mk [(.pointer (some (Addr.mk 3 0 none)))] [] (Hp.mk [o0,o1,o2,(Ob.cells ⟨[(.slice a n z),(.slice b n2 z2),(.slice d n3 z3),(.int .i64 age),(.int .i64 shear)]⟩ false)] 97 [])))):=by kernel_rfl
theorem known21b : ∃ J,Known Try.prog (sh21b.ans J):=by
  refine Known.junk known65c (mesB 1 7) sh21b ?_
  intro J t f hs hkn
  unfold sh21b at hs
  split at hs
  case h_2=>cases hs
  rename_i code t o0 o1 o2 a n z b n2 z2 d n3 z3 age shear G
  split at hs
  case h_2=>cases hs
  rename_i k er e1 e5
  simp only [Option.some.injEq] at hs
  subst hs
  refine ex_guard fun h1=>ex_guard fun h2=>ex_guard fun h4=>ex_guard fun h3=>?_
  obtain rfl:=eqCode_eq h1
  have hl : t.length = 97:=Nat.eq_of_beq_eq_true h2
  obtain ⟨ha,hb,hd,q0,q1,q2,sa,sb,hn,hn2,hn3⟩:=dec_iff.1 h4
  have hk0 : 0 ≤ k:=dec_iff.1 h3
  have scs:=And.intro (slice_sc ha (show 3 ≤ 4 by decide)) (And.intro (slice_sc hb (show 3 ≤ 4 by decide)) (And.intro (slice_sc hd (show 3 ≤ 4 by decide)) (And.intro (grOb_sc (n:=4) q0) (And.intro (grOb_sc (n:=4) q1) (grOb_sc (n:=4) q2)))))
  obtain ⟨k,rfl⟩:=Int.eq_ofNat_of_zero_le hk0
  have hsc2 : (([o0,o1,o2,.cells ⟨[.slice a n z,.slice b n2 z2,.slice d n3 z3,.int .i64 age,.int .i64 shear]⟩ false] : List Ob).all (obSc ([o0,o1,o2,.cells ⟨[.slice a n z,.slice b n2 z2,.slice d n3 z3,.int .i64 age,.int .i64 shear]⟩ false] : List Ob).length)) = true:=by simp [obSc_cells,scs,str_sc,int_sc]
  have hk2:=keptSelf hsc2
  have use:=fun e' vs hev he hvs=>hkn.loopLeaf (G:=G) noNG mixed (n:=60) (N0:=97) (N:=97) (live:=[(1,pp 3),(7,.int .i64 (Int.ofNat k))])
    (H0:=[o0,o1,o2,.cells ⟨[.slice a n z,.slice b n2 z2,.slice d n3 z3,.int .i64 age,.int .i64 shear]⟩ false]) (pick:=pick21) (e:=e') (vs:=vs)
    (base:=3) (wr:=[]) (wr1:=[]) (c:=theLoop Try.prog 21 1) (t:=t) hev hl (by
      intro kv hm
      simp only [List.mem_cons,List.not_mem_nil,or_false] at hm
      rcases hm with rfl | rfl
      · exact ⟨e1,rfl,rfl⟩
      · exact ⟨e5,rfl,rfl⟩) (by simp) hsc2 hk2 he hvs
  simp only [List.length_cons,List.length_nil,Nat.zero_add,Nat.reduceAdd] at use
  rw [tree21b] at use
  simp only [Int.ofNat_eq_natCast,Int.toNat_natCast] at use ⊢
  by_cases hin : (k : Int) < (n2 : Int)
  · obtain ⟨m,hm⟩ : ∃ m,n2 - k = m + 1:=⟨n2 - k - 1,by omega⟩
    have hw : IntKind.i64.wrap ((k : Int) + 1) = ((k + 1 : Nat) : Int):=by rw [wrap64_id (by omega) (by omega)]; rfl
    rw [hm]
    have hm' : n2 - (k + 1) = m:=by omega
    have hme : (Nat.sub n2 (k + 1)).blt (mesB 1 7 (.code none (.loop (theLoop Try.prog 21 1)) ⟨t,[],⟨o0 :: o1 :: o2 :: .cells ⟨[.slice a n z,.slice b n2 z2,.slice d n3 z3,.int .i64 age,.int .i64 shear]⟩ false :: G,3,[]⟩⟩)) = true:=by
      simp only [mesB,e1,e5,Nat.blt_eq,Int.toNat_natCast]
      show n2 - (k + 1) < n2 - k
      omega
    have hok : ok0 ↑(k + 1) = true:=dec_iff.2 (by omega)
    have x0 : c65 a b d n z n2 z2 n3 z3 ↑k [o0,o1,o2,.cells ⟨[.slice a n z,.slice b n2 z2,.slice d n3 z3,.int .i64 age,.int .i64 shear]⟩ false] = true:=dec_iff.2 ⟨sliceL3 ha sa,sliceL3 hb sb,by omega,by omega,by omega,by omega,nilOk_of hd⟩
    have x1 : arrOf a [o0,o1,o2,.cells ⟨[.slice a n z,.slice b n2 z2,.slice d n3 z3,.int .i64 age,.int .i64 shear]⟩ false] = arrOf a [o0,o1,o2]:=arr3 ha
    have x2 : arrOf b [o0,o1,o2,.cells ⟨[.slice a n z,.slice b n2 z2,.slice d n3 z3,.int .i64 age,.int .i64 shear]⟩ false] = arrOf b [o0,o1,o2]:=arr3 hb
    simp only [hw,Int.toNat_natCast,hm',hin,decide_true,cond_true,Bool.true_and,Bool.and_self,Int.natCast_nonneg,eqCode_self,hme,Nat.add_zero,h4,hok,x0,x1,x2] at use
    cases hp : (soP a b n [o0,o1,o2]) k with
    | true =>
      rw [fB_hit hp,fI_hit hp]
      refine use .ret [.int .i64 3,.int .i64 k,.int .i64 (soE a b n [o0,o1,o2] k)] ?_ rfl rfl
      have hq : (!decide (sdE (arrOf a [o0,o1,o2]) (offOf a) n (arrOf b [o0,o1,o2]) (offOf b) k = 0)) = true:=hp
      rw [hq]; rfl
    | false =>
      rw [fB_miss hp,fI_miss hp]
      cases hb : fB (soP a b n [o0,o1,o2]) m (k + 1) with
      | true =>
        rw [hb] at use
        refine use .ret [.int .i64 3,.int .i64 (Int.ofNat (fI (soP a b n [o0,o1,o2]) m (k + 1))),.int .i64 (soE a b n [o0,o1,o2] (fI (soP a b n [o0,o1,o2]) m (k + 1)))] ?_ rfl rfl
        have hq : (!decide (sdE (arrOf a [o0,o1,o2]) (offOf a) n (arrOf b [o0,o1,o2]) (offOf b) k = 0)) = false:=hp
        rw [hq]; rfl
      | false =>
        rw [hb] at use
        refine use (.exit 2) [pp 3] ?_ rfl rfl
        have hq : (!decide (sdE (arrOf a [o0,o1,o2]) (offOf a) n (arrOf b [o0,o1,o2]) (offOf b) k = 0)) = false:=hp
        rw [hq]; rfl
  · have h0 : n2 - k = 0:=by omega
    rw [h0]
    refine use (.exit 2) [pp 3] ?_ rfl rfl
    simp only [hin,decide_false,cond_false]
    try rfl
theorem tree21c (J : Task → List Value) (o0 o1 : Ob) (c : Array Value) (off : Nat) (a b : Option Addr) (n z n2 z2 n3 : Nat) (k age shear : Int) (M : Nat) (y : List Value) :
    evS Try.prog (((sh21c.ans J).below (mesB 2 9) M).or (fun _=>none)) 60 (.code none (.loop (theLoop Try.prog 21 2)) ⟨sets (junkF 97 y) [(1,pp 3),(9,.int .i64 k)],[],⟨[o0,o1,.cells c true,.cells ⟨[.slice a n z,.slice b n2 z2,.slice (some ⟨2,off,none⟩) n3 1,.int .i64 age,.int .i64 shear]⟩ false],3,[]⟩⟩) (sumK 4 97 pick21) =
    cond (decide (k < (Int.ofNat n3)))
 (cond (and (decide ((0 : Int) ≤ k)) (decide (k < (Int.ofNat n3))))
 (cond (and true (isInt .i64 c (off+((Int.toNat k)*1))))
 (cond (decide ((1 : Int) ≤ (getInt c (off+((Int.toNat k)*1)))))
 (cond (not (decide ((getInt c (off+((Int.toNat k)*1))) ≤ (100000000 : Int))))
 (some (Out.ex Ex.ret (St.mk [(.int .i64 (4 : Int)),(.int .i64 k),(.int .i64 (7 : Int))] [] (Hp.mk [o0,o1,(Ob.cells c true),(Ob.cells ⟨[(.slice a n z),(.slice b n2 z2),(.slice (some (Addr.mk 2 off none)) n3 1),(.int .i64 age),(.int .i64 shear)]⟩ false)] 97 []))))
 (cond (decide ((0 : Int) < k))
 (cond (and (decide ((0 : Int) ≤ k)) (decide (k < (Int.ofNat n3))))
 (cond (and true (isInt .i64 c (off+((Int.toNat k)*1))))
 (cond (and (decide ((0 : Int) ≤ (IntKind.wrap .i64 (k - (1 : Int))))) (decide ((IntKind.wrap .i64 (k - (1 : Int))) < (Int.ofNat n3))))
 (cond (and true (isInt .i64 c (off+((Int.toNat (IntKind.wrap .i64 (k - (1 : Int))))*1))))
 (cond (decide ((getInt c (off+((Int.toNat k)*1))) ≤ (getInt c (off+((Int.toNat (IntKind.wrap .i64 (k - (1 : Int))))*1)))))
 (some (Out.ex Ex.ret (St.mk [(.int .i64 (4 : Int)),(.int .i64 k),(.int .i64 (2 : Int))] [] (Hp.mk [o0,o1,(Ob.cells c true),(Ob.cells ⟨[(.slice a n z),(.slice b n2 z2),(.slice (some (Addr.mk 2 off none)) n3 1),(.int .i64 age),(.int .i64 shear)]⟩ false)] 97 []))))
 (cond (Nat.blt (Nat.sub n3 (Int.toNat (IntKind.wrap .i64 (k+(1 : Int))))) M)
 (cond (eqCode (theLoop Try.prog 21 2) (theLoop Try.prog 21 2))
 (cond (okD a b n z n2 z2 c off n3 o0 o1 (IntKind.wrap .i64 (k+(1 : Int))))
 (cond (fB (tmP c off) (n3 - (Int.toNat (IntKind.wrap .i64 (k+(1 : Int))))) (Int.toNat (IntKind.wrap .i64 (k+(1 : Int)))))
 (some (Out.ex Ex.ret (St.mk [(.int .i64 (4 : Int)),(.int .i64 (Int.ofNat (fI (tmP c off) (n3 - (Int.toNat (IntKind.wrap .i64 (k+(1 : Int))))) (Int.toNat (IntKind.wrap .i64 (k+(1 : Int))))))),(.int .i64 (tmE c off (fI (tmP c off) (n3 - (Int.toNat (IntKind.wrap .i64 (k+(1 : Int))))) (Int.toNat (IntKind.wrap .i64 (k+(1 : Int)))))))] [] (Hp.mk [o0,o1,(Ob.cells c true),(Ob.cells ⟨[(.slice a n z),(.slice b n2 z2),(.slice (some (Addr.mk 2 off none)) n3 1),(.int .i64 age),(.int .i64 shear)]⟩ false)] 97 []))))
 (some (Out.ex (Ex.exit 4) (St.mk [(.pointer (some (Addr.mk 3 0 none)))] [] (Hp.mk [o0,o1,(Ob.cells c true),(Ob.cells ⟨[(.slice a n z),(.slice b n2 z2),(.slice (some (Addr.mk 2 off none)) n3 1),(.int .i64 age),(.int .i64 shear)]⟩ false)] 97 [])))))
 none)
 none)
 none))
 none)
 none)
 none)
 none)
 (cond (Nat.blt (Nat.sub n3 (Int.toNat (IntKind.wrap .i64 (k+(1 : Int))))) M)
 (cond (eqCode (theLoop Try.prog 21 2) (theLoop Try.prog 21 2))
 (cond (okD a b n z n2 z2 c off n3 o0 o1 (IntKind.wrap .i64 (k+(1 : Int))))
 (cond (fB (tmP c off) (n3 - (Int.toNat (IntKind.wrap .i64 (k+(1 : Int))))) (Int.toNat (IntKind.wrap .i64 (k+(1 : Int)))))
 (some (Out.ex Ex.ret (St.mk [(.int .i64 (4 : Int)),(.int .i64 (Int.ofNat (fI (tmP c off) (n3 - (Int.toNat (IntKind.wrap .i64 (k+(1 : Int))))) (Int.toNat (IntKind.wrap .i64 (k+(1 : Int))))))),(.int .i64 (tmE c off (fI (tmP c off) (n3 - (Int.toNat (IntKind.wrap .i64 (k+(1 : Int))))) (Int.toNat (IntKind.wrap .i64 (k+(1 : Int)))))))] [] (Hp.mk [o0,o1,(Ob.cells c true),(Ob.cells ⟨[(.slice a n z),(.slice b n2 z2),(.slice (some (Addr.mk 2 off none)) n3 1),(.int .i64 age),(.int .i64 shear)]⟩ false)] 97 []))))
 (some (Out.ex (Ex.exit 4) (St.mk [(.pointer (some (Addr.mk 3 0 none)))] [] (Hp.mk [o0,o1,(Ob.cells c true),(Ob.cells ⟨[(.slice a n z),(.slice b n2 z2),(.slice (some (Addr.mk 2 off none)) n3 1),(.int .i64 age),(.int .i64 shear)]⟩ false)] 97 [])))))
 none)
 none)
 none)))
 (some (Out.ex Ex.ret (St.mk [(.int .i64 (4 : Int)),(.int .i64 k),(.int .i64 (7 : Int))] [] (Hp.mk [o0,o1,(Ob.cells c true),(Ob.cells ⟨[(.slice a n z),(.slice b n2 z2),(.slice (some (Addr.mk 2 off none)) n3 1),(.int .i64 age),(.int .i64 shear)]⟩ false)] 97 [])))))
 none)
 none)
 (some (Out.ex (Ex.exit 4) (St.mk [(.pointer (some (Addr.mk 3 0 none)))] [] (Hp.mk [o0,o1,(Ob.cells c true),(Ob.cells ⟨[(.slice a n z),(.slice b n2 z2),(.slice (some (Addr.mk 2 off none)) n3 1),(.int .i64 age),(.int .i64 shear)]⟩ false)] 97 [])))):=by kernel_rfl
theorem known21c : ∃ J,Known Try.prog (sh21c.ans J):=by
  refine Known.junk (Known.nothing _) (mesB 2 9) sh21c ?_
  intro J t f hs hkn
  unfold sh21c at hs
  split at hs
  case h_2=>cases hs
  rename_i code t o0 o1 c a n z b n2 z2 off n3 age shear G
  split at hs
  case h_2=>cases hs
  rename_i k er e1 e5
  simp only [Option.some.injEq] at hs
  subst hs
  refine ex_guard fun h1=>ex_guard fun h2=>ex_guard fun h4=>?_
  obtain rfl:=eqCode_eq h1
  have hl : t.length = 97:=Nat.eq_of_beq_eq_true h2
  obtain ⟨ha,hb,q0,q1,q2,hn3,hk0⟩:=dec_iff.1 h4
  have scs:=And.intro (slice_sc ha (show 3 ≤ 4 by decide)) (And.intro (slice_sc hb (show 3 ≤ 4 by decide)) (And.intro (allsc (n:=4) q2.1) (And.intro (grOb_sc (n:=4) q0) (And.intro (grOb_sc (n:=4) q1) (fun l z=>at2_sc (l:=l) (z:=z) (off:=off) (show 2 < 4 by decide))))))
  obtain ⟨k,rfl⟩:=Int.eq_ofNat_of_zero_le hk0
  have hsc2 : (([o0,o1,.cells c true,.cells ⟨[.slice a n z,.slice b n2 z2,.slice (some ⟨2,off,none⟩) n3 1,.int .i64 age,.int .i64 shear]⟩ false] : List Ob).all (obSc ([o0,o1,.cells c true,.cells ⟨[.slice a n z,.slice b n2 z2,.slice (some ⟨2,off,none⟩) n3 1,.int .i64 age,.int .i64 shear]⟩ false] : List Ob).length)) = true:=by simp [obSc_cells,scs,str_sc,int_sc]
  have hk2:=keptSelf hsc2
  have use:=fun e' vs hev he hvs=>hkn.loopLeaf (G:=G) noNG mixed (n:=60) (N0:=97) (N:=97) (live:=[(1,pp 3),(9,.int .i64 (Int.ofNat k))])
    (H0:=[o0,o1,.cells c true,.cells ⟨[.slice a n z,.slice b n2 z2,.slice (some ⟨2,off,none⟩) n3 1,.int .i64 age,.int .i64 shear]⟩ false]) (pick:=pick21) (e:=e') (vs:=vs)
    (base:=3) (wr:=[]) (wr1:=[]) (c:=theLoop Try.prog 21 2) (t:=t) hev hl (by
      intro kv hm
      simp only [List.mem_cons,List.not_mem_nil,or_false] at hm
      rcases hm with rfl | rfl
      · exact ⟨e1,rfl,rfl⟩
      · exact ⟨e5,rfl,rfl⟩) (by simp) hsc2 hk2 he hvs
  simp only [List.length_cons,List.length_nil,Nat.zero_add,Nat.reduceAdd] at use
  rw [tree21c] at use
  simp only [Int.ofNat_eq_natCast,Int.toNat_natCast] at use ⊢
  by_cases hin : (k : Int) < (n3 : Int)
  · obtain ⟨m,hm⟩ : ∃ m,n3 - k = m + 1:=⟨n3 - k - 1,by omega⟩
    have hw : IntKind.i64.wrap ((k : Int) + 1) = ((k + 1 : Nat) : Int):=by rw [wrap64_id (by omega) (by omega)]; rfl
    rw [hm]
    have hm' : n3 - (k + 1) = m:=by omega
    have hme : (Nat.sub n3 (k + 1)).blt (mesB 2 9 (.code none (.loop (theLoop Try.prog 21 2)) ⟨t,[],⟨o0 :: o1 :: .cells c true :: .cells ⟨[.slice a n z,.slice b n2 z2,.slice (some ⟨2,off,none⟩) n3 1,.int .i64 age,.int .i64 shear]⟩ false :: G,3,[]⟩⟩)) = true:=by
      simp only [mesB,e1,e5,Nat.blt_eq,Int.toNat_natCast]
      show n3 - (k + 1) < n3 - k
      omega
    have hok : okD a b n z n2 z2 c off n3 o0 o1 ↑(k + 1) = true:=dec_iff.2 ⟨ha,hb,q0,q1,q2,hn3,by omega⟩
    have hw2 : IntKind.i64.wrap ((k : Int) - 1) = (k : Int) - 1:=wrap64_id (by omega) (by omega)
    have hw3 : Int.toNat ((k : Int) - 1) = k - 1:=by omega
    have x0 : isInt .i64 c (off + k) = true:=isInt1 (q2.2 k (by omega))
    have x1 : isInt .i64 c (off + (k - 1)) = true:=isInt1 (q2.2 (k - 1) (by omega))
    have hE : tmE c off k = if inB (getInt c (off + k)) 1 100000000 = false then 7 else if 0 < k ∧ getInt c (off + k) ≤ getInt c (off + (k - 1)) then 2 else 0:=rfl
    have hpp : tmP c off k = !decide (tmE c off k = 0):=rfl
    simp only [hw,Int.toNat_natCast,hm',hin,decide_true,cond_true,Bool.true_and,Bool.and_self,Int.natCast_nonneg,eqCode_self,hme,Nat.add_zero,h4,hok,x0,x1,hw2,hw3,Nat.mul_one] at use
    cases hp : (tmP c off) k with
    | true =>
      rw [fB_hit hp,fI_hit hp]
      refine use .ret [.int .i64 4,.int .i64 k,.int .i64 (tmE c off k)] ?_ rfl rfl
      clear use hkn hk2 hsc2 hme hok h1 h2 h4 er q0 q1 q2 hl e1 e5 x0 x1 scs; rw [hp] at hpp; unfold inB at hE; repeat' refine cond_hd (fun _=>?_) (fun _=>?_)
      all_goals grind [pp]
    | false =>
      rw [fB_miss hp,fI_miss hp]
      cases hb : fB (tmP c off) m (k + 1) with
      | true =>
        rw [hb] at use
        refine use .ret [.int .i64 4,.int .i64 (Int.ofNat (fI (tmP c off) m (k + 1))),.int .i64 (tmE c off (fI (tmP c off) m (k + 1)))] ?_ rfl rfl
        clear use hkn hk2 hsc2 hme hok h1 h2 h4 er q0 q1 q2 hl e1 e5 x0 x1 scs; rw [hp] at hpp; unfold inB at hE; repeat' refine cond_hd (fun _=>?_) (fun _=>?_)
        all_goals grind [pp]
      | false =>
        rw [hb] at use
        refine use (.exit 4) [pp 3] ?_ rfl rfl
        clear use hkn hk2 hsc2 hme hok h1 h2 h4 er q0 q1 q2 hl e1 e5 x0 x1 scs; rw [hp] at hpp; unfold inB at hE; repeat' refine cond_hd (fun _=>?_) (fun _=>?_)
        all_goals grind [pp]
  · have h0 : n3 - k = 0:=by omega
    rw [h0]
    refine use (.exit 4) [pp 3] ?_ rfl rfl
    simp only [hin,decide_false,cond_false]
    try rfl
end
end Go.Proofs.Ytaglpbmnadlpgaa.Old

namespace Go.Proofs.Ytaglpbmnadlpgaa.Old
open Go.Gi Go.RowKit
noncomputable section
set_option maxRecDepth 100000
set_option linter.unusedSimpArgs false
set_option linter.unusedVariables false
def ckR (a b d : Option Addr) (n n2 n3 : Nat) (age shear : Int) (H : List Ob) : Int × Int × Int :=
  if 6 < n ∨ 60 < n2 ∨ n3 < 1 ∨ 20 < n3 then (1,0,3)
  else if fB (srP a H) n 0 = true then (2,Int.ofNat (fI (srP a H) n 0),srE a H (fI (srP a H) n 0))
  else if fB (soP a b n H) n2 0 = true then (3,Int.ofNat (fI (soP a b n H) n2 0),soE a b n H (fI (soP a b n H) n2 0))
  else if fB (tmP (arrOf d H) (offOf d)) n3 0 = true then (4,Int.ofNat (fI (tmP (arrOf d H) (offOf d)) n3 0),tmE (arrOf d H) (offOf d) (fI (tmP (arrOf d H) (offOf d)) n3 0))
  else if inB age 0 1000 = false ∨ inB shear 0 1000 = false then (5,0,7) else (0,0,0)
def c21 (a b d : Option Addr) (n z n2 z2 n3 z3 : Nat) (H : List Ob) : Bool:=dec (SliceL L7 a n z H ∧ SliceL L5 b n2 z2 H ∧ SliceL L1 d n3 z3 H ∧ NilOk a n z ∧ NilOk b n2 z2 ∧ NilOk d n3 z3)
def p21 (f : Nat) : Ans
  | .call g ⟨[.agg ⟨[.slice a n z,.slice b n2 z2,.slice d n3 z3,.int .i64 age,.int .i64 shear]⟩]⟩ h=>(match Nat.beq g f with
    | true=>some (.br (c21 a b d n z n2 z2 n3 z3 h.bl) (.leaf (.ret (.tuple ⟨[.int .i64 (ckR a b d n n2 n3 age shear h.bl).1,.int .i64 (ckR a b d n n2 n3 age shear h.bl).2.1,.int .i64 (ckR a b d n n2 n3 age shear h.bl).2.2]⟩) h)) .no)
    | false=>none)
  | _=>none
theorem sdE_zero (c0 : Array Value) (off0 : Nat) (c : Array Value) (off i : Nat) : sdE c0 off0 0 c off i = 4:=by
  unfold sdE
  rw [if_pos]
  unfold inB
  simp only [Bool.and_eq_false_iff,decide_eq_false_iff_not]
  omega
theorem ckR_congr {a b d a' b' d' : Option Addr} {n n2 n3 : Nat} {age shear : Int} {H H' : List Ob} (hA : n = 0 ∨ arrOf a' H' = arrOf a H) (hB : n2 = 0 ∨ arrOf b' H' = arrOf b H) (hD : arrOf d' H' = arrOf d H)
    (oA : offOf a' = offOf a) (oB : offOf b' = offOf b) (oD : offOf d' = offOf d) : ckR a' b' d' n n2 n3 age shear H' = ckR a b d n n2 n3 age shear H:=by
  have f0 : ∀ p,fB p 0 0 = false:=fun _=>rfl
  unfold ckR
  rw [hD,oD]
  have key : n2 = 0 ∨ soE a' b' n H' = soE a b n H:=by
    rcases hB with h | hB
    · exact .inl h
    · refine .inr (funext fun k=>?_)
      unfold soE
      rcases hA with rfl | hA
      · rw [sdE_zero,sdE_zero]
      · rw [hA,hB,oA,oB]
  have key2 : n = 0 ∨ srE a' H' = srE a H:=by
    rcases hA with h | hA
    · exact .inl h
    · refine .inr (funext fun k=>?_)
      unfold srE
      rw [hA,oA]
  have kp : n2 = 0 ∨ soP a' b' n H' = soP a b n H:=by
    rcases key with h | h
    · exact .inl h
    · refine .inr (funext fun k=>?_)
      unfold soP; rw [h]
  have kp2 : n = 0 ∨ srP a' H' = srP a H:=by
    rcases key2 with h | h
    · exact .inl h
    · refine .inr (funext fun k=>?_)
      unfold srP; rw [h]
  rcases key2 with rfl | h2
  · simp only [f0,Bool.false_eq_true,if_false]
    rcases key with rfl | h1
    · simp only [f0,Bool.false_eq_true,if_false]
    · rcases kp with rfl | h3
      · simp only [f0,Bool.false_eq_true,if_false]
      · rw [h1,h3]
  · rcases kp2 with rfl | h4
    · simp only [f0,Bool.false_eq_true,if_false]
      rcases key with rfl | h1
      · simp only [f0,Bool.false_eq_true,if_false]
      · rcases kp with rfl | h3
        · simp only [f0,Bool.false_eq_true,if_false]
        · rw [h1,h3]
    · rw [h2,h4]
      rcases key with rfl | h1
      · simp only [f0,Bool.false_eq_true,if_false]
      · rcases kp with rfl | h3
        · simp only [f0,Bool.false_eq_true,if_false]
        · rw [h1,h3]
theorem offOf_atB (k : Nat) (a : Option Addr) : offOf (atB k a) = offOf a:=by cases a <;> rfl
theorem pick_ob {L : List Leaf} {a : Option Addr} {n z : Nat} {H : List Ob} (hs : SliceL L a n z H) :
    ∃ o,ObAt o (blkOf a) H ∧ grOb o ∧ (n = 0 ∨ o = .cells (arrOf a H) true ∧ z = L.length ∧ GoodL L (arrOf a H) (offOf a) n ∧ ∃ b off,a = some ⟨b,off,none⟩):=by
  rcases hs with rfl | ⟨b,off,rfl,rfl,hc,hg⟩
  · exact ⟨.dead,.inl rfl,.inl rfl,.inl rfl⟩
  · exact ⟨.cells (cellsAt H b) true,.inr ⟨_,rfl,hg.1,cells_ok hc⟩,.inr ⟨_,rfl,hg.1⟩,.inr ⟨rfl,rfl,hg,b,off,rfl⟩⟩
theorem tree21m (J J2 J3 : Task → List Value) (o0 o1 : Ob) (c : Array Value) (off : Nat) (a b : Option Addr) (n z n2 z2 n3 : Nat) (age shear : Int) :
    evC Try.prog ((sh21a.ans J).or ((sh21b.ans J2).or (sh21c.ans J3))).c 60 (.call 21 ⟨[.agg ⟨[.slice a n z,.slice b n2 z2,.slice (some ⟨2,off,none⟩) n3 1,.int .i64 age,.int .i64 shear]⟩]⟩ ⟨[o0,o1,.cells c true],3,[]⟩) some =
    cond (decide ((6 : Int) < (Int.ofNat n)))
 (some (Out.ret (.tuple ⟨[(.int .i64 (1 : Int)),(.int .i64 (0 : Int)),(.int .i64 (3 : Int))]⟩) (Hp.mk [o0,o1,(Ob.cells c true)] 3 [])))
 (cond (decide ((60 : Int) < (Int.ofNat n2)))
 (some (Out.ret (.tuple ⟨[(.int .i64 (1 : Int)),(.int .i64 (0 : Int)),(.int .i64 (3 : Int))]⟩) (Hp.mk [o0,o1,(Ob.cells c true)] 3 [])))
 (cond (decide ((1 : Int) ≤ (Int.ofNat n3)))
 (cond (not (decide ((Int.ofNat n3) ≤ (20 : Int))))
 (some (Out.ret (.tuple ⟨[(.int .i64 (1 : Int)),(.int .i64 (0 : Int)),(.int .i64 (3 : Int))]⟩) (Hp.mk [o0,o1,(Ob.cells c true)] 3 [])))
 (cond (eqCode (theLoop Try.prog 21 0) (theLoop Try.prog 21 0))
 (cond (okC a b (some (Addr.mk 2 off none)) n z n2 z2 n3 1 o0 o1 (Ob.cells c true))
 (cond (ok0 (0 : Int))
 (cond (fB (srP a [o0,o1,(Ob.cells c true)]) (n - 0) 0)
 (some (Out.ret (.tuple ⟨[(.int .i64 (2 : Int)),(.int .i64 (Int.ofNat (fI (srP a [o0,o1,(Ob.cells c true)]) (n - 0) 0))),(.int .i64 (srE a [o0,o1,(Ob.cells c true)] (fI (srP a [o0,o1,(Ob.cells c true)]) (n - 0) 0)))]⟩) (Hp.mk [o0,o1,(Ob.cells c true)] 3 [])))
 (cond (eqCode (theLoop Try.prog 21 1) (theLoop Try.prog 21 1))
 (cond (okC a b (some (Addr.mk 2 off none)) n z n2 z2 n3 1 o0 o1 (Ob.cells c true))
 (cond (ok0 (0 : Int))
 (cond (fB (soP a b n [o0,o1,(Ob.cells c true)]) (n2 - 0) 0)
 (some (Out.ret (.tuple ⟨[(.int .i64 (3 : Int)),(.int .i64 (Int.ofNat (fI (soP a b n [o0,o1,(Ob.cells c true)]) (n2 - 0) 0))),(.int .i64 (soE a b n [o0,o1,(Ob.cells c true)] (fI (soP a b n [o0,o1,(Ob.cells c true)]) (n2 - 0) 0)))]⟩) (Hp.mk [o0,o1,(Ob.cells c true)] 3 [])))
 (cond (eqCode (theLoop Try.prog 21 2) (theLoop Try.prog 21 2))
 (cond (okD a b n z n2 z2 c off n3 o0 o1 (0 : Int))
 (cond (fB (tmP c off) (n3 - 0) 0)
 (some (Out.ret (.tuple ⟨[(.int .i64 (4 : Int)),(.int .i64 (Int.ofNat (fI (tmP c off) (n3 - 0) 0))),(.int .i64 (tmE c off (fI (tmP c off) (n3 - 0) 0)))]⟩) (Hp.mk [o0,o1,(Ob.cells c true)] 3 [])))
 (cond (decide ((0 : Int) ≤ age))
 (cond (not (decide (age ≤ (1000 : Int))))
 (some (Out.ret (.tuple ⟨[(.int .i64 (5 : Int)),(.int .i64 (0 : Int)),(.int .i64 (7 : Int))]⟩) (Hp.mk [o0,o1,(Ob.cells c true)] 3 [])))
 (cond (decide ((0 : Int) ≤ shear))
 (cond (not (decide (shear ≤ (1000 : Int))))
 (some (Out.ret (.tuple ⟨[(.int .i64 (5 : Int)),(.int .i64 (0 : Int)),(.int .i64 (7 : Int))]⟩) (Hp.mk [o0,o1,(Ob.cells c true)] 3 [])))
 (some (Out.ret (.tuple ⟨[(.int .i64 (0 : Int)),(.int .i64 (0 : Int)),(.int .i64 (0 : Int))]⟩) (Hp.mk [o0,o1,(Ob.cells c true)] 3 []))))
 (some (Out.ret (.tuple ⟨[(.int .i64 (5 : Int)),(.int .i64 (0 : Int)),(.int .i64 (7 : Int))]⟩) (Hp.mk [o0,o1,(Ob.cells c true)] 3 [])))))
 (some (Out.ret (.tuple ⟨[(.int .i64 (5 : Int)),(.int .i64 (0 : Int)),(.int .i64 (7 : Int))]⟩) (Hp.mk [o0,o1,(Ob.cells c true)] 3 [])))))
 none)
 none))
 none)
 none)
 none))
 none)
 none)
 none))
 (some (Out.ret (.tuple ⟨[(.int .i64 (1 : Int)),(.int .i64 (0 : Int)),(.int .i64 (3 : Int))]⟩) (Hp.mk [o0,o1,(Ob.cells c true)] 3 []))))):=by kernel_rfl
theorem tree21z (a b d : Option Addr) (n z n2 z2 z3 : Nat) (age shear : Int) :
    evC Try.prog (Ans.c fun _=>none) 60 (.call 21 ⟨[.agg ⟨[.slice a n z,.slice b n2 z2,.slice d 0 z3,.int .i64 age,.int .i64 shear]⟩]⟩ ⟨[.dead,.dead,.dead],3,[]⟩) some =
    cond (decide ((6 : Int) < (Int.ofNat n)))
 (some (Out.ret (.tuple ⟨[(.int .i64 (1 : Int)),(.int .i64 (0 : Int)),(.int .i64 (3 : Int))]⟩) (Hp.mk [Ob.dead,Ob.dead,Ob.dead] 3 [])))
 (cond (decide ((60 : Int) < (Int.ofNat n2)))
 (some (Out.ret (.tuple ⟨[(.int .i64 (1 : Int)),(.int .i64 (0 : Int)),(.int .i64 (3 : Int))]⟩) (Hp.mk [Ob.dead,Ob.dead,Ob.dead] 3 [])))
 (some (Out.ret (.tuple ⟨[(.int .i64 (1 : Int)),(.int .i64 (0 : Int)),(.int .i64 (3 : Int))]⟩) (Hp.mk [Ob.dead,Ob.dead,Ob.dead] 3 [])))):=by kernel_rfl
theorem ok0_0 : ok0 0 = true:=dec_iff.2 (Int.le_refl 0)
theorem known21 : Known Try.prog (p21 21):=by
  obtain ⟨J,hJ⟩:=known21a
  obtain ⟨J2,hJ2⟩:=known21b
  obtain ⟨J3,hJ3⟩:=known21c
  have hK:=hJ.or (hJ2.or hJ3)
  intro t xx o h ho
  unfold p21 at h
  split at h
  case h_2=>cases h
  rename_i g a n z b n2 z2 d n3 z3 age shear hp
  split at h
  case h_2=>cases h
  rename_i hgg
  obtain rfl:=Nat.eq_of_beq_eq_true hgg
  simp only [Option.some.injEq] at h
  subst h
  simp only [AT.out] at ho
  obtain ⟨hok,ho⟩:=cond_some ho
  simp only [Option.some.injEq] at ho
  subst ho
  obtain ⟨hs,hs2,hs3,na,nb,nd⟩:=dec_iff.1 hok
  clear hok
  have e0 : ∀ k,okR0 3 (.slice (atB 0 a) n k) = true:=fun k=>atB_okR (by decide)
  have e1 : ∀ k,okR0 3 (.slice (atB 1 b) n2 k) = true:=fun k=>atB_okR (by decide)
  have e2 : ∀ n k,okR0 3 (.slice (atB 2 d) n k) = true:=fun n k=>atB_okR (by decide)
  rcases Nat.eq_zero_or_pos n3 with rfl | hpos
  · refine frame3 (args1:=⟨[.agg ⟨[.slice (atB 0 a) n z,.slice (atB 1 b) n2 z2,.slice (atB 2 d) 0 z3,.int .i64 age,.int .i64 shear]⟩]⟩) (blkOf a) (blkOf b) (blkOf d) ((Known.nothing _).fact noNG mixed (n:=60) ?_) rfl
      (.inl rfl) (.inl rfl) (.inl rfl) ?_ ?_
    · refine (tree21z ..).trans ?_
      unfold ckR
      rw [if_pos (by omega)]
      repeat' refine cond_hd (fun _=>?_) (fun _=>?_)
      all_goals rfl
    · simp only [List.map_toArray,List.map_cons,List.map_nil,ren1,ren0]
      rw [atB_ren (by simp),atB_ren (by simp),atB_ren (by simp)]
    · simp only [List.all_cons,List.all_nil,okR1,e0,e1,e2]; rfl
  obtain ⟨o0,at0,gr0,c0⟩:=pick_ob hs
  obtain ⟨o1,at1,gr1,c1⟩:=pick_ob hs2
  rcases hs3 with rfl | ⟨b2,off,rfl,rfl,hc,hgood⟩
  · omega
  refine frame3 (args1:=⟨[.agg ⟨[.slice (atB 0 a) n z,.slice (atB 1 b) n2 z2,.slice (some ⟨2,off,none⟩) n3 1,.int .i64 age,.int .i64 shear]⟩]⟩) (o0:=o0) (o1:=o1) (o2:=.cells (cellsAt hp.bl b2) true) (blkOf a) (blkOf b) b2 (hK.fact noNG mixed (n:=60) ?_) rfl
    at0 at1 (.inr ⟨_,rfl,hgood.1,cells_ok hc⟩) ?_ ?_
  · refine (tree21m ..).trans ?_
    have hcong : ckR (atB 0 a) (atB 1 b) (some ⟨2,off,none⟩) n n2 n3 age shear [o0,o1,.cells (cellsAt hp.bl b2) true] = ckR a b (some ⟨b2,off,none⟩) n n2 n3 age shear hp.bl:=by
      refine ckR_congr ?_ ?_ rfl (offOf_atB ..) (offOf_atB ..) rfl
      · rcases c0 with h | ⟨rfl,_,_,b,off,rfl⟩
        · exact .inl h
        · exact .inr rfl
      · rcases c1 with h | ⟨rfl,_,_,b,off,rfl⟩
        · exact .inl h
        · exact .inr rfl
    have sa : SliceL L7 (atB 0 a) n z [o0,o1,.cells (cellsAt hp.bl b2) true]:=by
      rcases c0 with h | ⟨rfl,rfl,hg,b,off,rfl⟩
      · exact .inl h
      · exact .inr ⟨0,off,rfl,rfl,rfl,hg⟩
    have sb : SliceL L5 (atB 1 b) n2 z2 [o0,o1,.cells (cellsAt hp.bl b2) true]:=by
      rcases c1 with h | ⟨rfl,rfl,hg,b,off,rfl⟩
      · exact .inl h
      · exact .inr ⟨1,off,rfl,rfl,rfl,hg⟩
    rw [← hcong]
    have k1 : n ≤ 6 → n2 ≤ 60 → n3 ≤ 20 → okC (atB 0 a) (atB 1 b) (some ⟨2,off,none⟩) n z n2 z2 n3 1 o0 o1 (.cells (cellsAt hp.bl b2) true) = true:=fun h1 h2 h3 =>
      dec_iff.2 ⟨atB_sc (by decide) na,atB_sc (by decide) nb,at2_sc (by decide),gr0,gr1,.inr ⟨_,rfl,hgood.1⟩,sa,sb,h1,h2,h3⟩
    have k2 : n3 ≤ 20 → okD (atB 0 a) (atB 1 b) n z n2 z2 (cellsAt hp.bl b2) off n3 o0 o1 0 = true:=fun h3 =>
      dec_iff.2 ⟨atB_sc (by decide) na,atB_sc (by decide) nb,gr0,gr1,hgood,h3,by omega⟩
    clear hJ hJ2 hJ3 hK hcong sa sb hgood hc e0 e1 e2 na nb nd c0 c1 at0 at1 gr0 gr1 hs hs2 hpos
    simp only [Int.ofNat_eq_natCast,eqCode_self,ok0_0,cond_true,Nat.sub_zero]
    unfold ckR
    have p1 : arrOf (some ⟨2,off,none⟩) [o0,o1,.cells (cellsAt hp.bl b2) true] = cellsAt hp.bl b2:=rfl
    have p2 : offOf (some ⟨2,off,none⟩) = off:=rfl
    rw [p1,p2]
    by_cases h1 : 6 < n
    · have h1' : (6 : Int) < n:=by omega
      simp only [h1,h1',decide_true,cond_true,true_or,if_true]
    have h1' : ¬ (6 : Int) < n:=by omega
    by_cases h2 : 60 < n2
    · have h2' : (60 : Int) < n2:=by omega
      simp only [h1',h2,h2',decide_true,decide_false,cond_true,cond_false,true_or,or_true,if_true]
    have h2' : ¬ (60 : Int) < n2:=by omega
    by_cases h3 : n3 < 1
    · have h3' : ¬ (1 : Int) ≤ n3:=by omega
      simp only [h1',h2',h3,h3',decide_true,decide_false,cond_true,cond_false,true_or,or_true,if_true]
    have h3' : (1 : Int) ≤ n3:=by omega
    by_cases h4 : 20 < n3
    · have h4' : ¬ (n3 : Int) ≤ 20:=by omega
      simp only [h1',h2',h3',h4,h4',Bool.not_false,decide_true,decide_false,cond_true,cond_false,true_or,or_true,if_true]
    have h4' : (n3 : Int) ≤ 20:=by omega
    simp only [h1,h2,h3,h4,h1',h2',h3',h4',k1 (by omega) (by omega) (by omega),k2 (by omega),Bool.not_true,decide_true,decide_false,cond_true,cond_false,or_self,if_false]
    clear k1 k2
    repeat' refine cond_hd (fun _=>?_) (fun _=>?_)
    all_goals simp_all [inB]
    all_goals (rw [if_pos (by omega)]; simp)
  · simp only [List.map_toArray,List.map_cons,List.map_nil,ren1,ren0]
    rw [atB_ren (by simp),atB_ren (by simp)]; rfl
  · simp only [List.all_cons,List.all_nil,okR1,e0,e1]; rfl
end
end Go.Proofs.Ytaglpbmnadlpgaa.Old

namespace Go.Proofs.Ytaglpbmnadlpgaa.Old
open Go.Gi Go.RowKit
noncomputable section
def exS (c : Array Value) (off : Nat) (x0 : Int) : Nat → Bool
  | 0=>false
  | m + 1=>if getInt c (off + m * 5) = x0 then true else exS c off x0 m
def flS (c : Array Value) (off : Nat) (x0 x1 x2 : Int) : Nat → Bool
  | 0=>false
  | m + 1=>if getInt c (off + m * 5) = x0 then decide (x1 < getInt c (off + m * 5 + 1)) || decide (x2 < getInt c (off + m * 5 + 2)) else flS c off x0 x1 x2 m
def ok106 (off : Nat) (c : Array Value) (n : Nat) (i : Int) : Bool:=dec (GoodL L5 c off n ∧ -1 ≤ i ∧ i < n ∧ n ≤ 60)
def sh106 : Shape
  | .code none (.loop code) ⟨t,[],⟨.cells c true :: .cells ⟨[.int .i64 x0,.int .i64 x1,.int .i64 x2,.int .i64 x3,.int .i64 x4]⟩ false :: G,1,[]⟩⟩ =>
    match Nat.beq (firstReg code) 2,lget t 0,lget t 3,lget t 5 with
    | true,.slice (some ⟨0,off,none⟩) n 5,.pointer (some ⟨1,0,none⟩),.int .i64 i=>some fun j =>
      .br (eqCode code (theLoop Try.prog 106 0)) (.br (Nat.beq t.length 35) (.br (ok106 off c n i)
 (.br (exS c off x0 (Int.toNat (i+1)))
          (loopEnd 35 .ret [(4,.bool (flS c off x0 x1 x2 (Int.toNat (i + 1))))] ⟨.cells c true :: .cells ⟨[.int .i64 x0,.int .i64 x1,.int .i64 x2,.int .i64 x3,.int .i64 x4]⟩ false :: G,1,[]⟩ j)
          (loopEnd 35 (.exit 0) [] ⟨.cells c true :: .cells ⟨[.int .i64 x0,.int .i64 x1,.int .i64 x2,.int .i64 x3,.int .i64 x4]⟩ false :: G,1,[]⟩ j)) .no) .no) .no
    | _,_,_,_=>none
  | _=>none
def mes106 : Task → Nat
  | .code _ _ s=>match lget s.t 5 with
    | .int _ i=>Int.toNat (i + 1)
    | _=>0
  | _=>0
def pick106 : Ex → List Nat
  | .ret=>[4]
  | _=>[]
end
end Go.Proofs.Ytaglpbmnadlpgaa.Old

