/- WindAt: its plain function gives true. Conditions: none. -/
import Derived.Test.YtjdidbnmkogflaaMg6
import Derived.Test.YtjdidbnmkogflaaMg9
import Derived.Test.YtjdidbnmkogflaaMg12
import Derived.Test.YtjdidbnmkogflaaMg13
import Derived.Test.YtjdidbnmkogflaaMg14
import Derived.Test.YtjdidbnmkogflaaMg11
namespace Go.Proofs.Ytjdidbnmkogflaa
open Go.Gi Go.RowKit Go.Proofs.Ytjdidbnmkogflaa.Old
noncomputable section
set_option maxRecDepth 100000
set_option maxHeartbeats 4000000
set_option linter.unusedVariables false
set_option linter.unusedSimpArgs false
structure X44_0 where
  (v0:Array Value)
  (v1 v2:Nat)
  (v3:Array Value)
  (v4 v5:Nat)
  (v6:Int)
inductive D44_0 where
  | k0 (d0:Bool)
  | k1
noncomputable def Lp44_0 : LoopOf X44_0 D44_0 where
  c:=(theLoop Try.prog 44 0)
  N:=26
  M:=0
  S:=[0,1,5]
  sl:=fun x=>[(lstV x.v0 x.v1 x.v2 6),(lstV x.v3 x.v4 x.v5 6),(.int .i64 x.v6)]
  hp:=fun x=>[]
  ex:=fun d=>match d with | .k0 ..=>.ret | .k1 ..=>.exit 0
  pick:=fun e=>match e with | .ret=>[4] | .exit 0=>[] | _=>[]
  dv:=fun d=>match d with | .k0 d0=>[(.bool d0)] | .k1 =>[]
  dh:=fun d=>match d with | .k0 d0=>[] | .k1 =>[]
theorem ok44_0 : Lp44_0.Ok:=⟨fun x=>rfl,fun x=>rfl,fun x=>rfl,fun x=>rfl,fun d=>by cases d <;> rfl,fun d=>by cases d <;> rfl,fun d=>by cases d <;> rfl,fun d=>by cases d <;> (intro h; cases h),fun d=>by cases d <;> rfl,fun d=>by cases d <;> rfl⟩
noncomputable def rd44_0 (x:X44_0) : RT (Sum X44_0 D44_0):=match x with
  | ⟨v0,v1,v2,v3,v4,v5,v6⟩ =>
     .br (decide (v6 < (Int.ofNat v2)))
     (.br (and (decide ((0 : Int) ≤ v6)) (decide (v6 < (Int.ofNat v2))))
     (.br (rdOk v0 [(Leaf.int .i64),(Leaf.int .i64),(Leaf.int .i64),(Leaf.int .i64),(Leaf.int .i64),(Leaf.int .i64)] (v1+((Int.toNat v6)*6)))
     (.br (and (decide ((0 : Int) ≤ v6)) (decide (v6 < (Int.ofNat v5))))
     (.br (rdOk v3 [(Leaf.int .i64),(Leaf.int .i64),(Leaf.int .i64),(Leaf.int .i64),(Leaf.int .i64),(Leaf.int .i64)] (v4+((Int.toNat v6)*6)))
     (.br (not (and (decide ((getInt v0 (v1+((Int.toNat v6)*6))) = (getInt v3 (v4+((Int.toNat v6)*6))))) (and (decide ((getInt v0 ((v1+((Int.toNat v6)*6))+1)) = (getInt v3 ((v4+((Int.toNat v6)*6))+1)))) (and (and (decide ((getInt v0 (((v1+((Int.toNat v6)*6))+1)+1)) = (getInt v3 (((v4+((Int.toNat v6)*6))+1)+1)))) (and (decide ((getInt v0 ((((v1+((Int.toNat v6)*6))+1)+1)+1)) = (getInt v3 ((((v4+((Int.toNat v6)*6))+1)+1)+1)))) true)) (and (and (decide ((getInt v0 (((((v1+((Int.toNat v6)*6))+1)+1)+1)+1)) = (getInt v3 (((((v4+((Int.toNat v6)*6))+1)+1)+1)+1)))) (and (decide ((getInt v0 ((((((v1+((Int.toNat v6)*6))+1)+1)+1)+1)+1)) = (getInt v3 ((((((v4+((Int.toNat v6)*6))+1)+1)+1)+1)+1)))) true)) true)))))
     (.leaf (.inr (.k0 false)))
     (.leaf (.inl ⟨v0,v1,v2,v3,v4,v5,(IntKind.wrap .i64 (v6+(1 : Int)))⟩)))
     (.no))
     (.no))
     (.no))
     (.no))
     (.leaf (.inr (.k1)))
theorem T44_0  (y : List Value) (v0 : Array Value) (v1 v2:Nat) (v3 : Array Value) (v4 v5:Nat) (v6 : Int) : evC Try.prog (Ans.c (fun _=>none : Ans)) 60 (.code none (theLoop Try.prog 44 0) ⟨sets (junkF 26 y) [(0,(lstV v0 v1 v2 6)),(1,(lstV v3 v4 v5 6)),(5,(.int .i64 v6))],[],⟨[],0,[]⟩⟩) (sumK 0 26 Lp44_0.pk) = (rd44_0 ⟨v0,v1,v2,v3,v4,v5,v6⟩).out Lp44_0.enc:=by kernel_rfl
noncomputable def L44_0 (x:X44_0) : Option D44_0:=loopR rd44_0 x
section
variable (x:X44_0)
noncomputable def L44_0_k0 : Bool:=match L44_0 x with | some (.k0 ..)=>true | _=>false
noncomputable def L44_0_k0_0 : Bool:=match L44_0 x with | some (.k0 d)=>d | _=>false
noncomputable def L44_0_k1 : Bool:=match L44_0 x with | some (.k1 ..)=>true | _=>false
end
noncomputable def dec44_0 : Task → Option (Code × X44_0)
  | .code none (.loop code) ⟨t,[],⟨[],0,[]⟩⟩ =>
    (match Nat.beq (firstReg code) 4,lenIs t 26,lget t 0,lget t 1,lget t 5 with
    | true,true,(.func (.via 0 ⟨[]⟩ 0 true) v0 ⟨[.slice (some ⟨0,v1,none⟩) v2 6]⟩),(.func (.via 0 ⟨[]⟩ 0 true) v3 ⟨[.slice (some ⟨0,v4,none⟩) v5 6]⟩),(.int .i64 v6)=>some (code,⟨v0,v1,v2,v3,v4,v5,v6⟩)
    | _,_,_,_,_=>none)
  | _=>none
noncomputable def alt44_0 (x:X44_0) (j : List Value) : AT:=.br (L44_0_k0 x) (loopEnd 26 (.ret) [(4,(.bool (L44_0_k0_0 x)))] ⟨[],0,[]⟩ j) (.br (L44_0_k1 x) (loopEnd 26 (.exit 0) [] ⟨[],0,[]⟩ j) (.no))
noncomputable def la44_0 (J : Task → List Value) : Ans:=loopAns Lp44_0.c dec44_0 alt44_0 J
theorem ha44_0 : ∀ (x:X44_0) (j : List Value) (o:Out),(alt44_0 x j).out = some o → ∃ d,loopR rd44_0 x = some d ∧ o = Lp44_0.tail d j:=by
  intro x j o h
  unfold alt44_0 at h
  cases hL : L44_0 x with
  | none=>simp [L44_0_k0,L44_0_k0_0,L44_0_k1,hL,AT.out] at h
  | some d =>
    refine ⟨d,hL,?_⟩
    cases d <;> (simp only [L44_0_k0,L44_0_k0_0,L44_0_k1,hL,AT.out,loopEnd,cond_true,cond_false,Option.some.injEq] at h; rw [← h]; rfl)
theorem hd44_0 : ∀ (t:Task) (c:Code) (x:X44_0),dec44_0 t = some (c,x) → c = Lp44_0.c → ∃ T,t = .code none (.loop Lp44_0.c) ⟨T,[],⟨Lp44_0.hp x,0,[]⟩⟩ ∧ T.length = Lp44_0.N ∧ ∀ kv ∈ Lp44_0.S.zip (Lp44_0.sl x),lget T kv.1 = kv.2:=by
  intro t c x h hc
  unfold dec44_0 at h
  split at h
  case h_2=>cases h
  split at h
  case h_2=>cases h
  simp only [Option.some.injEq,Prod.mk.injEq] at h
  obtain ⟨rfl,rfl⟩:=h
  subst hc
  refine ⟨_,rfl,lenIs_eq _ _ (by assumption),?_⟩
  intro kv hk
  simp only [Lp44_0,List.zip_cons_cons,List.zip_nil_right,List.mem_cons,List.not_mem_nil,or_false] at hk
  rcases hk with rfl | rfl | rfl <;> assumption
theorem kl44_0 : ∃ J,Known Try.prog (la44_0 J):=by
  exact LoopOf.known noNG mixed ok44_0 (by decide) (by decide) (Known.nothing Try.prog) (n:=60) (rd:=rd44_0) (fun x j=>T44_0  j x.v0 x.v1 x.v2 x.v3 x.v4 x.v5 x.v6) dec44_0 alt44_0 hd44_0 ha44_0
structure R44 where
  (r0:Bool)
structure A44 where
  (a0:Array Value)
  (a1 a2:Nat)
  (a3:Array Value)
  (a4 a5:Nat)
noncomputable def rt44 (a0 : Array Value) (a1 a2:Nat) (a3 : Array Value) (a4 a5:Nat) : RT R44 :=
  .br (not (decide ((Int.ofNat a2) = (Int.ofNat a5))))
  (.leaf ⟨false⟩)
  (.br (eqCode (Lp44_0.c) (Lp44_0.c))
   (.br (L44_0_k0 (X44_0.mk a0 a1 a2 a3 a4 a5 (0 : Int)))
    (.leaf ⟨(L44_0_k0_0 (X44_0.mk a0 a1 a2 a3 a4 a5 (0 : Int)))⟩)
    (.br (L44_0_k1 (X44_0.mk a0 a1 a2 a3 a4 a5 (0 : Int)))
     (.leaf ⟨true⟩)
     (.no)))
   (.no))
noncomputable def en44 (r:R44) : Value:=(.bool r.r0)
theorem T44 (J0 : Task → List Value) (a0 : Array Value) (a1 a2:Nat) (a3 : Array Value) (a4 a5:Nat) : evC Try.prog (Ans.c (la44_0 J0)) 60 (.call 44 ⟨[(lstV a0 a1 a2 6),(lstV a3 a4 a5 6)]⟩ ⟨[],0,[]⟩) (frzK [0]) = (rt44 a0 a1 a2 a3 a4 a5).out (fun r=>.ret (en44 r) ⟨[],0,[]⟩):=by kernel_rfl
noncomputable def F44 (a0 : Array Value) (a1 a2:Nat) (a3 : Array Value) (a4 a5:Nat) : Option R44:=(rt44 a0 a1 a2 a3 a4 a5).val
section
variable (a0 : Array Value) (a1 a2:Nat) (a3 : Array Value) (a4 a5:Nat)
noncomputable def F44_ok : Bool:=(F44 a0 a1 a2 a3 a4 a5).isSome
noncomputable def F44_0 : Bool:=match F44 a0 a1 a2 a3 a4 a5 with | some r=>r.r0 | none=>false
end
noncomputable def dec44 : Task → Option (A44 × Hp)
  | .call g ⟨[(.func (.via 0 ⟨[]⟩ 0 true) a0 ⟨[.slice (some ⟨0,a1,none⟩) a2 6]⟩),(.func (.via 0 ⟨[]⟩ 0 true) a3 ⟨[.slice (some ⟨0,a4,none⟩) a5 6]⟩)]⟩ h=>(match Nat.beq g 44 with | true=>some (⟨a0,a1,a2,a3,a4,a5⟩,h) | false=>none)
  | _=>none
noncomputable def alt44 (x:A44) (h:Hp) : AT:=.br (F44_ok x.a0 x.a1 x.a2 x.a3 x.a4 x.a5) (.leaf (.ret (.bool (F44_0 x.a0 x.a1 x.a2 x.a3 x.a4 x.a5)) h)) .no
noncomputable def p44 : Ans:=fnAns dec44 alt44
theorem ha44 : ∀ (x:A44) (h:Hp) (o:Out),(alt44 x h).out = some o → ∃ r,(rt44 x.a0 x.a1 x.a2 x.a3 x.a4 x.a5).val = some r ∧ o = .ret (en44 r) h:=by
  intro x h o e
  unfold alt44 at e
  cases hF : F44 x.a0 x.a1 x.a2 x.a3 x.a4 x.a5 with
  | none=>simp [F44_ok,hF,AT.out] at e
  | some r =>
    refine ⟨r,hF,?_⟩
    simp only [F44_ok,F44_0,hF,AT.out,Option.isSome_some,cond_true,Option.some.injEq] at e
    rw [← e]; rfl
theorem hd44 : ∀ (t:Task) (x:A44) (h:Hp),dec44 t = some (x,h) → t = .call 44 ⟨[(lstV x.a0 x.a1 x.a2 6),(lstV x.a3 x.a4 x.a5 6)]⟩ h:=by
  intro t x h e
  unfold dec44 at e
  split at e
  case h_2=>cases e
  split at e
  case h_2=>cases e
  rename_i hg
  simp only [Option.some.injEq,Prod.mk.injEq] at e
  obtain ⟨rfl,rfl⟩:=e
  rw [Nat.eq_of_beq_eq_true hg]
theorem known44 : Known Try.prog p44:=by
  obtain ⟨J0,hJ0⟩:=kl44_0
  exact Known.fn noNG mixed hJ0 (n:=60) (zs:=[0]) 44 (fun x : A44=>[(lstV x.a0 x.a1 x.a2 6),(lstV x.a3 x.a4 x.a5 6)]) (fun x=>rt44 x.a0 x.a1 x.a2 x.a3 x.a4 x.a5) en44 (fun x=>T44 J0 x.a0 x.a1 x.a2 x.a3 x.a4 x.a5) (fun x=>rfl) dec44 alt44 hd44 ha44
end
end Go.Proofs.Ytjdidbnmkogflaa

namespace Go.Proofs.Ytjdidbnmkogflaa
open Go.Gi Go.RowKit
noncomputable section
set_option maxRecDepth 100000
abbrev L6s : List Leaf:=[.int .i64,.int .i64,.int .i64,.int .i64,.int .i64,.int .i64]
theorem loop44 {c : Array Value} {o n : Nat} (hc : ∀ i,i < n → rdOk c L6s (o + i * 6) = true) (hn : n ≤ maxLen) : ∀ (k : Nat) (i : Nat),i + k = n →
    loopR rd44_0 ⟨c,o,n,c,o,n,(i : Int)⟩ = some .k1
  | 0,i,h=>loopR_done (by
      have h1 : ¬ ((i : Int) < (n : Int)):=by omega
      simp [rd44_0,RT.val,h1])
  | k + 1,i,h=>by
    refine (loopR_next (y:=⟨c,o,n,c,o,n,((i + 1 : Nat) : Int)⟩) ?_).trans (loop44 hc hn k (i + 1) (by omega))
    have h1 : ((i : Int) < (n : Int)):=by omega
    have h2 : (0 : Int) ≤ (i : Int):=by omega
    have hm : maxLen = 9223372036854775807:=rfl
    have h3 : IntKind.wrap .i64 ((i : Int) + 1) = ((i + 1 : Nat) : Int):=by
      rw [wrap64_id (by omega) (by omega)]; omega
    have h4 : rdOk c L6s (o + i * 6) = true:=hc i (by omega)
    simp [rd44_0,RT.val,h1,h2,h3,h4]
theorem spans_self {c : Array Value} {o n : Nat} (hc : ∀ i,i < n → rdOk c L6s (o + i * 6) = true) (hn : n ≤ maxLen) : (rt44 c o n c o n).val = some ⟨true⟩:=by
  have h:=loop44 hc hn n 0 (by omega)
  have h1 : L44_0 ⟨c,o,n,c,o,n,0⟩ = some .k1:=h
  simp [rt44,RT.val,eqCode_self,L44_0_k0,L44_0_k1,h1]
theorem F44_self {c : Array Value} {o n : Nat} (hc : ∀ i,i < n → rdOk c L6s (o + i * 6) = true) (hn : n ≤ maxLen) : F44_ok c o n c o n = true ∧ F44_0 c o n c o n = true:=by
  have h : F44 c o n c o n = some ⟨true⟩:=spans_self hc hn
  exact ⟨by simp [F44_ok,h],by simp [F44_0,h]⟩
end
end Go.Proofs.Ytjdidbnmkogflaa

namespace Go.Proofs.Ytjdidbnmkogflaa
open Go.Gi Go.RowKit Go.Proofs.Ytjdidbnmkogflaa.Old
noncomputable section
set_option maxRecDepth 100000
set_option linter.unusedVariables false
set_option linter.unusedSimpArgs false
structure Bd where
  f : Int
  t : Int
  xl : Int
  xh : Int
  yl : Int
  yh : Int
def Bd.row (b : Bd) : List Value:=[.int .i64 b.f,.int .i64 b.t,.int .i64 b.xl,.int .i64 b.xh,.int .i64 b.yl,.int .i64 b.yh]
def rowsB : List Bd → List Value
  | []=>[]
  | b :: r=>b.row ++ rowsB r
def arrB (L : List Bd) : Array Value:=⟨rowsB L⟩
theorem rowsB_app : ∀ L M : List Bd,rowsB (L ++ M) = rowsB L ++ rowsB M
  | [],_=>rfl
  | b :: r,M=>by simp only [List.cons_append,rowsB,rowsB_app r M,List.append_assoc]
theorem rowsB_len : ∀ L : List Bd,(rowsB L).length = L.length * 6
  | []=>rfl
  | b :: r=>by simp only [rowsB,List.length_append,rowsB_len r,List.length_cons,Bd.row,List.length_nil]; omega
def encB (L : List Bd) : Option (Array Value × Nat):=match L with
  | []=>none
  | a :: r=>some (arrB (a :: r),(a :: r).length)
theorem apB_arrB (L : List Bd) (b : Bd) : apB (Array.extract (arrB L) 0 (0 + (L.length * 6))) (Array.extract ⟨b.row⟩ 0 6) = arrB (L ++ [b]):=by
  simp only [apB,arrB,Nat.zero_add,List.extract_toArray,rowsB_app]
  rw [List.extract_eq_take_drop,List.extract_eq_take_drop]
  simp only [List.drop_zero,Nat.sub_zero,rowsB,List.append_nil]
  rw [List.take_of_length_le (by rw [rowsB_len]; omega),List.take_of_length_le (by simp [Bd.row])]
  simp
theorem allFz_arrB : ∀ L : List Bd,allFz (arrB L) = true:=by
  intro L
  simp only [allFz,arrB]
  induction L with
  | nil=>rfl
  | cons b r ih=>simp only [rowsB,List.all_append,ih,Bool.and_true]; rfl
theorem size_arrB (L : List Bd) : (arrB L).size = L.length * 6:=rowsB_len L
theorem drop_rows : ∀ (L : List Bd) (i : Nat) (h : i < L.length),∃ r,(rowsB L).drop (i * 6) = (L[i]).row ++ r
  | b :: r,0,_=>⟨rowsB r,rfl⟩
  | b :: r,i + 1,h=>by
    obtain ⟨q,e⟩:=drop_rows r i (by simpa using h)
    refine ⟨q,?_⟩
    rw [show (i + 1) * 6 = 6 + i * 6 by omega]
    show (b.row ++ rowsB r).drop (6 + i * 6) = _
    rw [← List.drop_drop]
    exact e
theorem lget_drop (l : List Value) (i j : Nat) : lget (l.drop i) j = lget l (i + j):=by
  rw [lget_eq,lget_eq]
  simp [Array.getD_eq_getD_getElem?,List.getElem?_drop]
theorem rdOk_arrB (L : List Bd) {i : Nat} (h : i < L.length) : rdOk (arrB L) L6s (0 + i * 6) = true:=by
  obtain ⟨r,e⟩:=drop_rows L i h
  have g : ∀ j,lget (rowsB L) (i * 6 + j) = lget ((L[i]).row ++ r) j:=fun j=>by rw [← e,lget_drop]
  have g0:=g 0
  have g1:=g 1
  have g2:=g 2
  have g3:=g 3
  have g4:=g 4
  have g5:=g 5
  simp only [Nat.add_zero] at g0
  simp only [rdOk,rdLeaf,isInt,arrB,Nat.zero_add,Nat.add_assoc,Nat.reduceAdd,g0,g1,g2,g3,g4,g5]
  rfl
def bnds (c0 c c3 : Array Value) (n n2 : Nat) (age shear tick now : Int) : Nat → Nat → Option (List Bd)
  | 0,_=>some []
  | m + 1,k=>match ansO c0 c n n2 age shear (wLo c3 (k : Int)) (wHi c3 (k : Int)) tick now with
    | none=>none
    | some h=>match bnds c0 c c3 n n2 age shear tick now m (k + 1) with
      | none=>none
      | some R=>some (⟨wLo c3 (k : Int),getInt c3 k,h.xl,h.xh,h.yl,h.yh⟩ :: R)
section
variable {c0 c c3 : Array Value} {n n2 n3 : Nat} {age shear lo hi tick now : Int}
theorem bnds_len : ∀ m k R,bnds c0 c c3 n n2 age shear tick now m k = some R → R.length = m
  | 0,k,R,h=>by simp only [bnds,Option.some.injEq] at h; subst h; rfl
  | m + 1,k,R,h=>by
    unfold bnds at h
    split at h
    · cases h
    · split at h
      · cases h
      · rename_i R' h'
        simp only [Option.some.injEq] at h
        subst h
        simp only [List.length_cons,bnds_len m (k + 1) R' h']
theorem F92_some {h : Hd} (hv : Vld c0 0 n c 0 n2 age shear) (h81 : F81ok c0 0 n c 0 n2 c3 0 n3 age shear lo hi tick now = true) (e : ansO c0 c n n2 age shear lo hi tick now = some h) :
    F92_ok c0 0 n c 0 n2 c3 0 n3 age shear lo hi tick now = true ∧ F92_0 c0 0 n c 0 n2 c3 0 n3 age shear lo hi tick now = h.xl ∧ F92_1 c0 0 n c 0 n2 c3 0 n3 age shear lo hi tick now = h.xh ∧
    F92_2 c0 0 n c 0 n2 c3 0 n3 age shear lo hi tick now = h.yl ∧ F92_3 c0 0 n c 0 n2 c3 0 n3 age shear lo hi tick now = h.yh ∧ F92_4 c0 0 n c 0 n2 c3 0 n3 age shear lo hi tick now = true:=by
  have q:=F92_eq hv h81
  rw [e] at q
  exact ⟨by simp [F92_ok,q],by simp [F92_0,q],by simp [F92_1,q],by simp [F92_2,q],by simp [F92_3,q],by simp [F92_4,q]⟩
theorem F92_none (hv : Vld c0 0 n c 0 n2 age shear) (h81 : F81ok c0 0 n c 0 n2 c3 0 n3 age shear lo hi tick now = true) (e : ansO c0 c n n2 age shear lo hi tick now = none) :
    F92_ok c0 0 n c 0 n2 c3 0 n3 age shear lo hi tick now = true ∧ F92_4 c0 0 n c 0 n2 c3 0 n3 age shear lo hi tick now = false:=by
  have q:=F92_eq hv h81
  rw [e] at q
  exact ⟨by simp [F92_ok,q],by simp [F92_4,q]⟩
theorem F93_some {h : Hd} (hv : Vld c0 0 n c 0 n2 age shear) (hq : Qst lo hi tick now) (e : ansO c0 c n n2 age shear lo hi tick now = some h) :
    F93_ok c0 0 n c 0 n2 c3 0 n3 age shear lo hi tick now = true ∧ F93_0 c0 0 n c 0 n2 c3 0 n3 age shear lo hi tick now = h.xl ∧ F93_1 c0 0 n c 0 n2 c3 0 n3 age shear lo hi tick now = h.xh ∧
    F93_2 c0 0 n c 0 n2 c3 0 n3 age shear lo hi tick now = h.yl ∧ F93_3 c0 0 n c 0 n2 c3 0 n3 age shear lo hi tick now = h.yh ∧ F93_4 c0 0 n c 0 n2 c3 0 n3 age shear lo hi tick now = true:=by
  have q:=F93_eq (c3:=c3) (n3:=n3) hv hq
  rw [e] at q
  exact ⟨by simp [F93_ok,q],by simp [F93_0,q],by simp [F93_1,q],by simp [F93_2,q],by simp [F93_3,q],by simp [F93_4,q]⟩
theorem F93_none (hv : Vld c0 0 n c 0 n2 age shear) (hq : Qst lo hi tick now) (e : ansO c0 c n n2 age shear lo hi tick now = none) :
    F93_ok c0 0 n c 0 n2 c3 0 n3 age shear lo hi tick now = true ∧ F93_4 c0 0 n c 0 n2 c3 0 n3 age shear lo hi tick now = false:=by
  have q:=F93_eq (c3:=c3) (n3:=n3) hv hq
  rw [e] at q
  exact ⟨by simp [F93_ok,q],by simp [F93_4,q]⟩
theorem loop42 (hv : Vld c0 0 n c 0 n2 age shear) (g3 : GL L1 1 c3 n3) (few : n3 ≤ 1000) (h81 : ∀ k : Nat,k < n3 → F81ok c0 0 n c 0 n2 c3 0 n3 age shear (wLo c3 (k : Int)) (wHi c3 (k : Int)) tick now = true) :
    ∀ (m k : Nat) (L : List Bd) (lo hi : Int),k + m = n3 → L.length = k → ∃ a b,
    loopR rd42_0
      ⟨encB L,c3,0,n3,(n3 : Int),(k : Int),c0,0,n,c,0,n2,c3,0,n3,age,shear,lo,hi,tick,now⟩ =
    some (match bnds c0 c c3 n n2 age shear tick now m k with
      | none=>.k0 ⟨[]⟩ 0 0 9 c0 0 n c 0 n2 c3 0 n3 age shear a b tick now
      | some R=>.k1 (arrB (L ++ R)) 0 (L ++ R).length c0 0 n c 0 n2 c3 0 n3 age shear a b tick now)
  | 0,k,L,lo,hi,e,hl=>⟨lo,hi,loopR_done (by
      obtain rfl : k = n3:=by omega
      have h1 : ¬ ((k : Int) < (k : Int)):=by omega
      cases L with
      | nil=>simp only [rd42_0,encB,RT.val,h1,Int.ofNat_eq_natCast,decide_false,cond_false,bnds]; rfl
      | cons a r =>
        simp only [rd42_0,encB,RT.val,h1,Int.ofNat_eq_natCast,decide_false,cond_false,cond_true,allFz_arrB,size_arrB,Nat.zero_add,Nat.le_refl,decide_true,Bool.and_self,bnds,List.append_nil])⟩
  | m + 1,k,L,lo,hi,e,hl=>by
    have hki : (k : Int) < (n3 : Int):=by omega
    have h0 : (0 : Int) ≤ (k : Int):=by omega
    have hidx : 0 + (Int.toNat (k : Int)) * 1 = k:=by simp
    have hi1 : isInt .i64 c3 k = true:=g3.int (by omega)
    have h3 : IntKind.wrap .i64 ((k : Int) + 1) = ((k + 1 : Nat) : Int):=by rw [wrap64_id (by omega) (by omega)]; omega
    obtain ⟨w1,w2,w3⟩:=F94_of (c1:=c0) (c2:=c) (n1:=n) (n2:=n2) (age:=age) (shear:=shear) (k:=(k : Int)) g3 (by omega) (by omega)
    have h81k:=h81 k (by omega)
    cases ha : ansO c0 c n n2 age shear (wLo c3 (k : Int)) (wHi c3 (k : Int)) tick now with
    | none =>
      obtain ⟨f1,f2⟩:=F92_none hv h81k ha
      refine ⟨wLo c3 (k : Int),wHi c3 (k : Int),loopR_done ?_⟩
      cases L with
      | nil=>simp only [rd42_0,encB,RT.val,Int.ofNat_eq_natCast,hki,h0,hidx,hi1,w1,w2,w3,f1,f2,decide_true,Bool.and_self,Bool.not_false,cond_true,bnds,ha]
      | cons a r=>simp only [rd42_0,encB,RT.val,Int.ofNat_eq_natCast,hki,h0,hidx,hi1,w1,w2,w3,f1,f2,decide_true,Bool.and_self,Bool.not_false,cond_true,bnds,ha]
    | some h =>
      obtain ⟨f1,f2,f3,f4,f5,f6⟩:=F92_some hv h81k ha
      obtain ⟨a,b,ih⟩:=loop42 hv g3 few h81 m (k + 1) (L ++ [⟨wLo c3 (k : Int),getInt c3 k,h.xl,h.xh,h.yl,h.yh⟩]) (wLo c3 (k : Int)) (wHi c3 (k : Int)) (by omega) (by simp; omega)
      refine ⟨a,b,(loopR_next ?_).trans (ih.trans ?_)⟩
      · cases L with
        | nil =>
          simp only [rd42_0,encB,RT.val,Int.ofNat_eq_natCast,hki,h0,hidx,hi1,w1,w2,w3,f1,f2,f3,f4,f5,f6,decide_true,Bool.and_self,Bool.not_true,cond_true,cond_false,h3]
          rfl
        | cons q r =>
          have hb:=apB_arrB (q :: r) ⟨wLo c3 (k : Int),getInt c3 k,h.xl,h.xh,h.yl,h.yh⟩
          simp only [Bd.row] at hb
          have hl1 : ((q :: r).length + 1) * 48 ≤ 140737488355328 ∧ (q :: r).length + 1 ≤ 4611686018427387904 ∧ 0 + (q :: r).length * 6 ≤ (arrB (q :: r)).size:=by rw [size_arrB]; omega
          simp only [rd42_0,encB,RT.val,Int.ofNat_eq_natCast,hki,h0,hidx,hi1,w1,w2,w3,f1,f2,f3,f4,f5,f6,decide_true,Bool.and_self,Bool.not_true,cond_true,cond_false,h3,hb,allFz_arrB,hl1.1,hl1.2.1,hl1.2.2]
          simp [encB]
      · conv=>rhs; unfold bnds
        rw [ha]
        cases bnds c0 c c3 n n2 age shear tick now m (k + 1) with
        | none=>rfl
        | some R=>simp
end
end
end Go.Proofs.Ytjdidbnmkogflaa

namespace Go.Proofs.Ytjdidbnmkogflaa
open Go.Gi Go.RowKit Go.Proofs.Ytjdidbnmkogflaa.Old
noncomputable section
set_option maxRecDepth 100000
set_option maxHeartbeats 4000000
set_option linter.unusedVariables false
set_option linter.unusedSimpArgs false
structure R70 where
  (r0:Bool)
structure A70 where
  (a0:Int)
noncomputable def rt70 (a0:Int) : RT R70 :=
  .br (decide ((0 : Int) ≤ a0))
 (.leaf ⟨(decide (a0 < (100000000 : Int)))⟩)
 (.leaf ⟨false⟩)
noncomputable def en70 (r:R70) : Value:=(.bool r.r0)
theorem T70  (a0 : Int) : evC Try.prog (Ans.c (fun _=>none : Ans)) 60 (.call 70 ⟨[(.int .i64 a0)]⟩ ⟨[],0,[]⟩) (frzK [0]) = (rt70 a0).out (fun r=>.ret (en70 r) ⟨[],0,[]⟩):=by kernel_rfl
noncomputable def F70 (a0:Int) : Option R70:=(rt70 a0).val
section
variable (a0:Int)
noncomputable def F70_ok : Bool:=(F70 a0).isSome
noncomputable def F70_0 : Bool:=match F70 a0 with | some r=>r.r0 | none=>false
end
noncomputable def dec70 : Task → Option (A70 × Hp)
  | .call g ⟨[(.int .i64 a0)]⟩ h=>(match Nat.beq g 70 with | true=>some (⟨a0⟩,h) | false=>none)
  | _=>none
noncomputable def alt70 (x:A70) (h:Hp) : AT:=.br (F70_ok x.a0) (.leaf (.ret (.bool (F70_0 x.a0)) h)) .no
noncomputable def p70 : Ans:=fnAns dec70 alt70
theorem ha70 : ∀ (x:A70) (h:Hp) (o:Out),(alt70 x h).out = some o → ∃ r,(rt70 x.a0).val = some r ∧ o = .ret (en70 r) h:=by
  intro x h o e
  unfold alt70 at e
  cases hF : F70 x.a0 with
  | none=>simp [F70_ok,hF,AT.out] at e
  | some r =>
    refine ⟨r,hF,?_⟩
    simp only [F70_ok,F70_0,hF,AT.out,Option.isSome_some,cond_true,Option.some.injEq] at e
    rw [← e]; rfl
theorem hd70 : ∀ (t:Task) (x:A70) (h:Hp),dec70 t = some (x,h) → t = .call 70 ⟨[(.int .i64 x.a0)]⟩ h:=by
  intro t x h e
  unfold dec70 at e
  split at e
  case h_2=>cases e
  split at e
  case h_2=>cases e
  rename_i hg
  simp only [Option.some.injEq,Prod.mk.injEq] at e
  obtain ⟨rfl,rfl⟩:=e
  rw [Nat.eq_of_beq_eq_true hg]
theorem known70 : Known Try.prog p70:=by
  exact Known.fn noNG mixed (Known.nothing Try.prog) (n:=60) (zs:=[0]) 70 (fun x : A70=>[(.int .i64 x.a0)]) (fun x=>rt70 x.a0) en70 (fun x=>T70  x.a0) (fun x=>rfl) dec70 alt70 hd70 ha70
end
end Go.Proofs.Ytjdidbnmkogflaa

namespace Go.Proofs.Ytjdidbnmkogflaa
open Go.Gi Go.RowKit Go.Proofs.Ytjdidbnmkogflaa.Old
noncomputable section
set_option maxRecDepth 100000
set_option maxHeartbeats 4000000
set_option linter.unusedVariables false
set_option linter.unusedSimpArgs false
structure R40 where
  (r0 r1:Int)
  (r2 r3 r4:Int)
structure A40 where
  (a0:Array Value)
  (a1 a2:Nat)
  (a3:Array Value)
  (a4 a5:Nat)
  (a6:Array Value)
  (a7 a8:Nat)
  (a9 a10:Int)
  (a11 a12 a13:Int)
noncomputable def rt40 (a0 : Array Value) (a1 a2:Nat) (a3 : Array Value) (a4 a5:Nat) (a6 : Array Value) (a7 a8:Nat) (a9 a10:Int) (a11 a12 a13:Int) : RT R40 :=
  .br (F20_ok a0 a1 a2 a3 a4 a5 a6 a7 a8 a9 a10)
 (.br (not (decide ((F20_2 a0 a1 a2 a3 a4 a5 a6 a7 a8 a9 a10) = (0 : Int))))
 (.leaf ⟨(0 : Int),(0 : Int),(0 : Int),(0 : Int),(F20_2 a0 a1 a2 a3 a4 a5 a6 a7 a8 a9 a10)⟩)
 (.br (F70_ok a11)
 (.br (not (F70_0 a11))
 (.leaf ⟨(0 : Int),(0 : Int),(0 : Int),(0 : Int),(7 : Int)⟩)
 (.br (F91_ok a11 a11 a12 a13)
 (.br (not (F91_0 a11 a11 a12 a13))
 (.leaf ⟨(0 : Int),(0 : Int),(0 : Int),(0 : Int),(7 : Int)⟩)
 (.br (F92_ok a0 a1 a2 a3 a4 a5 a6 a7 a8 a9 a10 a11 a11 a12 a13)
 (.br (not (F92_4 a0 a1 a2 a3 a4 a5 a6 a7 a8 a9 a10 a11 a11 a12 a13))
 (.leaf ⟨(0 : Int),(0 : Int),(0 : Int),(0 : Int),(9 : Int)⟩)
 (.br (decide ((F92_2 a0 a1 a2 a3 a4 a5 a6 a7 a8 a9 a10 a11 a11 a12 a13) = (F92_2 a0 a1 a2 a3 a4 a5 a6 a7 a8 a9 a10 a11 a11 a12 a13)))
 (.br (decide ((F92_3 a0 a1 a2 a3 a4 a5 a6 a7 a8 a9 a10 a11 a11 a12 a13) = (F92_3 a0 a1 a2 a3 a4 a5 a6 a7 a8 a9 a10 a11 a11 a12 a13)))
 (.br (decide ((F92_2 a0 a1 a2 a3 a4 a5 a6 a7 a8 a9 a10 a11 a11 a12 a13) = (F92_2 a0 a1 a2 a3 a4 a5 a6 a7 a8 a9 a10 a11 a11 a12 a13)))
 (.br (decide ((F92_3 a0 a1 a2 a3 a4 a5 a6 a7 a8 a9 a10 a11 a11 a12 a13) = (F92_3 a0 a1 a2 a3 a4 a5 a6 a7 a8 a9 a10 a11 a11 a12 a13)))
 (.leaf ⟨(F92_0 a0 a1 a2 a3 a4 a5 a6 a7 a8 a9 a10 a11 a11 a12 a13),(F92_1 a0 a1 a2 a3 a4 a5 a6 a7 a8 a9 a10 a11 a11 a12 a13),(F92_2 a0 a1 a2 a3 a4 a5 a6 a7 a8 a9 a10 a11 a11 a12 a13),(F92_3 a0 a1 a2 a3 a4 a5 a6 a7 a8 a9 a10 a11 a11 a12 a13),(0 : Int)⟩)
 (.no))
 (.no))
 (.no))
 (.no)))
 (.no)))
 (.no)))
 (.no)))
 (.no)
noncomputable def en40 (r:R40) : Value:=(.tuple ⟨[(.agg ⟨[(.int .i64 r.r0),(.int .i64 r.r1)]⟩),(.agg ⟨[(.int .i64 r.r2),(.int .i64 r.r3)]⟩),(.int .i64 r.r4)]⟩)
theorem T40  (a0 : Array Value) (a1 a2:Nat) (a3 : Array Value) (a4 a5:Nat) (a6 : Array Value) (a7 a8:Nat) (a9 a10:Int) (a11 a12 a13:Int) : evC Try.prog (Ans.c ((p20V 20).or (p70.or (p91.or p92)))) 60 (.call 40 ⟨[(.agg ⟨[(lstV a0 a1 a2 7),(lstV a3 a4 a5 5),(lstV a6 a7 a8 1),(.int .i64 a9),(.int .i64 a10)]⟩),(.int .i64 a11),(.int .i64 a12),(.int .i64 a13)]⟩ ⟨[],0,[]⟩) (frzK [0,0,0]) = (rt40 a0 a1 a2 a3 a4 a5 a6 a7 a8 a9 a10 a11 a12 a13).out (fun r=>.ret (en40 r) ⟨[],0,[]⟩):=by kernel_rfl
noncomputable def F40 (a0 : Array Value) (a1 a2:Nat) (a3 : Array Value) (a4 a5:Nat) (a6 : Array Value) (a7 a8:Nat) (a9 a10:Int) (a11 a12 a13:Int) : Option R40:=(rt40 a0 a1 a2 a3 a4 a5 a6 a7 a8 a9 a10 a11 a12 a13).val
section
variable (a0 : Array Value) (a1 a2:Nat) (a3 : Array Value) (a4 a5:Nat) (a6 : Array Value) (a7 a8:Nat) (a9 a10:Int) (a11 a12 a13:Int)
noncomputable def F40_ok : Bool:=(F40 a0 a1 a2 a3 a4 a5 a6 a7 a8 a9 a10 a11 a12 a13).isSome
noncomputable def F40_0 : Int:=match F40 a0 a1 a2 a3 a4 a5 a6 a7 a8 a9 a10 a11 a12 a13 with | some r=>r.r0 | none=>0
noncomputable def F40_1 : Int:=match F40 a0 a1 a2 a3 a4 a5 a6 a7 a8 a9 a10 a11 a12 a13 with | some r=>r.r1 | none=>0
noncomputable def F40_2 : Int:=match F40 a0 a1 a2 a3 a4 a5 a6 a7 a8 a9 a10 a11 a12 a13 with | some r=>r.r2 | none=>0
noncomputable def F40_3 : Int:=match F40 a0 a1 a2 a3 a4 a5 a6 a7 a8 a9 a10 a11 a12 a13 with | some r=>r.r3 | none=>0
noncomputable def F40_4 : Int:=match F40 a0 a1 a2 a3 a4 a5 a6 a7 a8 a9 a10 a11 a12 a13 with | some r=>r.r4 | none=>0
end
noncomputable def dec40 : Task → Option (A40 × Hp)
  | .call g ⟨[(.agg ⟨[(.func (.via 0 ⟨[]⟩ 0 true) a0 ⟨[.slice (some ⟨0,a1,none⟩) a2 7]⟩),(.func (.via 0 ⟨[]⟩ 0 true) a3 ⟨[.slice (some ⟨0,a4,none⟩) a5 5]⟩),(.func (.via 0 ⟨[]⟩ 0 true) a6 ⟨[.slice (some ⟨0,a7,none⟩) a8 1]⟩),(.int .i64 a9),(.int .i64 a10)]⟩),(.int .i64 a11),(.int .i64 a12),(.int .i64 a13)]⟩ h=>(match Nat.beq g 40 with | true=>some (⟨a0,a1,a2,a3,a4,a5,a6,a7,a8,a9,a10,a11,a12,a13⟩,h) | false=>none)
  | _=>none
noncomputable def alt40 (x:A40) (h:Hp) : AT:=.br (F40_ok x.a0 x.a1 x.a2 x.a3 x.a4 x.a5 x.a6 x.a7 x.a8 x.a9 x.a10 x.a11 x.a12 x.a13) (.leaf (.ret (.tuple ⟨[(.agg ⟨[(.int .i64 (F40_0 x.a0 x.a1 x.a2 x.a3 x.a4 x.a5 x.a6 x.a7 x.a8 x.a9 x.a10 x.a11 x.a12 x.a13)),(.int .i64 (F40_1 x.a0 x.a1 x.a2 x.a3 x.a4 x.a5 x.a6 x.a7 x.a8 x.a9 x.a10 x.a11 x.a12 x.a13))]⟩),(.agg ⟨[(.int .i64 (F40_2 x.a0 x.a1 x.a2 x.a3 x.a4 x.a5 x.a6 x.a7 x.a8 x.a9 x.a10 x.a11 x.a12 x.a13)),(.int .i64 (F40_3 x.a0 x.a1 x.a2 x.a3 x.a4 x.a5 x.a6 x.a7 x.a8 x.a9 x.a10 x.a11 x.a12 x.a13))]⟩),(.int .i64 (F40_4 x.a0 x.a1 x.a2 x.a3 x.a4 x.a5 x.a6 x.a7 x.a8 x.a9 x.a10 x.a11 x.a12 x.a13))]⟩) h)) .no
noncomputable def p40 : Ans:=fnAns dec40 alt40
theorem ha40 : ∀ (x:A40) (h:Hp) (o:Out),(alt40 x h).out = some o → ∃ r,(rt40 x.a0 x.a1 x.a2 x.a3 x.a4 x.a5 x.a6 x.a7 x.a8 x.a9 x.a10 x.a11 x.a12 x.a13).val = some r ∧ o = .ret (en40 r) h:=by
  intro x h o e
  unfold alt40 at e
  cases hF : F40 x.a0 x.a1 x.a2 x.a3 x.a4 x.a5 x.a6 x.a7 x.a8 x.a9 x.a10 x.a11 x.a12 x.a13 with
  | none=>simp [F40_ok,hF,AT.out] at e
  | some r =>
    refine ⟨r,hF,?_⟩
    simp only [F40_ok,F40_0,F40_1,F40_2,F40_3,F40_4,hF,AT.out,Option.isSome_some,cond_true,Option.some.injEq] at e
    rw [← e]; rfl
theorem hd40 : ∀ (t:Task) (x:A40) (h:Hp),dec40 t = some (x,h) → t = .call 40 ⟨[(.agg ⟨[(lstV x.a0 x.a1 x.a2 7),(lstV x.a3 x.a4 x.a5 5),(lstV x.a6 x.a7 x.a8 1),(.int .i64 x.a9),(.int .i64 x.a10)]⟩),(.int .i64 x.a11),(.int .i64 x.a12),(.int .i64 x.a13)]⟩ h:=by
  intro t x h e
  unfold dec40 at e
  split at e
  case h_2=>cases e
  split at e
  case h_2=>cases e
  rename_i hg
  simp only [Option.some.injEq,Prod.mk.injEq] at e
  obtain ⟨rfl,rfl⟩:=e
  rw [Nat.eq_of_beq_eq_true hg]
theorem known40 : Known Try.prog p40:=by
  exact Known.fn noNG mixed (Known.or (known20V (known20v known20)) (Known.or known70 (Known.or known91 known92))) (n:=60) (zs:=[0,0,0]) 40 (fun x : A40=>[(.agg ⟨[(lstV x.a0 x.a1 x.a2 7),(lstV x.a3 x.a4 x.a5 5),(lstV x.a6 x.a7 x.a8 1),(.int .i64 x.a9),(.int .i64 x.a10)]⟩),(.int .i64 x.a11),(.int .i64 x.a12),(.int .i64 x.a13)]) (fun x=>rt40 x.a0 x.a1 x.a2 x.a3 x.a4 x.a5 x.a6 x.a7 x.a8 x.a9 x.a10 x.a11 x.a12 x.a13) en40 (fun x=>T40  x.a0 x.a1 x.a2 x.a3 x.a4 x.a5 x.a6 x.a7 x.a8 x.a9 x.a10 x.a11 x.a12 x.a13) (fun x=>rfl) dec40 alt40 hd40 ha40
end
end Go.Proofs.Ytjdidbnmkogflaa

namespace Go.Proofs.Ytjdidbnmkogflaa
open Go.Gi Go.RowKit Go.Proofs.Ytjdidbnmkogflaa.Old
noncomputable section
set_option maxRecDepth 100000
set_option maxHeartbeats 4000000
set_option linter.unusedVariables false
set_option linter.unusedSimpArgs false
structure R71 where
  (r0:Bool)
structure A71 where
  (a0:Int)
noncomputable def rt71 (a0:Int) : RT R71 :=
  .br (F63_ok a0 (0 : Int) (99999999 : Int))
 (.leaf ⟨(F63_0 a0 (0 : Int) (99999999 : Int))⟩)
 (.no)
noncomputable def en71 (r:R71) : Value:=(.bool r.r0)
theorem T71  (a0 : Int) : evC Try.prog (Ans.c p63) 60 (.call 71 ⟨[(.int .i64 a0)]⟩ ⟨[],0,[]⟩) (frzK [0]) = (rt71 a0).out (fun r=>.ret (en71 r) ⟨[],0,[]⟩):=by kernel_rfl
noncomputable def F71 (a0:Int) : Option R71:=(rt71 a0).val
section
variable (a0:Int)
noncomputable def F71_ok : Bool:=(F71 a0).isSome
noncomputable def F71_0 : Bool:=match F71 a0 with | some r=>r.r0 | none=>false
end
noncomputable def dec71 : Task → Option (A71 × Hp)
  | .call g ⟨[(.int .i64 a0)]⟩ h=>(match Nat.beq g 71 with | true=>some (⟨a0⟩,h) | false=>none)
  | _=>none
noncomputable def alt71 (x:A71) (h:Hp) : AT:=.br (F71_ok x.a0) (.leaf (.ret (.bool (F71_0 x.a0)) h)) .no
noncomputable def p71 : Ans:=fnAns dec71 alt71
theorem ha71 : ∀ (x:A71) (h:Hp) (o:Out),(alt71 x h).out = some o → ∃ r,(rt71 x.a0).val = some r ∧ o = .ret (en71 r) h:=by
  intro x h o e
  unfold alt71 at e
  cases hF : F71 x.a0 with
  | none=>simp [F71_ok,hF,AT.out] at e
  | some r =>
    refine ⟨r,hF,?_⟩
    simp only [F71_ok,F71_0,hF,AT.out,Option.isSome_some,cond_true,Option.some.injEq] at e
    rw [← e]; rfl
theorem hd71 : ∀ (t:Task) (x:A71) (h:Hp),dec71 t = some (x,h) → t = .call 71 ⟨[(.int .i64 x.a0)]⟩ h:=by
  intro t x h e
  unfold dec71 at e
  split at e
  case h_2=>cases e
  split at e
  case h_2=>cases e
  rename_i hg
  simp only [Option.some.injEq,Prod.mk.injEq] at e
  obtain ⟨rfl,rfl⟩:=e
  rw [Nat.eq_of_beq_eq_true hg]
theorem known71 : Known Try.prog p71:=by
  exact Known.fn noNG mixed known63 (n:=60) (zs:=[0]) 71 (fun x : A71=>[(.int .i64 x.a0)]) (fun x=>rt71 x.a0) en71 (fun x=>T71  x.a0) (fun x=>rfl) dec71 alt71 hd71 ha71
end
end Go.Proofs.Ytjdidbnmkogflaa

namespace Go.Proofs.Ytjdidbnmkogflaa
open Go.Gi Go.RowKit Go.Proofs.Ytjdidbnmkogflaa.Old
noncomputable section
set_option maxRecDepth 100000
set_option maxHeartbeats 4000000
set_option linter.unusedVariables false
set_option linter.unusedSimpArgs false
structure R41 where
  (r0 r1:Int)
  (r2 r3 r4:Int)
structure A41 where
  (a0:Array Value)
  (a1 a2:Nat)
  (a3:Array Value)
  (a4 a5:Nat)
  (a6:Array Value)
  (a7 a8:Nat)
  (a9 a10:Int)
  (a11 a12 a13:Int)
noncomputable def rt41 (a0 : Array Value) (a1 a2:Nat) (a3 : Array Value) (a4 a5:Nat) (a6 : Array Value) (a7 a8:Nat) (a9 a10:Int) (a11 a12 a13:Int) : RT R41 :=
  .br (F20_ok a0 a1 a2 a3 a4 a5 a6 a7 a8 a9 a10)
 (.br (decide ((F20_2 a0 a1 a2 a3 a4 a5 a6 a7 a8 a9 a10) = (0 : Int)))
 (.br (F71_ok a11)
 (.br (not (F71_0 a11))
 (.leaf ⟨(0 : Int),(0 : Int),(0 : Int),(0 : Int),(7 : Int)⟩)
 (.br (F76_ok a12)
 (.br (not (F76_0 a12))
 (.leaf ⟨(0 : Int),(0 : Int),(0 : Int),(0 : Int),(7 : Int)⟩)
 (.br (F76_ok a13)
 (.br (not (F76_0 a13))
 (.leaf ⟨(0 : Int),(0 : Int),(0 : Int),(0 : Int),(7 : Int)⟩)
 (.br (not (decide ((F20_2 a0 a1 a2 a3 a4 a5 a6 a7 a8 a9 a10) = (0 : Int))))
 (.leaf ⟨(0 : Int),(0 : Int),(0 : Int),(0 : Int),(F20_2 a0 a1 a2 a3 a4 a5 a6 a7 a8 a9 a10)⟩)
 (.br (F93_ok a0 a1 a2 a3 a4 a5 a6 a7 a8 a9 a10 a11 a11 a12 a13)
 (.br (not (F93_4 a0 a1 a2 a3 a4 a5 a6 a7 a8 a9 a10 a11 a11 a12 a13))
 (.leaf ⟨(0 : Int),(0 : Int),(0 : Int),(0 : Int),(9 : Int)⟩)
 (.br (decide ((F93_2 a0 a1 a2 a3 a4 a5 a6 a7 a8 a9 a10 a11 a11 a12 a13) = (F93_2 a0 a1 a2 a3 a4 a5 a6 a7 a8 a9 a10 a11 a11 a12 a13)))
 (.br (decide ((F93_3 a0 a1 a2 a3 a4 a5 a6 a7 a8 a9 a10 a11 a11 a12 a13) = (F93_3 a0 a1 a2 a3 a4 a5 a6 a7 a8 a9 a10 a11 a11 a12 a13)))
 (.br (decide ((F93_2 a0 a1 a2 a3 a4 a5 a6 a7 a8 a9 a10 a11 a11 a12 a13) = (F93_2 a0 a1 a2 a3 a4 a5 a6 a7 a8 a9 a10 a11 a11 a12 a13)))
 (.br (decide ((F93_3 a0 a1 a2 a3 a4 a5 a6 a7 a8 a9 a10 a11 a11 a12 a13) = (F93_3 a0 a1 a2 a3 a4 a5 a6 a7 a8 a9 a10 a11 a11 a12 a13)))
 (.leaf ⟨(F93_0 a0 a1 a2 a3 a4 a5 a6 a7 a8 a9 a10 a11 a11 a12 a13),(F93_1 a0 a1 a2 a3 a4 a5 a6 a7 a8 a9 a10 a11 a11 a12 a13),(F93_2 a0 a1 a2 a3 a4 a5 a6 a7 a8 a9 a10 a11 a11 a12 a13),(F93_3 a0 a1 a2 a3 a4 a5 a6 a7 a8 a9 a10 a11 a11 a12 a13),(0 : Int)⟩)
 (.no))
 (.no))
 (.no))
 (.no)))
 (.no))))
 (.no)))
 (.no)))
 (.no))
 (.br (not (decide ((F20_2 a0 a1 a2 a3 a4 a5 a6 a7 a8 a9 a10) = (0 : Int))))
 (.leaf ⟨(0 : Int),(0 : Int),(0 : Int),(0 : Int),(F20_2 a0 a1 a2 a3 a4 a5 a6 a7 a8 a9 a10)⟩)
 (.br (F93_ok a0 a1 a2 a3 a4 a5 a6 a7 a8 a9 a10 a11 a11 a12 a13)
 (.br (not (F93_4 a0 a1 a2 a3 a4 a5 a6 a7 a8 a9 a10 a11 a11 a12 a13))
 (.leaf ⟨(0 : Int),(0 : Int),(0 : Int),(0 : Int),(9 : Int)⟩)
 (.br (decide ((F93_2 a0 a1 a2 a3 a4 a5 a6 a7 a8 a9 a10 a11 a11 a12 a13) = (F93_2 a0 a1 a2 a3 a4 a5 a6 a7 a8 a9 a10 a11 a11 a12 a13)))
 (.br (decide ((F93_3 a0 a1 a2 a3 a4 a5 a6 a7 a8 a9 a10 a11 a11 a12 a13) = (F93_3 a0 a1 a2 a3 a4 a5 a6 a7 a8 a9 a10 a11 a11 a12 a13)))
 (.br (decide ((F93_2 a0 a1 a2 a3 a4 a5 a6 a7 a8 a9 a10 a11 a11 a12 a13) = (F93_2 a0 a1 a2 a3 a4 a5 a6 a7 a8 a9 a10 a11 a11 a12 a13)))
 (.br (decide ((F93_3 a0 a1 a2 a3 a4 a5 a6 a7 a8 a9 a10 a11 a11 a12 a13) = (F93_3 a0 a1 a2 a3 a4 a5 a6 a7 a8 a9 a10 a11 a11 a12 a13)))
 (.leaf ⟨(F93_0 a0 a1 a2 a3 a4 a5 a6 a7 a8 a9 a10 a11 a11 a12 a13),(F93_1 a0 a1 a2 a3 a4 a5 a6 a7 a8 a9 a10 a11 a11 a12 a13),(F93_2 a0 a1 a2 a3 a4 a5 a6 a7 a8 a9 a10 a11 a11 a12 a13),(F93_3 a0 a1 a2 a3 a4 a5 a6 a7 a8 a9 a10 a11 a11 a12 a13),(0 : Int)⟩)
 (.no))
 (.no))
 (.no))
 (.no)))
 (.no))))
 (.no)
noncomputable def en41 (r:R41) : Value:=(.tuple ⟨[(.agg ⟨[(.int .i64 r.r0),(.int .i64 r.r1)]⟩),(.agg ⟨[(.int .i64 r.r2),(.int .i64 r.r3)]⟩),(.int .i64 r.r4)]⟩)
theorem T41  (a0 : Array Value) (a1 a2:Nat) (a3 : Array Value) (a4 a5:Nat) (a6 : Array Value) (a7 a8:Nat) (a9 a10:Int) (a11 a12 a13:Int) : evC Try.prog (Ans.c ((p20V 21).or (p71.or (p76.or p93)))) 60 (.call 41 ⟨[(.agg ⟨[(lstV a0 a1 a2 7),(lstV a3 a4 a5 5),(lstV a6 a7 a8 1),(.int .i64 a9),(.int .i64 a10)]⟩),(.int .i64 a11),(.int .i64 a12),(.int .i64 a13)]⟩ ⟨[],0,[]⟩) (frzK [0,0,0]) = (rt41 a0 a1 a2 a3 a4 a5 a6 a7 a8 a9 a10 a11 a12 a13).out (fun r=>.ret (en41 r) ⟨[],0,[]⟩):=by kernel_rfl
noncomputable def F41 (a0 : Array Value) (a1 a2:Nat) (a3 : Array Value) (a4 a5:Nat) (a6 : Array Value) (a7 a8:Nat) (a9 a10:Int) (a11 a12 a13:Int) : Option R41:=(rt41 a0 a1 a2 a3 a4 a5 a6 a7 a8 a9 a10 a11 a12 a13).val
section
variable (a0 : Array Value) (a1 a2:Nat) (a3 : Array Value) (a4 a5:Nat) (a6 : Array Value) (a7 a8:Nat) (a9 a10:Int) (a11 a12 a13:Int)
noncomputable def F41_ok : Bool:=(F41 a0 a1 a2 a3 a4 a5 a6 a7 a8 a9 a10 a11 a12 a13).isSome
noncomputable def F41_0 : Int:=match F41 a0 a1 a2 a3 a4 a5 a6 a7 a8 a9 a10 a11 a12 a13 with | some r=>r.r0 | none=>0
noncomputable def F41_1 : Int:=match F41 a0 a1 a2 a3 a4 a5 a6 a7 a8 a9 a10 a11 a12 a13 with | some r=>r.r1 | none=>0
noncomputable def F41_2 : Int:=match F41 a0 a1 a2 a3 a4 a5 a6 a7 a8 a9 a10 a11 a12 a13 with | some r=>r.r2 | none=>0
noncomputable def F41_3 : Int:=match F41 a0 a1 a2 a3 a4 a5 a6 a7 a8 a9 a10 a11 a12 a13 with | some r=>r.r3 | none=>0
noncomputable def F41_4 : Int:=match F41 a0 a1 a2 a3 a4 a5 a6 a7 a8 a9 a10 a11 a12 a13 with | some r=>r.r4 | none=>0
end
noncomputable def dec41 : Task → Option (A41 × Hp)
  | .call g ⟨[(.agg ⟨[(.func (.via 0 ⟨[]⟩ 0 true) a0 ⟨[.slice (some ⟨0,a1,none⟩) a2 7]⟩),(.func (.via 0 ⟨[]⟩ 0 true) a3 ⟨[.slice (some ⟨0,a4,none⟩) a5 5]⟩),(.func (.via 0 ⟨[]⟩ 0 true) a6 ⟨[.slice (some ⟨0,a7,none⟩) a8 1]⟩),(.int .i64 a9),(.int .i64 a10)]⟩),(.int .i64 a11),(.int .i64 a12),(.int .i64 a13)]⟩ h=>(match Nat.beq g 41 with | true=>some (⟨a0,a1,a2,a3,a4,a5,a6,a7,a8,a9,a10,a11,a12,a13⟩,h) | false=>none)
  | _=>none
noncomputable def alt41 (x:A41) (h:Hp) : AT:=.br (F41_ok x.a0 x.a1 x.a2 x.a3 x.a4 x.a5 x.a6 x.a7 x.a8 x.a9 x.a10 x.a11 x.a12 x.a13) (.leaf (.ret (.tuple ⟨[(.agg ⟨[(.int .i64 (F41_0 x.a0 x.a1 x.a2 x.a3 x.a4 x.a5 x.a6 x.a7 x.a8 x.a9 x.a10 x.a11 x.a12 x.a13)),(.int .i64 (F41_1 x.a0 x.a1 x.a2 x.a3 x.a4 x.a5 x.a6 x.a7 x.a8 x.a9 x.a10 x.a11 x.a12 x.a13))]⟩),(.agg ⟨[(.int .i64 (F41_2 x.a0 x.a1 x.a2 x.a3 x.a4 x.a5 x.a6 x.a7 x.a8 x.a9 x.a10 x.a11 x.a12 x.a13)),(.int .i64 (F41_3 x.a0 x.a1 x.a2 x.a3 x.a4 x.a5 x.a6 x.a7 x.a8 x.a9 x.a10 x.a11 x.a12 x.a13))]⟩),(.int .i64 (F41_4 x.a0 x.a1 x.a2 x.a3 x.a4 x.a5 x.a6 x.a7 x.a8 x.a9 x.a10 x.a11 x.a12 x.a13))]⟩) h)) .no
noncomputable def p41 : Ans:=fnAns dec41 alt41
theorem ha41 : ∀ (x:A41) (h:Hp) (o:Out),(alt41 x h).out = some o → ∃ r,(rt41 x.a0 x.a1 x.a2 x.a3 x.a4 x.a5 x.a6 x.a7 x.a8 x.a9 x.a10 x.a11 x.a12 x.a13).val = some r ∧ o = .ret (en41 r) h:=by
  intro x h o e
  unfold alt41 at e
  cases hF : F41 x.a0 x.a1 x.a2 x.a3 x.a4 x.a5 x.a6 x.a7 x.a8 x.a9 x.a10 x.a11 x.a12 x.a13 with
  | none=>simp [F41_ok,hF,AT.out] at e
  | some r =>
    refine ⟨r,hF,?_⟩
    simp only [F41_ok,F41_0,F41_1,F41_2,F41_3,F41_4,hF,AT.out,Option.isSome_some,cond_true,Option.some.injEq] at e
    rw [← e]; rfl
theorem hd41 : ∀ (t:Task) (x:A41) (h:Hp),dec41 t = some (x,h) → t = .call 41 ⟨[(.agg ⟨[(lstV x.a0 x.a1 x.a2 7),(lstV x.a3 x.a4 x.a5 5),(lstV x.a6 x.a7 x.a8 1),(.int .i64 x.a9),(.int .i64 x.a10)]⟩),(.int .i64 x.a11),(.int .i64 x.a12),(.int .i64 x.a13)]⟩ h:=by
  intro t x h e
  unfold dec41 at e
  split at e
  case h_2=>cases e
  split at e
  case h_2=>cases e
  rename_i hg
  simp only [Option.some.injEq,Prod.mk.injEq] at e
  obtain ⟨rfl,rfl⟩:=e
  rw [Nat.eq_of_beq_eq_true hg]
theorem known41 : Known Try.prog p41:=by
  exact Known.fn noNG mixed (Known.or (known20V (known20v known21)) (Known.or known71 (Known.or known76 known93))) (n:=60) (zs:=[0,0,0]) 41 (fun x : A41=>[(.agg ⟨[(lstV x.a0 x.a1 x.a2 7),(lstV x.a3 x.a4 x.a5 5),(lstV x.a6 x.a7 x.a8 1),(.int .i64 x.a9),(.int .i64 x.a10)]⟩),(.int .i64 x.a11),(.int .i64 x.a12),(.int .i64 x.a13)]) (fun x=>rt41 x.a0 x.a1 x.a2 x.a3 x.a4 x.a5 x.a6 x.a7 x.a8 x.a9 x.a10 x.a11 x.a12 x.a13) en41 (fun x=>T41  x.a0 x.a1 x.a2 x.a3 x.a4 x.a5 x.a6 x.a7 x.a8 x.a9 x.a10 x.a11 x.a12 x.a13) (fun x=>rfl) dec41 alt41 hd41 ha41
end
end Go.Proofs.Ytjdidbnmkogflaa

namespace Go.Proofs.Ytjdidbnmkogflaa
open Go.Gi Go.RowKit Go.Proofs.Ytjdidbnmkogflaa.Old
noncomputable section
set_option maxRecDepth 100000
set_option maxHeartbeats 4000000
set_option linter.unusedVariables false
set_option linter.unusedSimpArgs false
structure R8 where
  (r0:Bool)
structure A8 where
  (a0:Array Value)
  (a1 a2:Nat)
  (a3:Array Value)
  (a4 a5:Nat)
  (a6:Array Value)
  (a7 a8:Nat)
  (a9 a10:Int)
  (a11 a12 a13:Int)
noncomputable def rt8 (a0 : Array Value) (a1 a2:Nat) (a3 : Array Value) (a4 a5:Nat) (a6 : Array Value) (a7 a8:Nat) (a9 a10:Int) (a11 a12 a13:Int) : RT R8 :=
  .br (F40_ok a0 a1 a2 a3 a4 a5 a6 a7 a8 a9 a10 a11 a12 a13)
 (.br (F41_ok a0 a1 a2 a3 a4 a5 a6 a7 a8 a9 a10 a11 a12 a13)
 (.br (not (and (decide ((F40_0 a0 a1 a2 a3 a4 a5 a6 a7 a8 a9 a10 a11 a12 a13) = (F41_0 a0 a1 a2 a3 a4 a5 a6 a7 a8 a9 a10 a11 a12 a13))) (and (decide ((F40_1 a0 a1 a2 a3 a4 a5 a6 a7 a8 a9 a10 a11 a12 a13) = (F41_1 a0 a1 a2 a3 a4 a5 a6 a7 a8 a9 a10 a11 a12 a13))) true)))
 (.leaf ⟨false⟩)
 (.br (not (and (decide ((F40_2 a0 a1 a2 a3 a4 a5 a6 a7 a8 a9 a10 a11 a12 a13) = (F41_2 a0 a1 a2 a3 a4 a5 a6 a7 a8 a9 a10 a11 a12 a13))) (and (decide ((F40_3 a0 a1 a2 a3 a4 a5 a6 a7 a8 a9 a10 a11 a12 a13) = (F41_3 a0 a1 a2 a3 a4 a5 a6 a7 a8 a9 a10 a11 a12 a13))) true)))
 (.leaf ⟨false⟩)
 (.br (not (decide ((F40_4 a0 a1 a2 a3 a4 a5 a6 a7 a8 a9 a10 a11 a12 a13) = (F41_4 a0 a1 a2 a3 a4 a5 a6 a7 a8 a9 a10 a11 a12 a13))))
 (.leaf ⟨false⟩)
 (.br (F42_ok a0 a1 a2 a3 a4 a5 a6 a7 a8 a9 a10 a12 a13)
 (.br (F43_ok a0 a1 a2 a3 a4 a5 a6 a7 a8 a9 a10 a12 a13)
 (.br (F44_ok (F42_0 a0 a1 a2 a3 a4 a5 a6 a7 a8 a9 a10 a12 a13) (F42_1 a0 a1 a2 a3 a4 a5 a6 a7 a8 a9 a10 a12 a13) (F42_2 a0 a1 a2 a3 a4 a5 a6 a7 a8 a9 a10 a12 a13) (F43_0 a0 a1 a2 a3 a4 a5 a6 a7 a8 a9 a10 a12 a13) (F43_1 a0 a1 a2 a3 a4 a5 a6 a7 a8 a9 a10 a12 a13) (F43_2 a0 a1 a2 a3 a4 a5 a6 a7 a8 a9 a10 a12 a13))
 (.br (F44_0 (F42_0 a0 a1 a2 a3 a4 a5 a6 a7 a8 a9 a10 a12 a13) (F42_1 a0 a1 a2 a3 a4 a5 a6 a7 a8 a9 a10 a12 a13) (F42_2 a0 a1 a2 a3 a4 a5 a6 a7 a8 a9 a10 a12 a13) (F43_0 a0 a1 a2 a3 a4 a5 a6 a7 a8 a9 a10 a12 a13) (F43_1 a0 a1 a2 a3 a4 a5 a6 a7 a8 a9 a10 a12 a13) (F43_2 a0 a1 a2 a3 a4 a5 a6 a7 a8 a9 a10 a12 a13))
 (.br (decide ((F42_3 a0 a1 a2 a3 a4 a5 a6 a7 a8 a9 a10 a12 a13) = (F43_3 a0 a1 a2 a3 a4 a5 a6 a7 a8 a9 a10 a12 a13)))
 (.leaf ⟨true⟩)
 (.leaf ⟨false⟩))
 (.leaf ⟨false⟩))
 (.no))
 (.no))
 (.no)))))
 (.no))
 (.no)
noncomputable def en8 (r:R8) : Value:=(.bool r.r0)
theorem T8  (a0 : Array Value) (a1 a2:Nat) (a3 : Array Value) (a4 a5:Nat) (a6 : Array Value) (a7 a8:Nat) (a9 a10:Int) (a11 a12 a13:Int) : evC Try.prog (Ans.c (p24V.or (p40.or (p41.or (p42.or (p43.or p44)))))) 60 (.call 8 ⟨[(.agg ⟨[(lstV a0 a1 a2 7),(lstV a3 a4 a5 5),(lstV a6 a7 a8 1),(.int .i64 a9),(.int .i64 a10)]⟩),(.agg ⟨[(.int .i64 a11),(.int .i64 a12),(.int .i64 a13)]⟩)]⟩ ⟨[],0,[]⟩) (frzK [0]) = (rt8 a0 a1 a2 a3 a4 a5 a6 a7 a8 a9 a10 a11 a12 a13).out (fun r=>.ret (en8 r) ⟨[],0,[]⟩):=by kernel_rfl
noncomputable def F8 (a0 : Array Value) (a1 a2:Nat) (a3 : Array Value) (a4 a5:Nat) (a6 : Array Value) (a7 a8:Nat) (a9 a10:Int) (a11 a12 a13:Int) : Option R8:=(rt8 a0 a1 a2 a3 a4 a5 a6 a7 a8 a9 a10 a11 a12 a13).val
section
variable (a0 : Array Value) (a1 a2:Nat) (a3 : Array Value) (a4 a5:Nat) (a6 : Array Value) (a7 a8:Nat) (a9 a10:Int) (a11 a12 a13:Int)
noncomputable def F8_ok : Bool:=(F8 a0 a1 a2 a3 a4 a5 a6 a7 a8 a9 a10 a11 a12 a13).isSome
noncomputable def F8_0 : Bool:=match F8 a0 a1 a2 a3 a4 a5 a6 a7 a8 a9 a10 a11 a12 a13 with | some r=>r.r0 | none=>false
end
noncomputable def dec8 : Task → Option (A8 × Hp)
  | .call g ⟨[(.agg ⟨[(.func (.via 0 ⟨[]⟩ 0 true) a0 ⟨[.slice (some ⟨0,a1,none⟩) a2 7]⟩),(.func (.via 0 ⟨[]⟩ 0 true) a3 ⟨[.slice (some ⟨0,a4,none⟩) a5 5]⟩),(.func (.via 0 ⟨[]⟩ 0 true) a6 ⟨[.slice (some ⟨0,a7,none⟩) a8 1]⟩),(.int .i64 a9),(.int .i64 a10)]⟩),(.agg ⟨[(.int .i64 a11),(.int .i64 a12),(.int .i64 a13)]⟩)]⟩ h=>(match Nat.beq g 8 with | true=>some (⟨a0,a1,a2,a3,a4,a5,a6,a7,a8,a9,a10,a11,a12,a13⟩,h) | false=>none)
  | _=>none
noncomputable def alt8 (x:A8) (h:Hp) : AT:=.br (F8_ok x.a0 x.a1 x.a2 x.a3 x.a4 x.a5 x.a6 x.a7 x.a8 x.a9 x.a10 x.a11 x.a12 x.a13) (.leaf (.ret (.bool (F8_0 x.a0 x.a1 x.a2 x.a3 x.a4 x.a5 x.a6 x.a7 x.a8 x.a9 x.a10 x.a11 x.a12 x.a13)) h)) .no
noncomputable def p8 : Ans:=fnAns dec8 alt8
theorem ha8 : ∀ (x:A8) (h:Hp) (o:Out),(alt8 x h).out = some o → ∃ r,(rt8 x.a0 x.a1 x.a2 x.a3 x.a4 x.a5 x.a6 x.a7 x.a8 x.a9 x.a10 x.a11 x.a12 x.a13).val = some r ∧ o = .ret (en8 r) h:=by
  intro x h o e
  unfold alt8 at e
  cases hF : F8 x.a0 x.a1 x.a2 x.a3 x.a4 x.a5 x.a6 x.a7 x.a8 x.a9 x.a10 x.a11 x.a12 x.a13 with
  | none=>simp [F8_ok,hF,AT.out] at e
  | some r =>
    refine ⟨r,hF,?_⟩
    simp only [F8_ok,F8_0,hF,AT.out,Option.isSome_some,cond_true,Option.some.injEq] at e
    rw [← e]; rfl
theorem hd8 : ∀ (t:Task) (x:A8) (h:Hp),dec8 t = some (x,h) → t = .call 8 ⟨[(.agg ⟨[(lstV x.a0 x.a1 x.a2 7),(lstV x.a3 x.a4 x.a5 5),(lstV x.a6 x.a7 x.a8 1),(.int .i64 x.a9),(.int .i64 x.a10)]⟩),(.agg ⟨[(.int .i64 x.a11),(.int .i64 x.a12),(.int .i64 x.a13)]⟩)]⟩ h:=by
  intro t x h e
  unfold dec8 at e
  split at e
  case h_2=>cases e
  split at e
  case h_2=>cases e
  rename_i hg
  simp only [Option.some.injEq,Prod.mk.injEq] at e
  obtain ⟨rfl,rfl⟩:=e
  rw [Nat.eq_of_beq_eq_true hg]
theorem known8 : Known Try.prog p8:=by
  exact Known.fn noNG mixed (Known.or known24V (Known.or known40 (Known.or known41 (Known.or known42 (Known.or known43 known44))))) (n:=60) (zs:=[0]) 8 (fun x : A8=>[(.agg ⟨[(lstV x.a0 x.a1 x.a2 7),(lstV x.a3 x.a4 x.a5 5),(lstV x.a6 x.a7 x.a8 1),(.int .i64 x.a9),(.int .i64 x.a10)]⟩),(.agg ⟨[(.int .i64 x.a11),(.int .i64 x.a12),(.int .i64 x.a13)]⟩)]) (fun x=>rt8 x.a0 x.a1 x.a2 x.a3 x.a4 x.a5 x.a6 x.a7 x.a8 x.a9 x.a10 x.a11 x.a12 x.a13) en8 (fun x=>T8  x.a0 x.a1 x.a2 x.a3 x.a4 x.a5 x.a6 x.a7 x.a8 x.a9 x.a10 x.a11 x.a12 x.a13) (fun x=>rfl) dec8 alt8 hd8 ha8
end
end Go.Proofs.Ytjdidbnmkogflaa

namespace Go.Proofs.Ytjdidbnmkogflaa
open Go.ChangeShapes Go.WideShapes Go.ChangeAt Go.RowKit Go.Gi Go.Proofs.Ytjdidbnmkogflaa.Old
set_option linter.unusedVariables false
def True8 : Prop:=∀ (c1 : Array Value) (n1 : Nat) (c2 : Array Value) (n2 : Nat) (c3 : Array Value) (n3 : Nat) (age shear x0 x1 x2 : Int),GL L7 7 c1 n1 → GL L5 5 c2 n2 → GL L1 1 c3 n3 →
  (Lit.int .i64 age).wf = true → (Lit.int .i64 shear).wf = true → (Lit.int .i64 x0).wf = true → (Lit.int .i64 x1).wf = true → (Lit.int .i64 x2).wf = true →
  (rt8 c1 0 n1 c2 0 n2 c3 0 n3 age shear x0 x1 x2).val = some ⟨true⟩
theorem law8 (hm : True8) {c1 c2 c3 : Array Value} {n1 n2 n3 : Nat} {age shear x0 x1 x2 : Int} (h1 : GL L7 7 c1 n1) (h2 : GL L5 5 c2 n2) (h3 : GL L1 1 c3 n3) (w0 : (Lit.int .i64 age).wf = true) (w1 : (Lit.int .i64 shear).wf = true) (w2 : (Lit.int .i64 x0).wf = true) (w3 : (Lit.int .i64 x1).wf = true) (w4 : (Lit.int .i64 x2).wf = true) :
    Fact Try.prog (.call 8 ⟨[(.agg ⟨[(lstV c1 0 n1 7),(lstV c2 0 n2 5),(lstV c3 0 n3 1),(.int .i64 age),(.int .i64 shear)]⟩),(.agg ⟨[(.int .i64 x0),(.int .i64 x1),(.int .i64 x2)]⟩)]⟩ ⟨[],0,[]⟩) (.ret (.bool true) ⟨[],0,[]⟩):=by
  have e:=hm c1 n1 c2 n2 c3 n3 age shear x0 x1 x2 h1 h2 h3 w0 w1 w2 w3 w4
  refine known8 _ (alt8 ⟨c1,0,n1,c2,0,n2,c3,0,n3,age,shear,x0,x1,x2⟩ ⟨[],0,[]⟩) _ rfl ?_
  have e1 : F8 c1 0 n1 c2 0 n2 c3 0 n3 age shear x0 x1 x2 = some ⟨true⟩:=e
  simp only [alt8,F8_ok,F8_0,e1,AT.out,Option.isSome_some,cond_true]
set_option maxRecDepth 100000 in
theorem lifted8 (hm : True8) (os : Os) (started : os.Started) (H : Type) (enc : TypeId × Value → H) :
    ReturnsInHanded {} Try.checked os 8 .any (Rows.windAtSpec.pre6 enc Try.prog Try.f8 Rows.windAtRow.domain false) (Rows.windAtSpec.post enc Try.prog Try.f8 false true false false):=by
  refine returnsInHanded_of_change (C:=Try.checked) own started (by kernel_rfl) Try.func8
    (ChangeSpec.witness6 (enc:=enc) (C:=Try.checked) false ⟨#[],#[.agg #[.slice none 0 0,.slice none 0 0,.slice none 0 0,.int .i64 0,.int .i64 0],.agg #[.int .i64 0,.int .i64 0,.int .i64 0]],[]⟩ 8 (by kernel_rfl) (by kernel_rfl) (by kernel_rfl) (by kernel_rfl)) ?_
  intro W base args ds gs before hval0 hW hcnd _
  have hval : ∀ (j : Nat) t v,Try.f8.params[j]? = some t → args[j]? = some v → Value.okWide Try.prog W .any base t v:=hval0
  have hW':=hW
  obtain ⟨p,q,hA0,hV,rfl,hfz,hnd⟩:=hW
  have hA : DataW.TrodAll enc Try.prog W 0 (fun _=>true) true Try.f8.params.toList args.toList ds p:=hA0
  rw [Try.params8] at hA hval
  obtain ⟨v0,vs0,d0,ds0,p0,q0,hargs,rfl,rfl,h0,r0⟩:=trodAll_cons hA
  obtain ⟨v1,vs1,d1,ds1,p1,q1,rfl,rfl,rfl,h1,r1⟩:=trodAll_cons r0
  obtain ⟨rfl,rfl,rfl⟩:=trodAll_nil r1
  obtain rfl : args = #[v0,v1]:=by cases args; simp_all
  obtain ⟨rfl,rfl⟩:=trodVars_none hV
  have k0:=h0
  have k1:=h1
  have lt0 : ∀ x ∈ p0,x.block < W.heap.size:=by obtain ⟨m,hm⟩:=k0; exact DataW.trod_lt m _ _ _ hm
  have lt1 : ∀ x ∈ p1,x.block < W.heap.size:=by obtain ⟨m,hm⟩:=k1; exact DataW.trod_lt m _ _ _ hm
  obtain ⟨abs,u0,c1,n1,c2,n2,c3,n3,age,shear,rfl,g1,g2,g3,w4,w5⟩:=tskArg (hval 0 26 v0 rfl rfl) h0
  obtain ⟨x0,x1,x2,u1,y0,y1,y2⟩:=threeArg (hval 1 50 v1 rfl rfl) h1
  clear hA0 hval0
  refine (calls_frozen (law8 hm (age:=age) (shear:=shear) (x0:=x0) (x1:=x1) (x2:=x2) g1 g2 g3 w4 w5 y0 y1 y2) rfl (((VRs.nil _).push u0).push u1)).mono fun e W' ⟨he,bel⟩=>?_
  subst he
  exact ⟨_,rfl,_,_,_,[],_,[],hW',trodAll_mk1 (shut_bool Try.underlying4 _),(trodAll_cons_mk (Below.trod laidOut (by kernel_rfl) (of_decide_eq_true (by kernel_rfl)) k0 bel lt0) (trodAll_cons_mk (Below.trod laidOut (by kernel_rfl) (of_decide_eq_true (by kernel_rfl)) k1 bel lt1) trodAll_mk0)),rfl,bel.frame _,fun h=>by cases h⟩
theorem over8 (hm : True8) : Rows.windAtRow.holds Try.pinned (OpenSpec.ofChange Rows.windAtSpec) :=
  OpenClaim.holds_of_wide 8 Try.f8 rfl rfl rfl rfl rfl rfl rfl ⟨rfl,rfl,rfl,rfl,rfl⟩ rfl rfl rfl rfl rfl (by kernel_rfl) Try.func8 (by kernel_rfl)
    (of_decide_eq_true (by kernel_rfl)) (by unfold Func.isWrapper; first | (rw [if_pos (by decide +kernel)]; kernel_rfl) | (rw [if_neg (by decide +kernel)]; exact ⟨rfl,rfl⟩))
    (fun os started H enc _=>lifted8 hm os started H enc)
theorem at_of (hm : True8) : Rows.WindAtSaid:=over8 hm
end Go.Proofs.Ytjdidbnmkogflaa

namespace Go.Proofs.Ytjdidbnmkogflaa
open Go.Gi Go.RowKit Go.Proofs.Ytjdidbnmkogflaa.Old
noncomputable section
set_option maxRecDepth 100000
set_option linter.unusedVariables false
set_option linter.unusedSimpArgs false
def tkB (x : Int) : Bool:=decide (0 ≤ x) && decide (x ≤ 100000)
def hgB (x : Int) : Bool:=decide (0 ≤ x) && decide (x ≤ 99999999)
theorem F70_of (a : Int) : F70_ok a = true ∧ F70_0 a = hgB a:=by
  have h : F70 a = some ⟨hgB a⟩:=by
    have e : decide (a < 100000000) = decide (a ≤ 99999999):=by rw [decide_eq_decide]; omega
    unfold F70 rt70 hgB
    by_cases h : 0 ≤ a <;> simp [RT.val,h,e]
  exact ⟨by simp [F70_ok,h],by simp [F70_0,h]⟩
theorem F71_of (a : Int) : F71_ok a = true ∧ F71_0 a = hgB a:=by
  have h : F71 a = some ⟨hgB a⟩:=by
    unfold F71 rt71
    simp only [RT.val,F63_ok_eq,F63_0_eq,cond_true]; rfl
  exact ⟨by simp [F71_ok,h],by simp [F71_0,h]⟩
section
variable {c0 c c3 : Array Value} {n n2 n3 : Nat} {age shear h x y : Int}
def atS (c0 c c3 : Array Value) (n n2 n3 : Nat) (age shear h x y : Int) : Hd × Int :=
  if F20_2 c0 0 n c 0 n2 c3 0 n3 age shear = 0 then
    (if (hgB h && (tkB x && tkB y)) = true then
      (match ansO c0 c n n2 age shear h h x y with
       | some H=>(H,0)
       | none=>(⟨0,0,0,0,false⟩,9))
     else (⟨0,0,0,0,false⟩,7))
  else (⟨0,0,0,0,false⟩,F20_2 c0 0 n c 0 n2 c3 0 n3 age shear)
theorem hgQ (hh : hgB h = true) (hx : tkB x = true) (hy : tkB y = true) : Qst h h x y:=by
  simp only [hgB,tkB,Bool.and_eq_true,decide_eq_true_eq] at hh hx hy
  exact ⟨⟨by omega,by omega⟩,⟨by omega,by omega⟩,hx,hy⟩
theorem F40_eq (g1 : GL L7 7 c0 n) (g2 : GL L5 5 c n2) (g3 : GL L1 1 c3 n3) : F40 c0 0 n c 0 n2 c3 0 n3 age shear h x y =
    some ⟨(atS c0 c c3 n n2 n3 age shear h x y).1.xl,(atS c0 c c3 n n2 n3 age shear h x y).1.xh,(atS c0 c c3 n n2 n3 age shear h x y).1.yl,(atS c0 c c3 n n2 n3 age shear h x y).1.yh,(atS c0 c c3 n n2 n3 age shear h x y).2⟩:=by
  have hok:=F20_ok_of (age:=age) (shear:=shear) g1 g2 g3
  obtain ⟨k1,k2⟩:=F70_of h
  have k4 : F91_0 h h x y = (tkB x && tkB y):=F91_0_eq h h x y
  unfold F40 rt40 atS
  by_cases hz : F20_2 c0 0 n c 0 n2 c3 0 n3 age shear = 0
  · obtain ⟨hv,_,hc⟩:=vld g1 g2 g3 hz
    rw [if_pos hz]
    by_cases hh : hgB h = true
    · by_cases hxy : (tkB x && tkB y) = true
      · rw [if_pos (by rw [hh,hxy]; rfl)]
        have hq:=hgQ hh (Bool.and_eq_true _ _ ▸ hxy).1 (Bool.and_eq_true _ _ ▸ hxy).2
        have h81 : F81ok c0 0 n c 0 n2 c3 0 n3 age shear h h x y = true:=dec_iff.2 ⟨hok,hz,hq⟩
        cases ha : ansO c0 c n n2 age shear h h x y with
        | none =>
          obtain ⟨f1,f2⟩:=F92_none hv h81 ha
          simp only [RT.val,hok,hz,k1,k2,hh,F91_ok_eq,k4,hxy,f1,f2,decide_true,Bool.not_true,Bool.not_false,cond_true,cond_false]
        | some H =>
          obtain ⟨f1,f2,f3,f4,f5,f6⟩:=F92_some hv h81 ha
          simp only [RT.val,hok,hz,k1,k2,hh,F91_ok_eq,k4,hxy,f1,f2,f3,f4,f5,f6,decide_true,Bool.not_true,cond_true,cond_false]
      · rw [if_neg (by rw [hh]; simpa using hxy)]
        rw [Bool.not_eq_true] at hxy
        simp only [RT.val,hok,hz,k1,k2,hh,F91_ok_eq,k4,hxy,decide_true,Bool.not_true,Bool.not_false,cond_true,cond_false]
    · rw [if_neg (by simp [hh])]
      rw [Bool.not_eq_true] at hh
      simp only [RT.val,hok,hz,k1,k2,hh,decide_true,Bool.not_true,Bool.not_false,cond_true,cond_false]
  · rw [if_neg hz]
    simp only [RT.val,hok,hz,decide_false,Bool.not_false,cond_true]
theorem F41_eq (g1 : GL L7 7 c0 n) (g2 : GL L5 5 c n2) (g3 : GL L1 1 c3 n3) : F41 c0 0 n c 0 n2 c3 0 n3 age shear h x y =
    some ⟨(atS c0 c c3 n n2 n3 age shear h x y).1.xl,(atS c0 c c3 n n2 n3 age shear h x y).1.xh,(atS c0 c c3 n n2 n3 age shear h x y).1.yl,(atS c0 c c3 n n2 n3 age shear h x y).1.yh,(atS c0 c c3 n n2 n3 age shear h x y).2⟩:=by
  have hok:=F20_ok_of (age:=age) (shear:=shear) g1 g2 g3
  obtain ⟨k1,k2⟩:=F71_of h
  have k5 : F76_0 x = tkB x:=F76_0_eq x
  have k6 : F76_0 y = tkB y:=F76_0_eq y
  unfold F41 rt41 atS
  by_cases hz : F20_2 c0 0 n c 0 n2 c3 0 n3 age shear = 0
  · obtain ⟨hv,_,hc⟩:=vld g1 g2 g3 hz
    rw [if_pos hz]
    by_cases hh : hgB h = true
    · by_cases hx : tkB x = true
      · by_cases hy : tkB y = true
        · rw [if_pos (by rw [hh,hx,hy]; rfl)]
          have hq:=hgQ hh hx hy
          cases ha : ansO c0 c n n2 age shear h h x y with
          | none =>
            obtain ⟨f1,f2⟩:=F93_none (c3:=c3) (n3:=n3) hv hq ha
            simp only [RT.val,hok,hz,k1,k2,hh,F76_ok_eq,k5,k6,hx,hy,f1,f2,decide_true,Bool.not_true,Bool.not_false,cond_true,cond_false]
          | some H =>
            obtain ⟨f1,f2,f3,f4,f5,f6⟩:=F93_some (c3:=c3) (n3:=n3) hv hq ha
            simp only [RT.val,hok,hz,k1,k2,hh,F76_ok_eq,k5,k6,hx,hy,f1,f2,f3,f4,f5,f6,decide_true,Bool.not_true,cond_true,cond_false]
        · rw [if_neg (by simp [hy])]
          rw [Bool.not_eq_true] at hy
          simp only [RT.val,hok,hz,k1,k2,hh,F76_ok_eq,k5,k6,hx,hy,decide_true,Bool.not_true,Bool.not_false,cond_true,cond_false]
      · rw [if_neg (by simp [hx])]
        rw [Bool.not_eq_true] at hx
        simp only [RT.val,hok,hz,k1,k2,hh,F76_ok_eq,k5,k6,hx,decide_true,Bool.not_true,Bool.not_false,cond_true,cond_false]
    · rw [if_neg (by simp [hh])]
      rw [Bool.not_eq_true] at hh
      simp only [RT.val,hok,hz,k1,k2,hh,decide_true,Bool.not_true,Bool.not_false,cond_true,cond_false]
  · rw [if_neg hz]
    simp only [RT.val,hok,hz,decide_false,Bool.not_false,cond_true,cond_false]
def bnS (c0 c c3 : Array Value) (n n2 n3 : Nat) (age shear x y : Int) : List Bd × Int :=
  if F20_2 c0 0 n c 0 n2 c3 0 n3 age shear = 0 then
    (if (tkB x && tkB y) = true then
      (match bnds c0 c c3 n n2 age shear x y n3 0 with
       | some R=>(R,0)
       | none=>([],9))
     else ([],7))
  else ([],F20_2 c0 0 n c 0 n2 c3 0 n3 age shear)
theorem tkQ {k : Nat} (hc : ∀ k,k < n3 → 1 ≤ getInt c3 k ∧ getInt c3 k ≤ 100000000) (hk : k < n3) (hxy : (tkB x && tkB y) = true) : Qst (wLo c3 (k : Int)) (wHi c3 (k : Int)) x y :=
  qst hc (show qErr n3 (k : Int) x y = 0 by
    unfold qErr
    rw [if_neg (by omega)]
    exact if_pos hxy)
theorem F42_eq (g1 : GL L7 7 c0 n) (g2 : GL L5 5 c n2) (g3 : GL L1 1 c3 n3) : F42 c0 0 n c 0 n2 c3 0 n3 age shear x y =
    some ⟨arrB (bnS c0 c c3 n n2 n3 age shear x y).1,0,(bnS c0 c c3 n n2 n3 age shear x y).1.length,(bnS c0 c c3 n n2 n3 age shear x y).2⟩:=by
  have hok:=F20_ok_of (age:=age) (shear:=shear) g1 g2 g3
  have k4 : F91_0 0 0 x y = (tkB x && tkB y):=F91_0_eq 0 0 x y
  unfold F42 rt42 bnS
  by_cases hz : F20_2 c0 0 n c 0 n2 c3 0 n3 age shear = 0
  · obtain ⟨hv,hn,hc⟩:=vld g1 g2 g3 hz
    rw [if_pos hz]
    by_cases hxy : (tkB x && tkB y) = true
    · rw [if_pos hxy]
      obtain ⟨a,b,hL⟩:=loop42 (tick:=x) (now:=y) hv g3 (by omega) (fun k hk=>dec_iff.2 ⟨hok,hz,tkQ hc hk hxy⟩) n3 0 [] 0 0 (by omega) rfl
      have hL' : L42_0 ⟨none,c3,0,n3,Int.ofNat n3,0,c0,0,n,c,0,n2,c3,0,n3,age,shear,0,0,x,y⟩ = _:=hL
      cases hb : bnds c0 c c3 n n2 age shear x y n3 0 with
      | none =>
        rw [hb] at hL'
        simp only [RT.val,hok,hz,F91_ok_eq,k4,hxy,eqCode_self,L42_0_k0,L42_0_k0_0,L42_0_k0_1,L42_0_k0_2,L42_0_k0_3,hL',decide_true,Bool.not_true,cond_true,cond_false]
        rfl
      | some R =>
        rw [hb] at hL'
        simp only [RT.val,hok,hz,F91_ok_eq,k4,hxy,eqCode_self,L42_0_k0,L42_0_k1,L42_0_k1_0,L42_0_k1_1,L42_0_k1_2,hL',decide_true,Bool.not_true,cond_true,cond_false,List.nil_append]
    · rw [if_neg hxy]
      rw [Bool.not_eq_true] at hxy
      simp only [RT.val,hok,hz,F91_ok_eq,k4,hxy,decide_true,Bool.not_true,Bool.not_false,cond_true,cond_false]
      rfl
  · rw [if_neg hz]
    simp only [RT.val,hok,hz,decide_false,Bool.not_false,cond_true]
    rfl
theorem loop43 (hv : Vld c0 0 n c 0 n2 age shear) (g3 : GL L1 1 c3 n3) (few : n3 ≤ 1000) (hc : ∀ k,k < n3 → 1 ≤ getInt c3 k ∧ getInt c3 k ≤ 100000000) (hxy : (tkB x && tkB y) = true) :
    ∀ (m k : Nat) (L : List Bd),k + m = n3 → L.length = k →
    loopR rd43_0
      ⟨encB L,x,y,(k : Int),c0,0,n,c,0,n2,c3,0,n3,age,shear⟩ =
    some (match bnds c0 c c3 n n2 age shear x y m k with
      | none=>.k0 ⟨[]⟩ 0 0 9 c0 0 n c 0 n2 c3 0 n3 age shear
      | some R=>.k1 (arrB (L ++ R)) 0 (L ++ R).length c0 0 n c 0 n2 c3 0 n3 age shear)
  | 0,k,L,e,hl=>loopR_done (by
      obtain rfl : k = n3:=by omega
      have h1 : ¬ ((k : Int) < (k : Int)):=by omega
      cases L with
      | nil=>simp only [rd43_0,encB,RT.val,h1,Int.ofNat_eq_natCast,decide_false,cond_false,bnds]; rfl
      | cons a r =>
        simp only [rd43_0,encB,RT.val,h1,Int.ofNat_eq_natCast,decide_false,cond_false,cond_true,allFz_arrB,size_arrB,Nat.zero_add,Nat.le_refl,decide_true,Bool.and_self,bnds,List.append_nil])
  | m + 1,k,L,e,hl=>by
    have hki : (k : Int) < (n3 : Int):=by omega
    have h3 : IntKind.wrap .i64 ((k : Int) + 1) = ((k + 1 : Nat) : Int):=by rw [wrap64_id (by omega) (by omega)]; omega
    obtain ⟨w1,w2,w3⟩:=F84_of (c1:=c0) (c2:=c) (n1:=n) (n2:=n2) (age:=age) (shear:=shear) (k:=(k : Int)) g3 (by omega) (by omega)
    have hcut:=hc k (by omega)
    have hw : IntKind.wrap .i64 (wHi c3 (k : Int) + 1) = getInt c3 k:=by
      unfold wHi
      rw [Int.toNat_natCast,wrap64_id (x:=getInt c3 k - 1) (by omega) (by omega),wrap64_id (by omega) (by omega)]
      omega
    have hq:=tkQ hc (show k < n3 by omega) hxy
    cases ha : ansO c0 c n n2 age shear (wLo c3 (k : Int)) (wHi c3 (k : Int)) x y with
    | none =>
      obtain ⟨f1,f2⟩:=F93_none (c3:=c3) (n3:=n3) hv hq ha
      refine loopR_done ?_
      cases L with
      | nil=>simp only [rd43_0,encB,RT.val,Int.ofNat_eq_natCast,hki,w1,w2,w3,f1,f2,decide_true,Bool.and_self,Bool.not_false,cond_true,bnds,ha]
      | cons a r=>simp only [rd43_0,encB,RT.val,Int.ofNat_eq_natCast,hki,w1,w2,w3,f1,f2,decide_true,Bool.and_self,Bool.not_false,cond_true,bnds,ha]
    | some h =>
      obtain ⟨f1,f2,f3,f4,f5,f6⟩:=F93_some (c3:=c3) (n3:=n3) hv hq ha
      have ih:=loop43 hv g3 few hc hxy m (k + 1) (L ++ [⟨wLo c3 (k : Int),getInt c3 k,h.xl,h.xh,h.yl,h.yh⟩]) (by omega) (by simp; omega)
      refine (loopR_next ?_).trans (ih.trans ?_)
      · cases L with
        | nil =>
          simp only [rd43_0,encB,RT.val,Int.ofNat_eq_natCast,hki,w1,w2,w3,hw,f1,f2,f3,f4,f5,f6,decide_true,Bool.and_self,Bool.not_true,cond_true,cond_false,h3]
          rfl
        | cons q r =>
          have hb:=apB_arrB (q :: r) ⟨wLo c3 (k : Int),getInt c3 k,h.xl,h.xh,h.yl,h.yh⟩
          simp only [Bd.row] at hb
          have hl1 : ((q :: r).length + 1) * 48 ≤ 140737488355328 ∧ (q :: r).length + 1 ≤ 4611686018427387904 ∧ 0 + (q :: r).length * 6 ≤ (arrB (q :: r)).size:=by rw [size_arrB]; omega
          simp only [rd43_0,encB,RT.val,Int.ofNat_eq_natCast,hki,w1,w2,w3,hw,f1,f2,f3,f4,f5,f6,decide_true,Bool.and_self,Bool.not_true,cond_true,cond_false,h3,hb,allFz_arrB,hl1.1,hl1.2.1,hl1.2.2]
          simp [encB]
      · conv=>rhs; unfold bnds
        rw [ha]
        cases bnds c0 c c3 n n2 age shear x y m (k + 1) with
        | none=>rfl
        | some R=>simp
theorem F43_eq (g1 : GL L7 7 c0 n) (g2 : GL L5 5 c n2) (g3 : GL L1 1 c3 n3) : F43 c0 0 n c 0 n2 c3 0 n3 age shear x y =
    some ⟨arrB (bnS c0 c c3 n n2 n3 age shear x y).1,0,(bnS c0 c c3 n n2 n3 age shear x y).1.length,(bnS c0 c c3 n n2 n3 age shear x y).2⟩:=by
  have hok:=F20_ok_of (age:=age) (shear:=shear) g1 g2 g3
  have k5 : F76_0 x = tkB x:=F76_0_eq x
  have k6 : F76_0 y = tkB y:=F76_0_eq y
  unfold F43 rt43 bnS
  by_cases hz : F20_2 c0 0 n c 0 n2 c3 0 n3 age shear = 0
  · obtain ⟨hv,hn,hc⟩:=vld g1 g2 g3 hz
    rw [if_pos hz]
    by_cases hx : tkB x = true
    · by_cases hy : tkB y = true
      · have hxy : (tkB x && tkB y) = true:=by rw [hx,hy]; rfl
        rw [if_pos hxy]
        have hL:=loop43 (x:=x) (y:=y) hv g3 (by omega) hc hxy n3 0 [] (by omega) rfl
        have hL' : L43_0 ⟨none,x,y,0,c0,0,n,c,0,n2,c3,0,n3,age,shear⟩ = _:=hL
        cases hb : bnds c0 c c3 n n2 age shear x y n3 0 with
        | none =>
          rw [hb] at hL'
          simp only [RT.val,hok,hz,F76_ok_eq,k5,k6,hx,hy,eqCode_self,L43_0_k0,L43_0_k0_0,L43_0_k0_1,L43_0_k0_2,L43_0_k0_3,hL',decide_true,Bool.not_true,cond_true,cond_false]
          rfl
        | some R =>
          rw [hb] at hL'
          simp only [RT.val,hok,hz,F76_ok_eq,k5,k6,hx,hy,eqCode_self,L43_0_k0,L43_0_k1,L43_0_k1_0,L43_0_k1_1,L43_0_k1_2,hL',decide_true,Bool.not_true,cond_true,cond_false,List.nil_append]
      · rw [if_neg (by simp [hy])]
        rw [Bool.not_eq_true] at hy
        simp only [RT.val,hok,hz,F76_ok_eq,k5,k6,hx,hy,decide_true,Bool.not_true,Bool.not_false,cond_true,cond_false]
        rfl
    · rw [if_neg (by simp [hx])]
      rw [Bool.not_eq_true] at hx
      simp only [RT.val,hok,hz,F76_ok_eq,k5,k6,hx,decide_true,Bool.not_true,Bool.not_false,cond_true,cond_false]
      rfl
  · rw [if_neg hz]
    simp only [RT.val,hok,hz,decide_false,Bool.not_false,cond_true,cond_false]
    rfl
end
theorem true8 : True8:=by
  intro c1 n1 c2 n2 c3 n3 age shear x0 x1 x2 g1 g2 g3 _ _ _ _ _
  have e1:=F40_eq (age:=age) (shear:=shear) (h:=x0) (x:=x1) (y:=x2) g1 g2 g3
  have e2:=F41_eq (age:=age) (shear:=shear) (h:=x0) (x:=x1) (y:=x2) g1 g2 g3
  have e3:=F42_eq (age:=age) (shear:=shear) (x:=x1) (y:=x2) g1 g2 g3
  have e4:=F43_eq (age:=age) (shear:=shear) (x:=x1) (y:=x2) g1 g2 g3
  have hlen : (bnS c1 c2 c3 n1 n2 n3 age shear x1 x2).1.length ≤ maxLen:=by
    have hf:=g3.few
    unfold bnS
    split
    · split
      · split
        · rename_i R hR
          rw [bnds_len _ _ _ hR]; exact hf
        · exact Nat.zero_le _
      · exact Nat.zero_le _
    · exact Nat.zero_le _
  obtain ⟨s1,s2⟩:=F44_self (c:=arrB (bnS c1 c2 c3 n1 n2 n3 age shear x1 x2).1) (o:=0) (n:=(bnS c1 c2 c3 n1 n2 n3 age shear x1 x2).1.length) (fun i hi=>rdOk_arrB _ hi) hlen
  unfold rt8
  simp only [RT.val,F40_ok,F40_0,F40_1,F40_2,F40_3,F40_4,F41_ok,F41_0,F41_1,F41_2,F41_3,F41_4,F42_ok,F42_0,F42_1,F42_2,F42_3,F43_ok,F43_0,F43_1,F43_2,F43_3,e1,e2,e3,e4,s1,s2,Option.isSome_some,decide_true,Bool.and_self,Bool.not_true,cond_true,cond_false]
theorem windAtProved : Rows.WindAtSaid:=at_of true8
end
end Go.Proofs.Ytjdidbnmkogflaa

