/- Part 6 of the texts below the claim. Conditions: none. -/
import Derived.Test.YtdidolncblhngaaMg5
import Derived.Deep.Slices
import Derived.WalkKit
import Derived.ProofKit
import Derived.OpenShut
import Derived.ChangeOld
import Derived.Below
import Derived.Deep.Strs
import Derived.ChangeMaps5
import Derived.Test.YtdidolncblhngaaProg
import Derived.Test.YtdidolncblhngaaRows
set_option linter.unusedVariables false
set_option linter.unusedSimpArgs false
namespace Go.Gi
open Go.RowKit
noncomputable section
inductive RT (A:Type) where
  | leaf (a:A)
  | no
  | br (b:Bool) (x y:RT A)
  | sw (b b':Bool) (h:b=b') (x y:RT A)
section
variable {A:Type}
def RT.val:RT A→Option A
  | .leaf a=>some a
  | .no=>none
  | .br b x y=>cond b x.val y.val
  | .sw _ b _ x y=>cond b x.val y.val
def RT.out (enc:A→Out):RT A→Option Out
  | .leaf a=>some (enc a)
  | .no=>none
  | .br b x y=>cond b (x.out enc) (y.out enc)
  | .sw b _ _ x y=>cond b (x.out enc) (y.out enc)
theorem RT.out_val (enc:A→Out):∀r:RT A,r.out enc=r.val.map enc
  | .leaf _=>rfl
  | .no=>rfl
  | .br b x y=>by
    cases b
    · exact RT.out_val enc y
    · exact RT.out_val enc x
  | .sw b b' h x y=>by
    subst h
    cases b
    · exact RT.out_val enc y
    · exact RT.out_val enc x
end
section
variable {X D:Type}
def loopV (round:X→RT (Sum X D)):Nat→X→Option D
  | 0,_=>none
  | n+1,x=>match (round x).val with
    | some (.inl y)=>loopV round n y
    | some (.inr d)=>some d
    | none=>none
theorem loopV_inj {round:X→RT (Sum X D)}:∀{n m:Nat}{x:X} {d d':D},loopV round n x=some d→loopV round m x=some d'→d=d'
  | 0,_,_,_,_,h,_=>by cases h
  | _+1,0,_,_,_,_,h=>by cases h
  | n+1,m+1,x,d,d',h,h'=>by
    unfold loopV at h h'
    split at h
    · rename_i y hy
      rw [hy]at h'
      exact loopV_inj h h'
    · rename_i e he
      rw [he]at h'
      simp only [Option.some.injEq]at h h'
      rw [← h,← h']
    · cases h
def loopK (round:X→RT (Sum X D))(n:Nat):X→Option D :=
  Nat.rec (motive:=fun _=>X→Option D) (fun _=>none) (fun _ ih x=>match (round x).val with
    | some (.inl y)=>ih y
    | some (.inr d)=>some d
    | none=>none) n
theorem loopK_eq (round:X→RT (Sum X D)):∀(n:Nat) (x:X),loopK round n x=loopV round n x
  | 0,_=>rfl
  | n+1,x=>by
    show (match (round x).val with | some (.inl y)=>loopK round n y | some (.inr d)=>some d | none=>none)=_
    unfold loopV
    split
    · exact loopK_eq round n _
    · rfl
    · rfl
open Classical in
def loopC (round:X→RT (Sum X D))(x:X):Option D:=if h:∃n d,loopV round n x=some d then some (Classical.choose (Classical.choose_spec h)) else none
def loopR (round:X→RT (Sum X D))(x:X):Option D:=match loopK round 100000 x with
  | some d=>some d
  | none=>loopC round x
theorem loopC_of {round:X→RT (Sum X D)}{n:Nat}{x:X}{d:D}(h:loopV round n x=some d):loopC round x=some d:=by
  have hex:∃n d,loopV round n x=some d:=⟨n,d,h⟩
  unfold loopC
  rw [dif_pos hex,loopV_inj h (Classical.choose_spec (Classical.choose_spec hex))]
theorem loopR_C (round:X→RT (Sum X D))(x:X):loopR round x=loopC round x:=by
  unfold loopR
  split
  · rename_i d h
    rw [loopK_eq]at h
    exact (loopC_of h).symm
  · rfl
theorem loopR_of {round:X→RT (Sum X D)}{n:Nat}{x:X}{d:D}(h:loopV round n x=some d):loopR round x=some d:=by
  rw [loopR_C]
  exact loopC_of h
theorem loopR_some {round:X→RT (Sum X D)}{x:X}{d:D}(h:loopR round x=some d):∃n,loopV round n x=some d:=by
  rw [loopR_C]at h
  unfold loopC at h
  split at h
  · rename_i hex
    simp only [Option.some.injEq]at h
    exact ⟨_,h ▸ Classical.choose_spec (Classical.choose_spec hex)⟩
  · cases h
theorem loopR_done {round:X→RT (Sum X D)}{x:X}{d:D}(h:(round x).val=some (.inr d)):loopR round x=some d :=
  loopR_of (n:=1) (by unfold loopV;rw [h])
theorem loopR_next {round:X→RT (Sum X D)}{x y:X}(h:(round x).val=some (.inl y)):loopR round x=loopR round y:=by
  cases hy:loopR round y with
  | some d =>
    obtain ⟨n,hn⟩:=loopR_some hy
    exact loopR_of (n:=n+1) (by unfold loopV;rw [h];exact hn)
  | none =>
    cases hx:loopR round x with
    | none=>rfl
    | some d =>
      exfalso
      obtain ⟨n,hn⟩:=loopR_some hx
      cases n with
      | zero=>cases hn
      | succ n =>
        unfold loopV at hn
        rw [h]at hn
        rw [loopR_of hn]at hy;cases hy
def loopAns (c0:Code)(dec:Task→Option (Code×X))(alt:X→List Value→AT)(J:Task→List Value):Ans:=fun t=>match dec t with
  | some (c,x)=>some (.br (eqCode c c0) (alt x (J t)) .no)
  | none=>none
def fnAns (dec:Task→Option (X×Hp))(alt:X→Hp→AT):Ans:=fun t=>match dec t with
  | some (x,h)=>some (alt x h)
  | none=>none
def boxB (m:Nat)(ob:Ob):Bool:=ob.live&&ob.rw&&obSc m ob
theorem kept_box {m:Nat}:∀{H H1:List Ob},H.length=H1.length→H.all (boxB m)=true→H1.all (boxB m)=true→ObsKept m H H1
  | [],[],_,_,_=>.nil
  | a::r,b::s,hl,h,h1=>by
    simp only [List.all_cons,Bool.and_eq_true]at h h1
    refine .cons ?_ (kept_box (by simpa using hl) h.2 h1.2)
    have ha:=h.1
    have hb:=h1.1
    simp only [boxB,Bool.and_eq_true]at ha hb
    simp only [obKept,ha.1.1,ha.1.2,hb.2,Bool.or_true,Bool.and_self]
theorem all_box {m:Nat}{H:List Ob}(h:H.all (boxB m)=true):H.all (obSc m)=true:=by
  rw [List.all_eq_true]at h ⊢
  intro ob hob
  have:=h ob hob
  simp only [boxB,Bool.and_eq_true]at this
  exact this.2
structure LoopOf (X D:Type) where
  c:Code
  N:Nat
  M:Nat
  S:List Nat
  sl:X→List Value
  hp:X→List Ob
  ex:D→Ex
  pick:Ex→List Nat
  dv:D→List Value
  dh:D→List Ob
def LoopOf.pk (L:LoopOf X D):Ex→List Nat
  | .normal=>L.S
  | e=>L.pick e
def LoopOf.enc (L:LoopOf X D):Sum X D→Out
  | .inl x=>.ex .normal ⟨L.sl x,[],⟨L.hp x,L.N,[]⟩⟩
  | .inr d=>.ex (L.ex d) ⟨L.dv d,[],⟨L.dh d,L.N,[]⟩⟩
def LoopOf.head (L:LoopOf X D)(x:X)(j:List Value):Task:=.code none L.c ⟨sets (junkF L.N j) (L.S.zip (L.sl x)),[],⟨L.hp x,0,[]⟩⟩
def LoopOf.tail (L:LoopOf X D)(d:D)(j:List Value):Out:=.ex (L.ex d) ⟨sets (junkF L.N j) ((L.pick (L.ex d)).zip (L.dv d)),[],⟨L.dh d,0,[]⟩⟩
structure LoopOf.Ok (L:LoopOf X D):Prop where
  s1:∀x,(L.sl x).length=L.S.length
  s2:∀x,(L.sl x).all (fun v=>notU v&&scT L.M v)=true
  h1:∀x,(L.hp x).length=L.M
  h2:∀x,(L.hp x).all (boxB L.M)=true
  d1:∀d,(L.dv d).all (fun v=>notU v&&scT L.M v)=true
  d2:∀d,(L.dh d).length=L.M
  d3:∀d,(L.dh d).all (boxB L.M)=true
  e1:∀d,L.ex d≠.normal
  e2:∀d,noPanic (L.ex d)=true
  e3:∀d,(L.pick (L.ex d)).length=(L.dv d).length
theorem code_ne (c:Code):c≠.loop c:=by
  intro h
  have:=congrArg SizeOf.sizeOf h
  simp at this
theorem zip_get {α β:Type}{L:List α}{f:α→β}{x:α}{y:β}(h:(x,y)∈L.zip (L.map f)):y=f x:=by
  rw [List.zip_map_right]at h
  obtain ⟨⟨u,v⟩,huv,he⟩:=List.mem_map.1 h
  have:=zip_same huv
  subst this
  simp only [Prod.map,id,Prod.mk.injEq]at he
  rw [← he.1,← he.2]
theorem lget_sets {L:LoopOf X D}(hnd:L.S.Nodup) (hlt:∀k∈L.S,k<L.N) (x:X) (j:List Value):∀kv∈L.S.zip (L.sl x),lget (sets (junkF L.N j) (L.S.zip (L.sl x))) kv.1=kv.2:=by
  have hlen:∀(m i:Nat),(junkFrom j m i).length=m:=by
    intro m
    induction m with
    | zero=>intro i;rfl
    | succ m ih=>intro i;simp [junkFrom,ih]
  have hset:∀(t:List Value) (k:Nat) (v:Value),lset t k v=t.set k v:=by
    intro t
    induction t with
    | nil=>intro k v;rfl
    | cons y r ih=>intro k v;cases k with | zero=>rfl | succ k=>simp [lset,ih]
  have key:∀(S:List Nat) (vs:List Value) (t:List Value),S.Nodup→(∀k∈S,k<t.length)→(sets t (S.zip vs)).length=t.length∧(∀kv∈S.zip vs,lget (sets t (S.zip vs)) kv.1=kv.2)∧(∀k,k ∉ S→(sets t (S.zip vs))[k]?=t[k]?):=by
    intro S
    induction S with
    | nil=>intro vs t _ _;exact ⟨rfl,fun kv h=>by simp at h,fun k _=>rfl⟩
    | cons k S ih =>
      intro vs t hn hl
      cases vs with
      | nil=>exact ⟨rfl,fun kv h=>by simp at h,fun k _=>rfl⟩
      | cons v vs =>
        rw [List.nodup_cons]at hn
        have hl':∀k'∈S,k' < (lset t k v).length:=fun k' hk'=>by rw [hset,List.length_set];exact hl k' (List.mem_cons_of_mem _ hk')
        obtain ⟨i1,i2,i3⟩:=ih vs (lset t k v) hn.2 hl'
        refine ⟨?_,?_,?_⟩
        · show (sets (lset t k v) (S.zip vs)).length=_
          rw [i1,hset,List.length_set]
        · intro kv hkv
          show lget (sets (lset t k v) (S.zip vs)) kv.1=kv.2
          simp only [List.zip_cons_cons,List.mem_cons]at hkv
          rcases hkv with rfl | hkv
          · rw [lget_eq,Array.getD_eq_getD_getElem?,List.getElem?_toArray,i3 k hn.1,hset,List.getElem?_set_self (hl k (List.mem_cons_self ..))]
            rfl
          · exact i2 kv hkv
        · intro k' hk'
          show (sets (lset t k v) (S.zip vs))[k']?=_
          simp only [List.mem_cons,not_or]at hk'
          rw [i3 k' hk'.2,hset,List.getElem?_set_ne (Ne.symm hk'.1)]
  exact (key L.S (L.sl x) (junkF L.N j) hnd (fun k hk=>by unfold junkF;rw [hlen];exact hlt k hk)).2.1
theorem len_sets {j:List Value}{n:Nat}(l:List (Nat×Value)):(sets (junkF n j) l).length=n:=by
  have hlen:∀(m i:Nat),(junkFrom j m i).length=m:=by
    intro m
    induction m with
    | zero=>intro i;rfl
    | succ m ih=>intro i;simp [junkFrom,ih]
  have hset:∀(t:List Value) (k:Nat) (v:Value),(lset t k v).length=t.length:=by
    intro t
    induction t with
    | nil=>intro k v;rfl
    | cons y r ih=>intro k v;cases k with | zero=>rfl | succ k=>simp [lset,ih]
  have:∀(l:List (Nat×Value)) (t:List Value),(sets t l).length=t.length:=by
    intro l
    induction l with
    | nil=>intro t;rfl
    | cons kv l ih=>intro t;show (sets (lset t kv.1 kv.2) l).length=_;rw [ih,hset]
  rw [this];exact hlen n 0
section
variable {P:Program}(hN:NoNG P) (hm:P.follows .mixedOrders=true)
include hN hm
theorem Known.factK {a:Ans}(hk:Known P a) {n:Nat}{t:Task}{k:Kn}{r:Out}(h:evC P a.c n t k=some r):∃o,k o=some r∧Fact P t o:=by
  obtain ⟨o',h1,h2⟩:=evC_ok (P:=P) a.oc n t k r h
  have hd:DrawnOk P drawnX:=fun self hs rd id os s o h=>drawnX_ok hN hm self hs rd id os s o h
  have hh:=iterO_ok (drawn:=drawnX) hN hd hk.selfOk hk.loopOk n
  refine ⟨o',h2,hh.1 _ _ h1,?_⟩
  unfold LoopFact
  split
  · exact fun hb=>hh.2 _ _ _ _ _ h1 hb
  · trivial
open Classical in
theorem Fact.loopNext {c:Code}{s s1 s2:St}{e:Ex}(h1:Fact P (.code none c s) (.ex .normal s1)) (h2:Fact P (.code none (.loop c) s1) (.ex e s2)):Fact P (.code none (.loop c) s) (.ex e s2):=by
  let a:Ans:=fun t=>if t=.code none c s then some (.leaf (.ex .normal s1)) else if t=.code none (.loop c) s1 then some (.leaf (.ex e s2)) else none
  have hk:Known P a:=by
    intro t x o ht ho
    simp only [a]at ht
    split at ht
    · rename_i e1
      simp only [Option.some.injEq]at ht
      subst ht e1
      simp only [AT.out,Option.some.injEq]at ho
      subst ho;exact h1
    · split at ht
      · rename_i e1
        simp only [Option.some.injEq]at ht
        subst ht e1
        simp only [AT.out,Option.some.injEq]at ho
        subst ho;exact h2
      · cases ht
  have e1:a (.code none c s)=some (.leaf (.ex .normal s1)):=if_pos rfl
  have e2:a (.code none (.loop c) s1)=some (.leaf (.ex e s2)):=by
    show (if _ then _ else _)=_
    rw [if_neg (by intro h;injection h with _ h _;exact code_ne c h.symm),if_pos rfl]
  refine hk.step hN hm (n:=1) ?_
  simp only [evS,stepC,evC,Ans.c,e1,e2,AT.run]
open Classical in
theorem Fact.loopDone {c:Code}{s s2:St}{e:Ex}(h1:Fact P (.code none c s) (.ex e s2)) (he:e≠.normal):Fact P (.code none (.loop c) s) (.ex e s2):=by
  let a:Ans:=fun t=>if t=.code none c s then some (.leaf (.ex e s2)) else none
  have hk:Known P a:=by
    intro t x o ht ho
    simp only [a]at ht
    split at ht
    · rename_i e1
      simp only [Option.some.injEq]at ht
      subst ht e1
      simp only [AT.out,Option.some.injEq]at ho
      subst ho;exact h1
    · cases ht
  have e1:a (.code none c s)=some (.leaf (.ex e s2)):=if_pos rfl
  refine hk.step hN hm (n:=1) ?_
  cases e with
  | normal=>exact absurd rfl he
  | _=>simp only [evS,stepC,evC,Ans.c,e1,AT.run]
theorem LoopOf.round {L:LoopOf X D}(ok:L.Ok) {a:Ans}(hk:Known P a) {n:Nat}{rd:X→RT (Sum X D)}
    (hr:∀x j,evC P a.c n (L.head x j) (sumK L.M L.N L.pk)=(rd x).out L.enc) {x:X} {y:Sum X D} (hy:(rd x).val=some y) {t:List Value} (ht:t.length=L.N) (hS:∀kv∈L.S.zip (L.sl x),lget t kv.1=kv.2) :
    ∃j,Fact P (.code none L.c ⟨t,[],⟨L.hp x,0,[]⟩⟩) (match y with
      | .inl x'=>.ex .normal ⟨sets (junkF L.N j) (L.S.zip (L.sl x')),[],⟨L.hp x',0,[]⟩⟩
      | .inr d=>L.tail d j):=by
  have h1:=hr x (t.map lo)
  rw [RT.out_val,hy,Option.map_some]at h1
  obtain ⟨o,h2,hf⟩:=hk.factK hN hm h1
  have hmem:∀{l:List Value},l.all (fun v=>notU v&&scT L.M v)=true→∀v∈l,notU v=true∧scT L.M v=true:=by
    intro l hl v hv
    rw [List.all_eq_true]at hl
    have:=hl v hv
    rw [Bool.and_eq_true]at this
    exact this
  have hsl:=hmem (ok.s2 x)
  have hM:=ok.h1 x
  have hgo:∀(e:Ex) (T:List Value) (H1:List Ob),L.pk e=L.pk e→noPanic e=true→H1.length=L.M→H1.all (boxB L.M)=true→T.all (fun v=>notU v&&scT L.M v)=true →
      some o=some o→sumK L.M L.N L.pk o=some (.ex e ⟨T,[],⟨H1,L.N,[]⟩⟩)→∃j,Fact P (.code none L.c ⟨t,[],⟨L.hp x,0,[]⟩⟩) (.ex e ⟨sets (junkF L.N j) ((L.pk e).zip T),[],⟨H1,0,[]⟩⟩):=by
    intro e T H1 _ he hl1 hb1 hT _ hs
    unfold sumK at hs
    split at hs
    · rename_i e' s _
      split at hs
      · rename_i hd
        split at hs
        case h_2=>cases hs
        rename_i hlen
        simp only [Option.some.injEq,Out.ex.injEq,St.mk.injEq,Hp.mk.injEq]at hs
        obtain ⟨rfl,k2,_,k3,_,k5⟩:=hs
        have k4:=lenIs_eq _ _ hlen
        obtain ⟨LL,d,bl,base1,wr2⟩:=s
        simp only at hd k2 k3 k4 k5
        subst hd k5
        refine ⟨LL.map lo,?_⟩
        have hbl:bl=H1++bl.drop L.M:=by rw [← k3,List.take_append_drop]
        rw [hbl]at hf
        have hf':Fact P (.code none L.c ⟨sets (junkF L.N (t.map lo)) (L.S.zip (L.sl x)),[],⟨L.hp x,0,[]⟩⟩) (.ex e' ⟨LL,[],⟨H1++bl.drop L.M,base1,[]⟩⟩):=hf
        have:=hf'.forget (G:=[]) (t:=t) (T:=sets (junkF L.N (LL.map lo)) ((L.pk e').zip T)) (Nat.zero_le _) (kept_box (m:=(L.hp x).length) (by rw [hM,hl1]) (by rw [hM];exact ok.h2 x) (by rw [hM];exact hb1)) (by rw [hM];exact all_box (ok.h2 x))
          (slotRs_known ht fun kv hkv=>?_) (slotRs_known k4 fun kv hkv=>?_) he
        · rw [List.append_nil,List.append_nil]at this
          exact this
        · have hv:kv.2∈L.sl x:=(List.of_mem_zip hkv).2
          exact ⟨getElem_of_lget (hS kv hkv) (hsl _ hv).1,by rw [hM];exact (hsl _ hv).2⟩
        · have hv:kv.2∈T:=(List.of_mem_zip hkv).2
          rw [← k2]at hkv
          have:=zip_get (show (kv.1,kv.2)∈(L.pk e').zip ((L.pk e').map (lget LL)) from hkv)
          exact ⟨getElem_of_lget this.symm (hmem hT _ hv).1,by rw [hM];exact (hmem hT _ hv).2⟩
      · cases hs
    · cases hs
  cases y with
  | inl x'=>exact hgo .normal (L.sl x') (L.hp x') rfl rfl (ok.h1 x') (ok.h2 x') (ok.s2 x') rfl h2
  | inr d =>
    obtain ⟨j,hj⟩:=hgo (L.ex d) (L.dv d) (L.dh d) rfl (ok.e2 d) (ok.d2 d) (ok.d3 d) (ok.d1 d) rfl h2
    refine ⟨j,?_⟩
    have e:L.pk (L.ex d)=L.pick (L.ex d):=by
      have:=ok.e1 d
      generalize L.ex d=q at this
      cases q<;>first | rfl | exact absurd rfl this
    rw [e]at hj
    exact hj
theorem LoopOf.fact {L:LoopOf X D}(ok:L.Ok) (hnd:L.S.Nodup) (hlt:∀k∈L.S,k<L.N) {a:Ans}(hk:Known P a) {n:Nat}{rd:X→RT (Sum X D)}
    (hr:∀x j,evC P a.c n (L.head x j) (sumK L.M L.N L.pk)=(rd x).out L.enc):∀{m:Nat} {x:X} {d:D},loopV rd m x=some d→∀{t:List Value},t.length=L.N→(∀kv∈L.S.zip (L.sl x),lget t kv.1=kv.2) →
    ∃j,Fact P (.code none (.loop L.c) ⟨t,[],⟨L.hp x,0,[]⟩⟩) (L.tail d j)
  | 0,_,_,h,_,_,_=>by cases h
  | m+1,x,d,h,t,ht,hS=>by
    unfold loopV at h
    split at h
    · rename_i y hy
      obtain ⟨j,hj⟩:=LoopOf.round hN hm ok hk hr hy ht hS
      obtain ⟨j',hj'⟩:=LoopOf.fact ok hnd hlt hk hr h (len_sets _) (lget_sets hnd hlt y j)
      exact ⟨j',hj.loopNext hN hm hj'⟩
    · rename_i d' hd
      simp only [Option.some.injEq]at h
      subst h
      obtain ⟨j,hj⟩:=LoopOf.round hN hm ok hk hr hd ht hS
      exact ⟨j,Fact.loopDone hN hm hj (ok.e1 d')⟩
    · cases h
theorem LoopOf.known {L:LoopOf X D}(ok:L.Ok) (hnd:L.S.Nodup) (hlt:∀k∈L.S,k<L.N) {a:Ans}(hk:Known P a) {n:Nat}{rd:X→RT (Sum X D)}
    (hr:∀x j,evC P a.c n (L.head x j) (sumK L.M L.N L.pk)=(rd x).out L.enc) (dec:Task→Option (Code×X)) (alt:X→List Value→AT)
    (hd:∀t c x,dec t=some (c,x)→c=L.c→∃T,t=.code none (.loop L.c) ⟨T,[],⟨L.hp x,0,[]⟩⟩∧T.length=L.N∧∀kv∈L.S.zip (L.sl x),lget T kv.1=kv.2)
    (ha:∀x j o,(alt x j).out=some o→∃d,loopR rd x=some d∧o=L.tail d j) :
    ∃J:Task→List Value,Known P (loopAns L.c dec alt J):=by
  classical
  let good:Task→List Value→Prop:=fun t j=>∀c x d,dec t=some (c,x)→c=L.c→loopR rd x=some d→Fact P t (L.tail d j)
  have hex:∀t,∃j,good t j:=by
    intro t
    cases hdt:dec t with
    | none=>exact ⟨[],fun c x d h=>by rw [hdt]at h;cases h⟩
    | some cx =>
      obtain ⟨c,x⟩:=cx
      by_cases hc:c=L.c
      · cases hl:loopR rd x with
        | none=>exact ⟨[],fun c' x' d h _ hr=>by rw [hdt]at h;cases h;rw [hl]at hr;cases hr⟩
        | some d =>
          obtain ⟨T,rfl,hT,hS⟩:=hd t c x hdt hc
          obtain ⟨m,hm'⟩:=loopR_some hl
          obtain ⟨j,hj⟩:=LoopOf.fact hN hm ok hnd hlt hk hr hm' hT hS
          exact ⟨j,fun c' x' d' h _ hr=>by rw [hdt]at h;cases h;rw [hl]at hr;cases hr;exact hj⟩
      · exact ⟨[],fun c' x' d h h' _=>by rw [hdt]at h;cases h;exact absurd h' hc⟩
  refine ⟨fun t=>Classical.choose (hex t),?_⟩
  intro t at' o ht ho
  cases hdt:dec t with
  | none=>simp only [loopAns,fnAns,hdt]at ht;cases ht
  | some cx =>
    obtain ⟨c,x⟩:=cx
    simp only [loopAns,fnAns,hdt,Option.some.injEq]at ht
    subst ht
    simp only [AT.out]at ho
    obtain ⟨h1,h2⟩:=cond_some ho
    obtain ⟨d,h3,rfl⟩:=ha x _ o h2
    exact Classical.choose_spec (hex t) c x d hdt (eqCode_eq h1) h3
theorem Known.fn {a:Ans}(hk:Known P a) {A R:Type}{n:Nat}{zs:List Nat}(f:FuncId) (args:A→List Value) (rt:A→RT R) (enc:R→Value)
    (hev:∀x,evC P a.c n (.call f ⟨args x⟩ ⟨[],0,[]⟩) (frzK zs)=(rt x).out fun r=>.ret (enc r) ⟨[],0,[]⟩) (hpa:∀x,(args x).all pureA=true) (dec:Task→Option (A×Hp)) (alt:A→Hp→AT)
    (hd:∀t x h,dec t=some (x,h)→t=.call f ⟨args x⟩ h) (ha:∀x h o,(alt x h).out=some o→∃r,(rt x).val=some r∧o=.ret (enc r) h) :
    Known P (fnAns dec alt):=by
  intro t at' o ht ho
  cases hdt:dec t with
  | none=>simp only [loopAns,fnAns,hdt]at ht;cases ht
  | some xh =>
    obtain ⟨x,h⟩:=xh
    simp only [loopAns,fnAns,hdt,Option.some.injEq]at ht
    subst ht
    obtain ⟨r,h1,rfl⟩:=ha x h o ho
    obtain rfl:=hd t x h hdt
    have h2:=hev x
    rw [RT.out_val,h1,Option.map_some]at h2
    obtain ⟨o,h3,hf⟩:=hk.factK hN hm h2
    cases o with
    | ret v h'=>exact hf.lift h3 (hpa x) h
    | _=>cases h3
end
end
end
end Go.Gi
namespace Go.Gi
open Go.RowKit
noncomputable section
structure Agree (σ:Nat→Nat→Prop) (φ ψ:Phi):Prop where
  fn:∀(i j:Nat) (x:Nat×Nat×Nat),σ i j→φ.f i=some x→ψ.f j=some x
  zz:∀B o,φ.z B=some o→ψ.z B=some o
instance {σ:Nat→Nat→Prop} {φ ψ:Phi}:CoeFun (Agree σ φ ψ) (fun _=>∀(i j:Nat) (x:Nat×Nat×Nat),σ i j→φ.f i=some x→ψ.f j=some x):=⟨Agree.fn⟩
def TR (σ:Nat→Nat→Prop) (v v':Value):Prop:=∀φ ψ,Agree σ φ ψ→∀x,VR φ v x→VR ψ v' x
def ObTR (σ:Nat→Nat→Prop) (o o':Ob):Prop:=∀φ ψ,Agree σ φ ψ→∀w B bs tot,ObR φ w o B bs tot→ObR ψ w o' B bs tot
def inS (ρ:Nat→Nat)(H0:List Ob)(j i:Nat):Prop:=i<H0.length∧ρ i=j
def outS (ρ:Nat→Nat) (κ:Nat→Option Nat)(H0 Hb Hb1:List Ob)(i j:Nat):Prop :=
  (i<H0.length∧ρ i=j)∨(κ j=some i∧Hb.length≤j∧j<Hb1.length)
structure Carry (ρ:Nat→Nat) (κ:Nat→Option Nat) (H0 H1 Hb Hb1:List Ob):Prop where
  inn:∀(i:Nat) (ob:Ob),H0[i]?=some ob→ob.live=true→∃ob',Hb[ρ i]?=some ob'∧ob'.live=true∧(ob.rw=true→ob'.rw=true)∧ObTR (inS ρ H0) ob' ob
  inj:∀(i i':Nat),i<H0.length→i' < H0.length→ρ i=ρ i'→i=i'
  low:∀i,i<H0.length→ρ i<Hb.length
  len:Hb.length≤Hb1.length
  kin:∀j i,κ j=some i→Hb.length≤j→H0.length≤i
  kinj:∀j j' i,Hb.length≤j→Hb.length≤j'→κ j=some i→κ j'=some i→j=j'
  out:∀(j:Nat) (ob':Ob),Hb1[j]?=some ob'→ob'.live=true →
    (Hb[j]?=some ob'∧∀(i:Nat) (ob0:Ob),H0[i]?=some ob0→ob0.rw=true→ρ i≠j) ∨
    (∃(i:Nat) (ob:Ob),H1[i]?=some ob∧ob.live=true∧(ob'.rw=true→ob.rw=true)∧(ob.rw=true∨∃ob0:Ob,H0[i]?=some ob0∧ob0.live=true)∧ObTR (outS ρ κ H0 Hb Hb1) ob ob'∧outS ρ κ H0 Hb Hb1 i j)
def pullP (φ:Phi) (ρ:Nat→Nat)(n:Nat):Phi:=⟨fun i=>if i<n then φ (ρ i) else none,φ.z⟩
open Classical in
def backP (ρ:Nat→Nat)(n j:Nat):Option Nat:=if h:∃i,i<n∧ρ i=j then some (Classical.choose h) else none
def pushP (φ φ1:Phi) (ρ:Nat→Nat) (κ:Nat→Option Nat)(n N N1:Nat):Phi:=⟨fun j=>if j<N then (match φ j with | some x=>some x | none=>(backP ρ n j).bind φ1.f) else if j<N1 then (κ j).bind φ1.f else none,φ1.z⟩
section
variable {P:Program}{K:Nat→Prop} {w0 w w':World} {φ φ1:Phi}{H0 H1 Hb Hb1:List Ob} {ρ:Nat→Nat} {κ:Nat→Option Nat}
theorem lt_of_get {α:Type}{l:List α}{i:Nat}{a:α}(h:l[i]?=some a):i<l.length:=(List.getElem?_eq_some_iff.1 h).1
theorem pull_at {i:Nat}(h:i<H0.length):pullP φ ρ H0.length i=φ (ρ i):=if_pos h
theorem Inv.push (hI:Inv K w0 φ Hb w)(hc:Carry ρ κ H0 H1 Hb Hb1) (hF:Inv (fun k=>k<w.heap.size∧¬RwAt (pullP φ ρ H0.length) H0 k∧φ.z k=none) w φ1 H1 w') (hle:le (pullP φ ρ H0.length) φ1) :
    ∃φ2,le φ φ2∧Agree (outS ρ κ H0 Hb Hb1) φ1 φ2∧Inv K w0 φ2 Hb1 w':=by
  have hdom:∀{j:Nat} {x:Nat×Nat×Nat},φ j=some x→j<Hb.length:=fun {j} {x} hx=>by
    rcases Nat.lt_or_ge j Hb.length with h | h
    · exact h
    · rw [hI.top j h]at hx;cases hx
  have hleφ:le φ (pushP φ φ1 ρ κ H0.length Hb.length Hb1.length):=⟨fun j x hx=>by
    show (if j<Hb.length then (match φ j with | some x=>some x | none=>(backP ρ H0.length j).bind φ1.f) else if j<Hb1.length then (κ j).bind φ1.f else none)=some x
    rw [if_pos (hdom hx),hx],hle.zz⟩
  have hlt:∀{j:Nat} {ob':Ob},Hb[j]?=some ob'→ob'.live=true→pushP φ φ1 ρ κ H0.length Hb.length Hb1.length j=φ j:=by
    intro j ob' h1 h2
    obtain ⟨B,base,tot,h3,_⟩:=hI.obs j ob' h1 h2
    rw [h3];exact hleφ _ _ h3
  have htop1:∀{i:Nat} {x:Nat×Nat×Nat},φ1 i=some x→i<H1.length:=fun {i} {x} hx=>by
    rcases Nat.lt_or_ge i H1.length with h | h
    · exact h
    · rw [hF.top i h]at hx;cases hx
  have hold:∀{i:Nat} {ob0:Ob},H0[i]?=some ob0→ob0.live=true→∃x,φ (ρ i)=some x∧φ1 i=some x:=by
    intro i ob0 h1 h2
    obtain ⟨ob',h3,h4,_,_⟩:=hc.inn i ob0 h1 h2
    obtain ⟨B,base,tot,h5,_⟩:=hI.obs _ ob' h3 h4
    exact ⟨_,h5,hle i _ ((pull_at (lt_of_get h1)).trans h5)⟩
  have hnew:∀{j:Nat},Hb.length≤j→j<Hb1.length→pushP φ φ1 ρ κ H0.length Hb.length Hb1.length j=(κ j).bind φ1.f:=fun {j} h1 h2=>by
    show (if j<Hb.length then (match φ j with | some x=>some x | none=>(backP ρ H0.length j).bind φ1.f) else if j<Hb1.length then (κ j).bind φ1.f else none)=_
    rw [if_neg (by omega),if_pos h2]
  have hkeep:∀{j:Nat} {ob':Ob} {x:Nat×Nat×Nat},Hb[j]?=some ob'→ob'.live=true→φ j=some x→x.1<w.heap.size→(∀(i:Nat) (ob0:Ob),H0[i]?=some ob0→ob0.rw=true→ρ i≠j)→x.1<w.heap.size∧¬RwAt (pullP φ ρ H0.length) H0 x.1:=by
    intro j ob' x h1 h2 h3 h4 h5
    refine ⟨h4,?_⟩
    rintro ⟨b0,ob0,y,h6,h7,h8,h9⟩
    rw [pull_at (lt_of_get h6)]at h8
    obtain ⟨o1,h10,_,h11,_⟩:=hc.inn b0 ob0 h6 (Ob.live_of_rw h7)
    exact hI.sep (ρ b0) j o1 ob' y x (h5 b0 ob0 h6 h7) h10 h1 (h11 h7) h2 h8 h3 h9
  have hsz:∀{j:Nat} {ob':Ob} {x:Nat×Nat×Nat},Hb[j]?=some ob'→ob'.live=true→φ j=some x→x.1<w.heap.size:=by
    intro j ob' x h1 h2 h3
    obtain ⟨B,base,tot,h4,h5⟩:=hI.obs j ob' h1 h2
    rw [h3]at h4
    simp only [Option.some.injEq]at h4
    subst h4
    exact h5.lt h2
  have hsame:∀{k:Nat},k<w.heap.size∧¬RwAt (pullP φ ρ H0.length) H0 k→w'.heap[k]?=w.heap[k]?:=by
    intro k hk
    cases hz:φ.z k with
    | none=>exact hF.keep k ⟨hk.1,hk.2,hz⟩
    | some o=>rw [hI.frz k o hz,hF.frz k o (hle.zz k o hz)]
  have hagree:Agree (outS ρ κ H0 Hb Hb1) φ1 (pushP φ φ1 ρ κ H0.length Hb.length Hb1.length):=by
    refine ⟨?_,fun _ _ h=>h⟩
    rintro i j x (⟨h1,rfl⟩ | ⟨h1,h2,hj⟩) hx
    · cases hφ:φ (ρ i) with
      | some y =>
        have h4:=hle i y ((pull_at h1).trans hφ)
        rw [hx]at h4
        rw [h4];exact hleφ _ _ hφ
      | none =>
        show (if ρ i<Hb.length then (match φ (ρ i) with | some x=>some x | none=>(backP ρ H0.length (ρ i)).bind φ1.f) else if ρ i<Hb1.length then (κ (ρ i)).bind φ1.f else none)=some x
        rw [if_pos (hc.low i h1),hφ]
        have hex:∃i',i' < H0.length∧ρ i'=ρ i:=⟨i,h1,rfl⟩
        have hb:backP ρ H0.length (ρ i)=some i:=by
          unfold backP
          rw [dif_pos hex]
          have:=Classical.choose_spec hex
          rw [hc.inj _ _ this.1 h1 this.2]
        show (backP ρ H0.length (ρ i)).bind φ1.f=some x
        rw [hb];exact hx
    · rw [hnew h2 hj,h1]
      exact hx
  have hlen:=hc.len
  have hB:∀{i j:Nat} {ob:Ob} {x:Nat×Nat×Nat},outS ρ κ H0 Hb Hb1 i j→H1[i]?=some ob→ob.live=true→pushP φ φ1 ρ κ H0.length Hb.length Hb1.length j=some x→φ1 i=some x:=by
    intro i j ob x hs h1 h2 hx
    obtain ⟨B,base,tot,h3,_⟩:=hF.obs i ob h1 h2
    have:=hagree i j _ hs h3
    rw [hx]at this
    rw [h3,this]
  have hfun:∀{i j j':Nat},outS ρ κ H0 Hb Hb1 i j→outS ρ κ H0 Hb Hb1 i j'→j=j':=by
    rintro i j j' (⟨h1,rfl⟩ | ⟨h1,h2,h3⟩) (⟨h1',rfl⟩ | ⟨h1',h2',h3'⟩)
    · rfl
    · have:=hc.kin _ _ h1' h2'
      omega
    · have:=hc.kin _ _ h1 h2
      omega
    · exact hc.kinj _ _ _ h2 h2' h1 h1'
  have hKK:∀{k:Nat},K k→k<w.heap.size∧¬RwAt (pullP φ ρ H0.length) H0 k∧φ.z k=none:=by
    intro k hk
    refine ⟨Nat.lt_of_lt_of_le (hI.klt _ hk) hI.size,?_,hI.zk k hk⟩
    rintro ⟨b0,ob0,y,k1,k2,k3,k4⟩
    rw [pull_at (lt_of_get k1)]at k3
    obtain ⟨o1,k5,_,k6,_⟩:=hc.inn b0 ob0 k1 (Ob.live_of_rw k2)
    exact hI.prot (ρ b0) o1 y k5 (k6 k2) k3 (k4 ▸ hk)
  refine ⟨pushP φ φ1 ρ κ H0.length Hb.length Hb1.length,hleφ,hagree,?_,?_,?_,?_,hI.klt,Nat.le_trans hI.size hF.size,hF.os.trans hI.os,hF.tape.trans hI.tape,hF.output.trans hI.output,?_,hF.frz,?_,?_⟩
  · intro j ob' h1 h2
    rcases hc.out j ob' h1 h2 with ⟨h3,h4⟩ | ⟨i,ob,h3,h4,h5,h6,h7,h8⟩
    · obtain ⟨B,base,tot,h5,h6⟩:=hI.obs j ob' h3 h2
      exact ⟨B,base,tot,hleφ _ _ h5,h6.keep hleφ (hsame (hkeep h3 h2 h5 (h6.lt h2) h4))⟩
    · obtain ⟨B,base,tot,h9,h10⟩:=hF.obs i ob h3 h4
      exact ⟨B,base,tot,hagree i j _ h8 h9,h7 _ _ hagree _ _ _ _ h10⟩
  · intro j j' ob ob' x y hne hj hj' hrw hl hx hy
    rcases hc.out j ob hj (Ob.live_of_rw hrw) with ⟨h3,h4⟩ | ⟨i,o,h3,h4,h5,h6,h7,h8⟩
    · have hx':φ j=some x:=by rw [← hlt h3 (Ob.live_of_rw hrw)];exact hx
      rcases hc.out j' ob' hj' hl with ⟨h3',h4'⟩ | ⟨i',o',h3',h4',h5',h6',h7',h8'⟩
      · have hy':φ j'=some y:=by rw [← hlt h3' hl];exact hy
        exact hI.sep j j' ob ob' x y hne h3 h3' hrw hl hx' hy'
      · have hy':=hB h8' h3' h4' hy
        rcases h6' with hrw' | ⟨ob0,k0,kl⟩
        · intro he
          exact hF.prot i' o' y h3' hrw' hy' (he ▸ (let q:=hkeep h3 (Ob.live_of_rw hrw) hx' (hsz h3 (Ob.live_of_rw hrw) hx') h4;⟨q.1,q.2,hI.zsep j ob x h3 hrw hx'⟩))
        · have k3:ρ i'=j':=by
            rcases h8' with ⟨k1,k3⟩ | ⟨k1,k2,_⟩
            · exact k3
            · have:=hc.kin _ _ k1 k2
              have:=lt_of_get k0
              omega
          obtain ⟨o1,k4,k5,_,_⟩:=hc.inn i' ob0 k0 kl
          obtain ⟨y',k6,k7⟩:=hold k0 kl
          rw [hy']at k7
          simp only [Option.some.injEq]at k7
          subst k7
          exact hI.sep j (ρ i') ob o1 x y (by rw [k3];exact hne) h3 k4 hrw k5 hx' k6
    · have hx':=hB h8 h3 h4 hx
      rcases hc.out j' ob' hj' hl with ⟨h3',h4'⟩ | ⟨i',o',h3',h4',h5',h6',h7',h8'⟩
      · have hy':φ j'=some y:=by rw [← hlt h3' hl];exact hy
        intro he
        have q:=hkeep h3' hl hy' (hsz h3' hl hy') h4'
        cases hz:φ.z y.1 with
        | none=>exact hF.prot i o x h3 (h5 hrw) hx' (he.symm ▸ ⟨q.1,q.2,hz⟩)
        | some o' =>
          have q1:=hF.zsep i o x h3 (h5 hrw) hx'
          rw [he,hle.zz _ _ hz]at q1
          cases q1
      · have hy':=hB h8' h3' h4' hy
        exact hF.sep i i' o o' x y (fun he=>hne (hfun (he ▸ h8) h8')) h3 h3' (h5 hrw) h4' hx' hy'
  · intro j ob x hj hrw hx hk
    rcases hc.out j ob hj (Ob.live_of_rw hrw) with ⟨h3,h4⟩ | ⟨i,o,h3,h4,h5,h6,h7,h8⟩
    · have hx':φ j=some x:=by rw [← hlt h3 (Ob.live_of_rw hrw)];exact hx
      exact hI.prot j ob x h3 hrw hx' hk
    · have hx':=hB h8 h3 h4 hx
      exact hF.prot i o x h3 (h5 hrw) hx' (hKK hk)
  · intro k hk
    rw [hF.keep k (hKK hk)]
    exact hI.keep k hk
  · intro j hj
    show (if j<Hb.length then (match φ j with | some x=>some x | none=>(backP ρ H0.length j).bind φ1.f) else if j<Hb1.length then (κ j).bind φ1.f else none)=none
    rw [if_neg (by omega),if_neg (by omega)]
  · intro j ob x hj hrw hx
    rcases hc.out j ob hj (Ob.live_of_rw hrw) with ⟨h3,h4⟩ | ⟨i,o,h3,h4,h5,h6,h7,h8⟩
    · have hx':φ j=some x:=by rw [← hlt h3 (Ob.live_of_rw hrw)];exact hx
      have q:=hkeep h3 (Ob.live_of_rw hrw) hx' (hsz h3 (Ob.live_of_rw hrw) hx') h4
      exact hF.zk x.1 ⟨q.1,q.2,hI.zsep j ob x h3 hrw hx'⟩
    · exact hF.zsep i o x h3 (h5 hrw) (hB h8 h3 h4 hx)
  · exact fun k hk=>hF.zk k (hKK hk)
end
end
end Go.Gi
namespace Go.Gi
open Go.RowKit
noncomputable section
section
variable {σ:Nat→Nat→Prop}
theorem cut_agree {φ ψ:Phi}{n:Nat}(ha:Agree σ φ ψ) (hid:∀i,i<n→σ i i):le (cut φ n) ψ:=by
  refine ⟨?_,fun B o h=>ha.zz B o h⟩
  intro b x hx
  rcases Nat.lt_or_ge b n with h | h
  · rw [cut_lt h]at hx;exact ha b b x (hid b h) hx
  · rw [cut_ge h]at hx;cases hx
theorem ObTR.sc {n:Nat}{o:Ob}(hid:∀i,i<n→σ i i) (h:obSc n o=true):ObTR σ o o:=fun φ ψ ha w B bs tot hx=>(obSc_cut h hx).keep (cut_agree ha hid) rfl
theorem TR.slice {b b' off l z:Nat}(h:σ b b'):TR σ (.slice (some ⟨b,off,none⟩) l z) (.slice (some ⟨b',off,none⟩) l z):=by
  intro φ ψ ha x hx
  cases hx with
  | sliceZ hp a'=>exact .sliceZ (a:=⟨b',off,none⟩) (ha _ _ _ h hp) a' _
  | slice hp hl hc=>exact .slice (ha _ _ _ h hp) hl hc
theorem ObTR.same {o:Ob}(h:∀n,obSc n o=true):ObTR σ o o:=ObTR.sc (n:=0) (fun i hi=>absurd hi (Nat.not_lt_zero _)) (h 0)
end
structure Grow (r:Nat→Nat) (κ:Nat→Option Nat) (Pre T X G G1:List Ob):Prop where
  sc:Pre.all (obSc Pre.length)=true
  pre:∀(i:Nat) (ob:Ob),T[i]?=some ob→G[r i]?=some ob∧∀n,obSc n ob=true
  inj:∀i i',i<T.length→i' < T.length→r i=r i'→i=i'
  len:G.length≤G1.length
  kin:∀j i,κ j=some i→G.length≤j→T.length≤i
  kinj:∀j j' i,G.length≤j→G.length≤j'→κ j=some i→κ j'=some i→j=j'
  out:∀(j:Nat) (ob:Ob),G1[j]?=some ob→ob.live=true →
    (G[j]?=some ob∧∀i,i<T.length→r i≠j) ∨
    (∃i,X[i]?=some ob∧ob.rw=true∧(∀n,obSc n ob=true)∧((i<T.length∧r i=j)∨(κ j=some i∧G.length≤j∧j<G1.length)))
section
variable {r:Nat→Nat} {κ:Nat→Option Nat}{Pre T X G G1:List Ob}
theorem get_app {A B:List Ob}{j:Nat}{ob:Ob}(h:(A++B)[j]?=some ob):(j<A.length∧A[j]?=some ob)∨(A.length≤j∧B[j-A.length]?=some ob):=by
  rcases Nat.lt_or_ge j A.length with h1 | h1
  · rw [List.getElem?_append_left h1]at h;exact .inl ⟨h1,h⟩
  · rw [List.getElem?_append_right h1]at h;exact .inr ⟨h1,h⟩
theorem Grow.same {p:Nat}{A:Ob}(hsc:Pre.all (obSc Pre.length)=true) (hp:G[p]?=some A) (hA:∀n,obSc n A=true) (hw:A.rw=true):Grow (fun _=>p) (fun _=>none) Pre [A] (A::X) G G:=by
  refine ⟨hsc,?_,?_,Nat.le_refl _,by simp,by simp,?_⟩
  · intro i ob hi
    rcases i with _ | i
    · simp only [List.getElem?_cons_zero,Option.some.injEq]at hi
      subst hi;exact ⟨hp,hA⟩
    · simp at hi
  · intro i i' h1 h2 _
    simp only [List.length_cons,List.length_nil]at h1 h2
    omega
  · intro j ob hj hl
    by_cases hjp:j=p
    · subst hjp
      rw [hp]at hj
      simp only [Option.some.injEq]at hj
      subst hj
      exact .inr ⟨0,rfl,hw,hA,.inl ⟨by simp,rfl⟩⟩
    · exact .inl ⟨hj,fun i _ he=>hjp he.symm⟩
theorem Grow.first {q:Nat}{B:Ob}(hsc:Pre.all (obSc Pre.length)=true) (hq:X[q]?=some B) (hB:∀n,obSc n B=true) (hw:B.rw=true):Grow (fun _=>0) (fun j=>if j=G.length then some q else none) Pre [] X G (G++[B]):=by
  refine ⟨hsc,by simp,by simp,by simp,by simp,?_,?_⟩
  · intro j j' i _ _ h1 h2
    split at h1
    · split at h2
      · omega
      · cases h2
    · cases h1
  · intro j ob hj hl
    rcases get_app hj with ⟨h1,h2⟩ | ⟨h1,h2⟩
    · exact .inl ⟨h2,by simp⟩
    · cases hh:j-G.length with
      | zero =>
        rw [hh]at h2
        simp only [List.getElem?_cons_zero,Option.some.injEq]at h2
        subst h2
        have:j=G.length:=by omega
        exact .inr ⟨q,hq,hw,hB,.inr ⟨by rw [if_pos this],by omega,by simp;omega⟩⟩
      | succ k=>rw [hh]at h2;simp at h2
end
def okLeaf:Leaf→Value→Prop
  | .int q,v=>∃n,v=.int q n∧(Lit.int q n).wf=true
  | .bool,v=>∃b,v=.bool b
  | .str,v=>∃s,v=.string s∧s.size≤maxLen
  | .lst,_=>False
  | .any,_=>False
def offsOk (P:Program)(d:Nat):Nat→List Field→Bool
  | _,[]=>true
  | o,f::r=>((f.offset == o)&&(P.cellsOf f.type == (leaves P false d f.type).length))&&offsOk P d (o+(leaves P false d f.type).length) r
def flatT (P:Program):Nat→TypeId→Bool
  | 0,_=>false
  | d+1,t =>
    match P.underlying t with
    | some .bool | some (.int _) | some .string=>true
    | some (.struct fs)=>((P.cellsOf t == (leaves P false (d+1) t).length)&&offsOk P d 0 fs.toList)&&fs.toList.all fun f=>flatT P d f.type
    | _=>false
inductive All2 {α β:Type} (R:α→β→Prop):List α→List β→Prop
  | nil:All2 R [] []
  | cons {a:α} {b:β} {l:List α} {m:List β} (h:R a b) (r:All2 R l m):All2 R (a::l) (b::m)
theorem All2.append {α β:Type}{R:α→β→Prop} {l l':List α} {m m':List β}(h:All2 R l m) (h':All2 R l' m'):All2 R (l++l') (m++m'):=by
  induction h with
  | nil=>exact h'
  | cons h _ ih=>exact .cons h ih
theorem All2.len {α β:Type}{R:α→β→Prop}{l:List α}{m:List β}(h:All2 R l m):m.length=l.length:=by
  induction h with
  | nil=>rfl
  | cons _ _ ih=>simp [ih]
theorem All2.get {α β:Type}{R:α→β→Prop}{l:List α}{m:List β}(h:All2 R l m):∀{j:Nat}{a:α},l[j]?=some a→∃b,m[j]?=some b∧R a b:=by
  induction h with
  | nil=>intro j a h;simp at h
  | cons h _ ih =>
    intro j a hj
    cases j with
    | zero=>simp only [List.getElem?_cons_zero,Option.some.injEq]at hj;subst hj;exact ⟨_,rfl,h⟩
    | succ j=>simp only [List.getElem?_cons_succ]at hj ⊢;exact ih hj
section
variable {H:Type}{enc:TypeId×Value→H}{P:Program}{w:World}{base:Nat}{spare:Nat→Bool}{held:Bool}
theorem mapM_all {α β:Type}{f:α→Option β}:∀{l:List α}{r:List β},l.mapM f=some r→∀a∈l,∃b,f a=some b
  | [],_,_,a,ha=>by simp at ha
  | x::l,r,h,a,ha=>by
    rw [List.mapM_cons]at h
    cases hx:f x with
    | none=>rw [hx]at h;cases h
    | some y =>
      rw [hx]at h
      cases hl:l.mapM f with
      | none=>rw [hl]at h;cases h
      | some ys =>
        rcases List.mem_cons.1 ha with rfl | ha
        · exact ⟨y,hx⟩
        · exact mapM_all hl a ha
theorem okLeaf_g0 {l:Leaf}{v:Value}(h:okLeaf l v):g0 v=true:=by
  cases l with
  | int q=>obtain ⟨n,rfl,_⟩:=h;rfl
  | bool=>obtain ⟨b,rfl⟩:=h;rfl
  | str=>obtain ⟨s,rfl,_⟩:=h;rfl
  | lst=>exact h.elim
  | any=>exact h.elim
theorem okLeaf_rd {l:Leaf}{c:Array Value}{i:Nat}{v:Value}(hc:c[i]?=some v) (h:okLeaf l v):(rdLeaf c l i).1=true:=by
  have hl:lget c.toList i=v:=by rw [lget_eq,Array.toArray_toList,Array.getD_eq_getD_getElem?,hc];rfl
  cases l with
  | int q=>obtain ⟨n,rfl,_⟩:=h;simp [rdLeaf,isInt,hl]
  | bool=>obtain ⟨b,rfl⟩:=h;simp [rdLeaf,isBool,hl]
  | str=>obtain ⟨s,rfl,_⟩:=h;simp [rdLeaf,isStr,hl]
  | lst=>exact h.elim
  | any=>exact h.elim
theorem rdOk_of {c:Array Value}:∀{L:List Leaf}{x:Nat},(∀(j:Nat) (l:Leaf),L[j]?=some l→∃v,c[x+j]?=some v∧okLeaf l v)→rdOk c L x=true
  | [],_,_=>rfl
  | l::L,x,h=>by
    obtain ⟨v,h1,h2⟩:=h 0 l rfl
    simp only [rdOk,Bool.and_eq_true]
    refine ⟨okLeaf_rd h1 h2,rdOk_of fun j l' hj=>?_⟩
    obtain ⟨v',h3,h4⟩:=h (j+1) l' (by simpa using hj)
    exact ⟨v',by rw [show x+1+j=x+(j+1) by omega];exact h3,h4⟩
def GoodL (L:List Leaf)(c:Array Value)(off n:Nat):Prop:=c.toList.all g0=true∧∀k,k<n→rdOk c L (off+k*L.length)=true
theorem cell_some {a:Addr}{v:Value}(h:w.cell? a=some v):a.spot=none∧∃C el fr,w.heap[a.block]?=some (.cells C el fr)∧C[a.off]?=some v:=by
  unfold World.cell? at h
  split at h
  · rename_i C el fr hh
    split at h
    · cases h
    · rename_i hs
      exact ⟨by simpa using hs,C,el,fr,hh,h⟩
  · cases h
theorem add_at (B off k:Nat):(⟨B,off,none⟩:Addr).add k=⟨B,off+k,none⟩:=by
  unfold Addr.add
  split<;>simp_all
end
def Ty (P:Program):Nat→TypeId→List Value→Prop
  | 0,_,_=>False
  | d+1,t,cs=>match P.underlying t with
    | some .bool=>∃b,cs=[.bool b]
    | some (.int q)=>∃n,cs=[.int q n]∧(Lit.int q n).wf=true
    | some .string=>∃s,cs=[.string s]∧s.size≤maxLen
    | some (.struct fs)=>∃ps:List (List Value),cs=ps.flatten∧All2 (fun (f:Field) p=>Ty P d f.type p) fs.toList ps
    | some (.array n e)=>∃ps:List (List Value),cs=ps.flatten∧ps.length=n∧∀p∈ps,Ty P d e p
    | some (.slice e)=>∃(c:Array Value) (n:Nat),cs=[lstV c 0 n (P.cellsOf e)]∧c.size=n*P.cellsOf e∧n≤maxLen∧∀k,k<n→Ty P d e ((c.toList.drop (k*P.cellsOf e)).take (P.cellsOf e))
    | _=>False
def tyB (P:Program):Nat→TypeId→Bool
  | 0,_=>false
  | d+1,t=>match P.underlying t with
    | some .bool | some (.int _) | some .string=>true
    | some (.struct fs)=>offsB P 0 fs.toList&&(P.cellsOf t == (fs.toList.map fun f=>P.cellsOf f.type).sum)&&fs.toList.all fun f=>tyB P d f.type
    | some (.array n e)=>(P.cellsOf t == n*P.cellsOf e)&&tyB P d e
    | some (.slice e)=>Nat.blt 0 (P.cellsOf e)&&tyB P d e
    | _=>false
where offsB (P:Program):Nat→List Field→Bool
  | _,[]=>true
  | o,f::r=>(f.offset == o)&&offsB P (o+P.cellsOf f.type) r
section
variable {H:Type}{enc:TypeId×Value→H}{P:Program}{w:World}{base:Nat}{held:Bool}
theorem rows_of {z:Nat}{Q:Nat→List Value→Prop}:∀{n:Nat},(∀i,i<n→∃r:List Value,r.length=z∧Q i r)→∃c:List Value,c.length=n*z∧∀i,i<n→Q i ((c.drop (i*z)).take z)
  | 0,_=>⟨[],by simp,fun i hi=>absurd hi (Nat.not_lt_zero _)⟩
  | n+1,h=>by
    obtain ⟨c,h1,h2⟩:=rows_of (n:=n) fun i hi=>h i (by omega)
    obtain ⟨r,h3,h4⟩:=h n (by omega)
    refine ⟨c++r,by rw [List.length_append,h1,h3,Nat.add_mul,Nat.one_mul],fun i hi=>?_⟩
    rcases Nat.lt_or_ge i n with hlt | hge
    · have hle:i*z+z≤c.length:=by
        rw [h1]
        have:=Nat.mul_le_mul_right z hlt
        rw [Nat.succ_mul]at this
        exact this
      rw [List.drop_append_of_le_length (by omega),List.take_append_of_le_length (by rw [List.length_drop];omega)]
      exact h2 i hlt
    · obtain rfl:i=n:=by omega
      rw [← h1,List.drop_left,← h3,List.take_length]
      exact h4
theorem fr_fields {z:Nat→Option Obj}{d:Nat}{cs:List Value}(ih:∀(f:TypeId) (q:List Value),tyB P d f=true→(∃fuel x,DataW.trod enc P w base (fun _=>true) held fuel f q=some x)→∃abs,All2 (FR z) abs q∧Ty P d f abs) :
    ∀{fs:List Field} {o:Nat},tyB.offsB P o fs=true→(∀f∈fs,tyB P d f.type=true∧∃fuel x,DataW.trod enc P w base (fun _=>true) held fuel f.type ((cs.drop f.offset).take (P.cellsOf f.type))=some x) →
    ∃ps:List (List Value),All2 (FR z) ps.flatten ((cs.drop o).take (fs.map fun f=>P.cellsOf f.type).sum)∧All2 (fun (f:Field) p=>Ty P d f.type p) fs ps
  | [],o,_,_=>⟨[],by simp;exact .nil,.nil⟩
  | f::r,o,h,hf=>by
    simp only [tyB.offsB,Bool.and_eq_true,beq_iff_eq]at h
    obtain ⟨h1,h2⟩:=h
    obtain ⟨k1,k2⟩:=hf f (List.mem_cons_self ..)
    obtain ⟨abs,a1,a2⟩:=ih f.type _ k1 k2
    obtain ⟨ps,b1,b2⟩:=fr_fields ih h2 fun g hg=>hf g (List.mem_cons_of_mem _ hg)
    refine ⟨abs::ps,?_,.cons a2 b2⟩
    rw [List.flatten_cons,List.map_cons,List.sum_cons,List.take_add,List.drop_drop]
    rw [h1]at a1
    exact a1.append b1
theorem fr_rows {z:Nat→Option Obj}{k:Nat}{cs:List Value}{Q:List Value→Prop}:∀{n:Nat},(∀i,i<n→∃abs,All2 (FR z) abs ((cs.drop (i*k)).take k)∧Q abs) →
    ∃ps:List (List Value),ps.length=n∧All2 (FR z) ps.flatten (cs.take (n*k))∧∀p∈ps,Q p
  | 0,_=>⟨[],rfl,by simp;exact .nil,fun p hp=>by simp at hp⟩
  | n+1,h=>by
    obtain ⟨ps,h1,h2,h3⟩:=fr_rows (n:=n) fun i hi=>h i (by omega)
    obtain ⟨r,h4,h5⟩:=h n (by omega)
    refine ⟨ps++[r],by simp [h1],?_,fun p hp=>?_⟩
    · rw [List.flatten_append,Nat.add_mul,Nat.one_mul,List.take_add]
      simp only [List.flatten_cons,List.flatten_nil,List.append_nil]
      exact h2.append h4
    · rw [List.mem_append,List.mem_singleton]at hp
      rcases hp with hp | rfl
      · exact h3 p hp
      · exact h5
theorem fr_trod:∀{d:Nat}{t:TypeId}{fuel:Nat}{cs:List Value}{x:DataW H×List MemPlace},tyB P d t=true→DataW.trod enc P w base (fun _=>true) held fuel t cs=some x →
    ∃abs,All2 (FR fun B=>w.heap[B]?) abs cs∧Ty P d t abs
  | 0,_,_,_,_,h,_=>by cases h
  | d+1,t,0,cs,x,_,h=>by simp [DataW.trod]at h
  | d+1,t,fuel+1,cs,x,hf,h=>by
    have h0:=h
    unfold tyB at hf
    split at hf
    · rename_i hu
      unfold DataW.trod at h
      rw [hu]at h
      simp only at h
      split at h<;>first | (cases h;done) | skip
      all_goals first | (rename_i he;cases he;done) | skip
      exact ⟨_,.cons (.gnd rfl) .nil,by unfold Ty;rw [hu];exact ⟨_,rfl⟩⟩
    · rename_i q hu
      unfold DataW.trod at h
      rw [hu]at h
      simp only at h
      split at h<;>first | (cases h;done) | skip
      all_goals first | (rename_i he;cases he;done) | skip
      rename_i k k' n he
      cases he
      split at h
      · rename_i hc
        obtain ⟨rfl,hw⟩:=hc
        exact ⟨_,.cons (.gnd rfl) .nil,by unfold Ty;rw [hu];exact ⟨_,rfl,hw⟩⟩
      · cases h
    · rename_i hu
      unfold DataW.trod at h
      rw [hu]at h
      simp only at h
      split at h<;>first | (cases h;done) | skip
      all_goals first | (rename_i he;cases he;done) | skip
      split at h
      · rename_i hc;exact ⟨_,.cons (.gnd rfl) .nil,by unfold Ty;rw [hu];exact ⟨_,rfl,hc⟩⟩
      · cases h
    · rename_i fs hu
      simp only [Bool.and_eq_true,beq_iff_eq,List.all_eq_true]at hf
      obtain ⟨⟨h1,h2⟩,h3⟩:=hf
      unfold DataW.trod at h
      rw [hu]at h
      simp only at h
      split at h
      · rename_i hl
        rw [Option.map_eq_some_iff]at h
        obtain ⟨ys,hy,_⟩:=h
        have h4:=mapM_all hy
        obtain ⟨ps,a1,a2⟩:=fr_fields (z:=fun B=>w.heap[B]?) (d:=d) (cs:=cs) (P:=P) (w:=w) (enc:=enc) (base:=base) (held:=held) (fun f q hq ⟨fu,x,hx⟩=>fr_trod hq hx) h1 fun f hm=>by
          obtain ⟨y,h5⟩:=h4 f hm
          exact ⟨h3 f hm,_,_,h5⟩
        rw [List.drop_zero,← h2,← hl,List.take_length]at a1
        exact ⟨_,a1,by unfold Ty;rw [hu];exact ⟨ps,rfl,a2⟩⟩
      · cases h
    · rename_i n e hu
      simp only [Bool.and_eq_true,beq_iff_eq]at hf
      obtain ⟨h1,h2⟩:=hf
      unfold DataW.trod at h
      rw [hu]at h
      simp only at h
      split at h
      · rename_i hl
        rw [Option.map_eq_some_iff]at h
        obtain ⟨ys,hy,_⟩:=h
        have h4:=mapM_all hy
        obtain ⟨ps,a1,a2,a3⟩:=fr_rows (z:=fun B=>w.heap[B]?) (n:=n) (k:=P.cellsOf e) (cs:=cs) (Q:=Ty P d e) fun i hi=>by
          obtain ⟨y,h5⟩:=h4 i (List.mem_range.2 hi)
          exact fr_trod h2 h5
        rw [← h1,← hl,List.take_length]at a2
        exact ⟨_,a2,by unfold Ty;rw [hu];exact ⟨ps,rfl,a1,a3⟩⟩
      · cases h
    · rename_i e hu
      rw [Bool.and_eq_true,Nat.blt_eq]at hf
      obtain ⟨hpos,he⟩:=hf
      rcases Go.Deep.open_slice hu h0 with ⟨hcs,_⟩ | ⟨a,len,cap,m,k,D,Pl,hcs,hb,hl,hm,hmm,_,hx⟩
      · subst hcs
        exact ⟨_,.cons (.lstZ #[] 0 (P.cellsOf e) none) .nil,by unfold Ty;rw [hu];exact ⟨#[],0,rfl,by simp,Nat.zero_le _,fun k hk=>absurd hk (Nat.not_lt_zero _)⟩⟩
      · subst hcs
        simp only [if_true]at hmm
        subst hmm
        by_cases hc0:m=0
        · subst hc0
          obtain rfl:len=0:=by omega
          exact ⟨_,.cons (.lstZ #[] 0 (P.cellsOf e) (some a)) .nil,by unfold Ty;rw [hu];exact ⟨#[],0,rfl,by simp,Nat.zero_le _,fun k hk=>absurd hk (Nat.not_lt_zero _)⟩⟩
        · have hrow:∀i,i<m→∃r:List Value,r.length=P.cellsOf e∧(Ty P d e r∧∀j,j<P.cellsOf e→∃u,w.cell? ((a.add (i*P.cellsOf e)).add j)=some u∧FR (fun B=>w.heap[B]?) (r.getD j undef) u):=by
            intro i hi
            obtain ⟨cs',h1,h2⟩:=hx i hi
            obtain ⟨h5,h3,h4⟩:=World.cells?_some h1
            obtain ⟨abs,a1,a2⟩:=fr_trod he h2
            have hlen:=a1.len
            have hcl:cs'.length=P.cellsOf e:=h3
            refine ⟨abs,by omega,a2,fun j hj=>?_⟩
            obtain ⟨u,hu1,hu2⟩:=a1.get (List.getElem?_eq_getElem (show j<abs.length by omega))
            refine ⟨u,?_,?_⟩
            · rw [h4 j (by omega)];exact hu1
            · rw [List.getD_eq_getElem?_getD,List.getElem?_eq_getElem (show j<abs.length by omega)];exact hu2
          obtain ⟨c,hc1,hc2⟩:=rows_of (n:=len) fun i hi=>hrow i (by omega)
          have hcz:c.length=len*P.cellsOf e:=hc1
          obtain ⟨r0,hr0,_,hq0⟩:=hrow 0 (by omega)
          obtain ⟨u0,hu0,_⟩:=hq0 0 hpos
          obtain ⟨hs,C,el,fr,hh,_⟩:=cell_some hu0
          obtain ⟨B,off,spot⟩:=a
          simp only [Nat.zero_mul,Addr.add,if_true]at hs hh
          subst hs
          have hcell:∀i,i<len→∀j,j<P.cellsOf e→∃u,C[off+(i*P.cellsOf e+j)]?=some u∧FR (fun B=>w.heap[B]?) (c.getD (i*P.cellsOf e+j) undef) u:=by
            intro i hi j hj
            obtain ⟨_,hq⟩:=hc2 i hi
            obtain ⟨u,k1,k2⟩:=hq j hj
            obtain ⟨_,C',el',fr',hh',k3⟩:=cell_some k1
            simp only [add_at]at hh' k3
            rw [hh]at hh'
            cases hh'
            refine ⟨u,by rw [← Nat.add_assoc];exact k3,?_⟩
            have hle:i*P.cellsOf e+j<c.length:=by
              rw [hcz]
              have:=Nat.mul_le_mul_right (P.cellsOf e) hi
              rw [Nat.succ_mul]at this
              omega
            rw [List.getD_eq_getElem?_getD,List.getElem?_take,if_pos hj,List.getElem?_drop]at k2
            rw [List.getD_eq_getElem?_getD]
            exact k2
          have hall:∀i,i<c.length→∃u,C[off+i]?=some u∧FR (fun B=>w.heap[B]?) (c.getD i undef) u:=by
            intro i hi
            rw [hcz]at hi
            have hd:i / P.cellsOf e<len:=Nat.div_lt_of_lt_mul (by rw [Nat.mul_comm];exact hi)
            obtain ⟨u,k1,k2⟩:=hcell _ hd _ (Nat.mod_lt i hpos)
            have e1:i / P.cellsOf e*P.cellsOf e+i % P.cellsOf e=i:=by
              have:=Nat.div_add_mod i (P.cellsOf e)
              rw [Nat.mul_comm]at this;exact this
            rw [e1]at k1 k2
            exact ⟨u,k1,k2⟩
          rcases Nat.eq_zero_or_pos len with rfl | hlen
          · refine ⟨_,.cons (.lst (c:=#[]) (C:=C) (el:=el) (fr:=fr) (off:=0) (len:=0) (sz:=P.cellsOf e) (cap':=m) (B:=B) (base:=off) hh (by
              obtain ⟨_,C',el',fr',hh',k3⟩:=cell_some hu0
              simp only [add_at]at hh' k3
              rw [hh]at hh';cases hh'
              have:=(Array.getElem?_eq_some_iff.1 k3).1
              simp;omega) (fun i hi=>absurd hi (Nat.not_lt_zero _)) (Nat.zero_le _) (by simp)) .nil,?_⟩
            unfold Ty;rw [hu];exact ⟨#[],0,rfl,by simp,Nat.zero_le _,fun k hk=>absurd hk (Nat.not_lt_zero _)⟩
          · refine ⟨_,.cons (.lst (c:=⟨c⟩) (C:=C) (el:=el) (fr:=fr) (off:=0) (len:=len) (sz:=P.cellsOf e) (cap':=m) (B:=B) (base:=off) hh ?_ (fun i hi=>?_) hl (by simp;omega)) .nil,?_⟩
            · have hlc:0<c.length:=by rw [hcz];exact Nat.mul_pos hlen hpos
              obtain ⟨u,k1,_⟩:=hall (c.length-1) (by omega)
              have:=(Array.getElem?_eq_some_iff.1 k1).1
              simp;omega
            · obtain ⟨u,k1,k2⟩:=hall i (by simpa using hi)
              rw [Array.getD_eq_getD_getElem?,Array.getD_eq_getD_getElem?,k1]
              rw [List.getD_eq_getElem?_getD]at k2
              simpa using k2
            · unfold Ty;rw [hu]
              exact ⟨⟨c⟩,len,rfl,by simpa using hcz,by omega,fun k hk=>(hc2 k hk).1⟩
    · cases hf
theorem fr_agg {t:TypeId}{cs:Array Value}{fuel:Nat}{x:DataW H×List MemPlace}(ht:tyB P 20 t=true) (h:DataW.trod enc P w base (fun _=>true) held fuel t cs.toList=some x):∃abs:List Value,VR (zAll w) (.agg ⟨abs⟩) (.agg cs)∧Ty P 20 t abs:=by
  obtain ⟨abs,h1,h2⟩:=fr_trod ht h
  refine ⟨abs,VR.agg (by simpa using h1.len.symm) fun i hi=>?_,h2⟩
  have hi':i<abs.length:=by simpa using hi
  obtain ⟨b,h3,h4⟩:=h1.get (List.getElem?_eq_getElem hi')
  have h5:cs[i]?=some b:=by rw [← Array.getElem?_toList];exact h3
  rw [Array.getD_eq_getD_getElem?,Array.getD_eq_getD_getElem?,h5]
  simp only [List.getElem?_toArray,List.getElem?_eq_getElem hi',Option.getD_some]
  exact FR.vr (φ:=zAll w) h4
theorem flat_fields {d:Nat}(ih:∀(t:TypeId) (cs:List Value),flatT P d t=true→Ty P d t cs→All2 okLeaf (leaves P false d t) cs):∀{fs:List Field}{ps:List (List Value)},
    All2 (fun (f:Field) p=>Ty P d f.type p) fs ps→(∀f∈fs,flatT P d f.type=true)→All2 okLeaf (fs.flatMap fun f=>leaves P false d f.type) ps.flatten
  | [],_,.nil,_=>.nil
  | f::fs,_,.cons h r,hf=>by
    rw [List.flatMap_cons,List.flatten_cons]
    exact (ih _ _ (hf f (List.mem_cons_self ..)) h).append (flat_fields ih r fun g hg=>hf g (List.mem_cons_of_mem _ hg))
theorem ty_flat:∀{d:Nat}{t:TypeId}{cs:List Value},flatT P d t=true→Ty P d t cs→All2 okLeaf (leaves P false d t) cs
  | 0,_,_,h,_=>by cases h
  | d+1,t,cs,hf,h=>by
    unfold flatT at hf
    unfold Ty at h
    split at hf
    · rename_i hu
      rw [hu]at h
      rw [leaves,hu,show leafOf P false t=.bool by unfold leafOf;rw [hu]]
      obtain ⟨b,rfl⟩:=h
      exact .cons ⟨_,rfl⟩ .nil
    · rename_i q hu
      rw [hu]at h
      rw [leaves,hu,show leafOf P false t=.int q by unfold leafOf;rw [hu]]
      obtain ⟨n,rfl,hw⟩:=h
      exact .cons ⟨_,rfl,hw⟩ .nil
    · rename_i hu
      rw [hu]at h
      rw [leaves,hu,show leafOf P false t=.str by unfold leafOf;rw [hu]]
      obtain ⟨n,rfl,hw⟩:=h
      exact .cons ⟨_,rfl,hw⟩ .nil
    · rename_i fs hu
      rw [hu]at h
      simp only [Bool.and_eq_true,List.all_eq_true]at hf
      obtain ⟨ps,rfl,h2⟩:=h
      have hlv:leaves P false (d+1) t=fs.toList.flatMap fun f=>leaves P false d f.type:=by rw [leaves,hu]
      rw [hlv]
      exact flat_fields (fun t cs h1 h2=>ty_flat h1 h2) h2 hf.2
    · cases hf
theorem ty_good {d:Nat}{e:TypeId}{c:Array Value}{n:Nat}(hf:flatT P d e=true) (hz:P.cellsOf e=(leaves P false d e).length) (hs:c.size=n*P.cellsOf e) (hpos:0<P.cellsOf e)
    (h:∀k,k<n→Ty P d e ((c.toList.drop (k*P.cellsOf e)).take (P.cellsOf e))):GoodL (leaves P false d e) c 0 n:=by
  have hrow:∀k,k<n→∀j l,(leaves P false d e)[j]?=some l→∃v,c[k*P.cellsOf e+j]?=some v∧okLeaf l v:=by
    intro k hk j l hj
    obtain ⟨v,h1,h2⟩:=(ty_flat hf (h k hk)).get hj
    refine ⟨v,?_,h2⟩
    rw [List.getElem?_take]at h1
    split at h1
    · rw [List.getElem?_drop,Array.getElem?_toList]at h1;exact h1
    · cases h1
  refine ⟨?_,fun k hk=>rdOk_of fun j l hj=>?_⟩
  · rw [List.all_eq_true]
    intro u hu
    rw [Array.mem_toList_iff,Array.mem_iff_getElem?]at hu
    obtain ⟨i,hu⟩:=hu
    have hi:=(Array.getElem?_eq_some_iff.1 hu).1
    rw [hs]at hi
    have hd:i / P.cellsOf e<n:=Nat.div_lt_of_lt_mul (by rw [Nat.mul_comm];exact hi)
    have hm:=Nat.mod_lt i hpos
    obtain ⟨l,hl⟩:∃l,(leaves P false d e)[i % P.cellsOf e]?=some l:=⟨_,List.getElem?_eq_getElem (by omega)⟩
    obtain ⟨v,h1,h2⟩:=hrow _ hd _ l hl
    have e1:i / P.cellsOf e*P.cellsOf e+i % P.cellsOf e=i:=by
      have:=Nat.div_add_mod i (P.cellsOf e)
      rw [Nat.mul_comm]at this;exact this
    rw [e1,hu]at h1
    cases h1
    exact okLeaf_g0 h2
  · obtain ⟨v,h1,h2⟩:=hrow k hk j l hj
    exact ⟨v,by rw [Nat.zero_add,← hz];exact h1,h2⟩
end
end
end Go.Gi
namespace Go.Gi
open Go.ChangeShapes Go.WideShapes Go.ChangeAt Go.RowKit
section
variable {P:Program}
theorem tyI {d:Nat}{t:TypeId}{cs:List Value}(hu:P.underlying t=some (.int .i64)) (h:Ty P (d+1) t cs):∃n,cs=[.int .i64 n]∧(Lit.int .i64 n).wf=true:=by
  unfold Ty at h
  rw [hu]at h
  exact h
theorem tyL {d:Nat}{t e:TypeId}{cs:List Value}(hu:P.underlying t=some (.slice e)) (h:Ty P (d+1) t cs) :
    ∃(c:Array Value) (n:Nat),cs=[lstV c 0 n (P.cellsOf e)]∧c.size=n*P.cellsOf e∧n≤maxLen∧∀k,k<n→Ty P d e ((c.toList.drop (k*P.cellsOf e)).take (P.cellsOf e)):=by
  unfold Ty at h
  rw [hu]at h
  exact h
theorem tyS {d:Nat}{t:TypeId}{fs:Array Field}{cs:List Value}(hu:P.underlying t=some (.struct fs)) (h:Ty P (d+1) t cs):∃ps:List (List Value),cs=ps.flatten∧All2 (fun (f:Field) p=>Ty P d f.type p) fs.toList ps:=by
  unfold Ty at h
  rw [hu]at h
  exact h
theorem tyS2 {d:Nat}{t:TypeId}{f0 f1:Field}{cs:List Value}(hu:P.underlying t=some (.struct #[f0,f1])) (h:Ty P (d+1) t cs) :
    ∃p0 p1,cs=p0++p1∧Ty P d f0.type p0∧Ty P d f1.type p1:=by
  obtain ⟨ps,rfl,g⟩:=tyS hu h
  clear h
  cases g with
  | cons h1 g =>
  cases g with
  | cons h2 g =>
  cases g
  exact ⟨_,_,by simp,h1,h2⟩
theorem tyS7 {d:Nat}{t:TypeId}{f0 f1 f2 f3 f4 f5 f6:Field}{cs:List Value}(hu:P.underlying t=some (.struct #[f0,f1,f2,f3,f4,f5,f6])) (h:Ty P (d+1) t cs) :
    ∃p0 p1 p2 p3 p4 p5 p6,cs=p0++(p1++(p2++(p3++(p4++(p5++p6)))))∧Ty P d f0.type p0∧Ty P d f1.type p1∧Ty P d f2.type p2∧Ty P d f3.type p3∧Ty P d f4.type p4∧Ty P d f5.type p5∧Ty P d f6.type p6:=by
  obtain ⟨ps,rfl,g⟩:=tyS hu h
  clear h
  cases g with
  | cons h1 g =>
  cases g with
  | cons h2 g =>
  cases g with
  | cons h3 g =>
  cases g with
  | cons h4 g =>
  cases g with
  | cons h5 g =>
  cases g with
  | cons h6 g =>
  cases g with
  | cons h7 g =>
  cases g
  exact ⟨_,_,_,_,_,_,_,by simp,h1,h2,h3,h4,h5,h6,h7⟩
structure GL (L:List Leaf) (z:Nat) (c:Array Value) (n:Nat):Prop where
  good:GoodL L c 0 n
  size:c.size=n*z
  few:n≤maxLen
theorem tyG {d z:Nat}{t e:TypeId}{L:List Leaf}{cs:List Value}(hu:P.underlying t=some (.slice e)) (hf:flatT P d e=true) (hz:P.cellsOf e=z) (hL:leaves P false d e=L) (hl:L.length=z) (hp:0<z)
    (h:Ty P (d+1) t cs):∃c n,cs=[lstV c 0 n z]∧GL L z c n:=by
  obtain ⟨c,n,h1,h2,h3,h4⟩:=tyL hu h
  subst hz
  subst hL
  exact ⟨c,n,h1,ty_good hf hl.symm h2 hp h4,h2,h3⟩
end
theorem GL.or {L:List Leaf}{z n:Nat}{c:Array Value}(h:GL L z c n):n=0∨GoodL L c 0 n:=.inr h.good
section
variable {P:Program}{H:Type}{enc:TypeId×Value→H}{w:World}{r:Reach}{b0:Nat}{v:Value}{dd:DataW H}{p:List MemPlace}{t e:TypeId}
theorem argS {fs:Array Field}(hu:P.underlying t=some (.struct fs)) (ht:tyB P 20 t=true) (hval:Value.okWide P w r b0 t v) (h:DataW.Trod enc P w 0 (fun _=>true) true t v dd p):∃abs,VR (zAll w) (.agg ⟨abs⟩) v∧Ty P 20 t abs:=by
  obtain ⟨cs,rfl,hcs⟩:=okWide_struct hu hval
  obtain ⟨fu,hf⟩:=h
  exact fr_agg ht hf
end
end Go.Gi
namespace Go.Proofs.Ytdidolncblhngaa
open Go.Gi Go.RowKit
theorem noNG_of {P : Program} (h : (P.funcs.toList.all fun fn=>!(fn.name == "runtime.NumGoroutine")) = true) : NoNG P:=by
  intro f fn hf _
  rw [List.all_eq_true]at h
  have:=h fn (by rw [Array.mem_toList_iff];exact Array.mem_of_getElem? hf)
  simpa using this
theorem noNG:NoNG Try.prog:=noNG_of (by decide +kernel)
theorem mixed:Try.prog.follows .mixedOrders=true:=by decide +kernel
end Go.Proofs.Ytdidolncblhngaa
namespace Go.Proofs.Ytdidolncblhngaa.Old
end Go.Proofs.Ytdidolncblhngaa.Old
namespace Go.Proofs.Ytdidolncblhngaa
open Go.ChangeShapes Go.WideShapes Go.ChangeAt Go.RowKit Go.Gi
set_option maxRecDepth 100000
def I4:List Leaf:=[.int .i64,.int .i64,.int .i64,.int .i64]
def I5:List Leaf:=[.int .i64,.int .i64,.int .i64,.int .i64,.int .i64]
theorem own:ownKnob Try.prog.godebug=none:=by kernel_rfl
theorem laidOut:laidOutB Try.prog=true:=by kernel_rfl
theorem flat82:flatT Try.prog 18 82=true:=by kernel_rfl
theorem leaves82:leaves Try.prog false 18 82=I4:=by kernel_rfl
theorem cells82:Try.prog.cellsOf 82=4:=by kernel_rfl
theorem flat77:flatT Try.prog 18 77=true:=by kernel_rfl
theorem leaves77:leaves Try.prog false 18 77=I5:=by kernel_rfl
theorem cells77:Try.prog.cellsOf 77=5:=by kernel_rfl
theorem tyB31:tyB Try.prog 20 31=true:=by kernel_rfl
theorem tySpan {d:Nat}{cs:List Value}(h:Ty Try.prog (d+1+1) 27 cs):∃a b,cs=[.int .i64 a,.int .i64 b]∧(Lit.int .i64 a).wf=true∧(Lit.int .i64 b).wf=true:=by
  obtain ⟨p0,p1,rfl,h0,h1⟩:=tyS2 Try.underlying27 h
  obtain ⟨a,rfl,wa⟩:=tyI Try.underlying3 h0
  obtain ⟨b,rfl,wb⟩:=tyI Try.underlying3 h1
  exact ⟨a,b,rfl,wa,wb⟩
theorem tyPlace {d:Nat}{cs:List Value}(h:Ty Try.prog (d+1+1) 25 cs):∃a b,cs=[.int .i64 a,.int .i64 b]∧(Lit.int .i64 a).wf=true∧(Lit.int .i64 b).wf=true:=by
  obtain ⟨p0,p1,rfl,h0,h1⟩:=tyS2 Try.underlying25 h
  obtain ⟨a,rfl,wa⟩:=tyI Try.underlying3 h0
  obtain ⟨b,rfl,wb⟩:=tyI Try.underlying3 h1
  exact ⟨a,b,rfl,wa,wb⟩
theorem tyArea {d:Nat}{cs:List Value}(h:Ty Try.prog (d+1+1+1) 29 cs):∃a b c e,cs=[.int .i64 a,.int .i64 b,.int .i64 c,.int .i64 e]∧(Lit.int .i64 a).wf=true∧(Lit.int .i64 b).wf=true∧(Lit.int .i64 c).wf=true∧(Lit.int .i64 e).wf=true:=by
  obtain ⟨p0,p1,rfl,h0,h1⟩:=tyS2 Try.underlying29 h
  obtain ⟨a,b,rfl,wa,wb⟩:=tySpan h0
  obtain ⟨c,e,rfl,wc,we⟩:=tySpan h1
  exact ⟨a,b,c,e,rfl,wa,wb,wc,we⟩
def Amt (abs:List Value):Prop:=∃c1 n1 c2 n2 x y a b c e g u z,abs=[lstV c1 0 n1 4,lstV c2 0 n2 5,.int .i64 x,.int .i64 y,.int .i64 a,.int .i64 b,.int .i64 c,.int .i64 e,.int .i64 g,.int .i64 u,.int .i64 z]∧GL I4 4 c1 n1∧GL I5 5 c2 n2
set_option maxRecDepth 100000 in
theorem amt {abs:List Value}(h:Ty Try.prog 20 31 abs):Amt abs:=by
  obtain ⟨p0,p1,p2,p3,p4,p5,p6,rfl,h0,h1,h2,h3,h4,h5,h6⟩:=tyS7 Try.underlying31 h
  obtain ⟨c1,n1,rfl,g1⟩:=tyG Try.underlying22 flat82 cells82 leaves82 rfl (by decide) h0
  obtain ⟨c2,n2,rfl,g2⟩:=tyG Try.underlying23 flat77 cells77 leaves77 rfl (by decide) h1
  obtain ⟨x,y,rfl,_,_⟩:=tyPlace h2
  obtain ⟨a,b,c,e,rfl,_,_,_,_⟩:=tyArea h3
  obtain ⟨g,rfl,_⟩:=tyI Try.underlying3 h4
  obtain ⟨u,rfl,_⟩:=tyI Try.underlying3 h5
  obtain ⟨z,rfl,_⟩:=tyI Try.underlying3 h6
  exact ⟨c1,n1,c2,n2,x,y,a,b,c,e,g,u,z,rfl,g1,g2⟩
section
variable {H:Type}{enc:TypeId×Value→H}{w:World}{r:Reach}{b0:Nat}{v:Value}{dd:DataW H}{p:List MemPlace}
set_option maxRecDepth 100000 in
theorem amtArg (hval:Value.okWide Try.prog w r b0 31 v)(h:DataW.Trod enc Try.prog w 0 (fun _=>true) true 31 v dd p):∃abs,VR (zAll w) (.agg ⟨abs⟩) v∧Amt abs:=by
  obtain ⟨abs,h1,h2⟩:=argS Try.underlying31 tyB31 hval h
  exact ⟨abs,h1,amt h2⟩
end
end Go.Proofs.Ytdidolncblhngaa
namespace Go.Proofs.Ytdidolncblhngaa
open Go.Gi Go.RowKit Go.Proofs.Ytdidolncblhngaa.Old
noncomputable section
set_option maxRecDepth 100000
set_option maxHeartbeats 4000000
structure R64 where
  r0:Bool
structure A64 where
  a0:Int
  a1:Int
  a2:Int
def rt64 (a0:Int)(a1:Int)(a2:Int):RT R64 :=
  .br (decide (a0≤a1)) (.br (decide ((IntKind.wrap .i64 ((0:Int)-a2))≤a0)) (.leaf ⟨(decide (a1≤a2))⟩) (.leaf ⟨false⟩)) (.leaf ⟨false⟩)
def en64 (r:R64):Value:=(.bool r.r0)
theorem T64  (a0:Int) (a1:Int) (a2:Int):evC Try.prog (Ans.c (fun _=>none:Ans)) 60 (.call 64 ⟨[(.agg ⟨[(.int .i64 a0),(.int .i64 a1)]⟩),(.int .i64 a2)]⟩ ⟨[],0,[]⟩) (frzK [0])=(rt64 a0 a1 a2).out (fun r=>.ret (en64 r) ⟨[],0,[]⟩):=by kernel_rfl
def F64 (a0:Int)(a1:Int)(a2:Int):Option R64:=(rt64 a0 a1 a2).val
section
variable (a0:Int) (a1:Int) (a2:Int)
def F64_ok:Bool:=(F64 a0 a1 a2).isSome
def F64_0:Bool:=match F64 a0 a1 a2 with | some r=>r.r0 | none=>false
end
def dec64:Task→Option (A64×Hp)
  | .call g ⟨[(.agg ⟨[(.int .i64 a0),(.int .i64 a1)]⟩),(.int .i64 a2)]⟩ h=>(match Nat.beq g 64 with | true=>some (⟨a0,a1,a2⟩,h) | false=>none)
  | _=>none
def alt64 (x:A64)(h:Hp):AT:=.br (F64_ok x.a0 x.a1 x.a2) (.leaf (.ret (.bool (F64_0 x.a0 x.a1 x.a2)) h)) .no
def p64:Ans:=fnAns dec64 alt64
theorem ha64:∀(x:A64) (h:Hp)(o:Out),(alt64 x h).out=some o→∃r,(rt64 x.a0 x.a1 x.a2).val=some r∧o=.ret (en64 r) h:=by
  intro x h o e
  unfold alt64 at e
  simp only [AT.out]at e
  obtain ⟨g,e⟩:=cond_some e
  unfold F64_ok at g
  obtain ⟨r,hF⟩:=Option.isSome_iff_exists.1 g
  have hv:F64 x.a0 x.a1 x.a2=(rt64 x.a0 x.a1 x.a2).val:=by delta F64;exact rfl
  refine ⟨r,hv.symm.trans hF,?_⟩
  simp only [Option.some.injEq]at e
  rw [← e]
  have k0:F64_0 x.a0 x.a1 x.a2=r.r0:=by
    show (match F64 x.a0 x.a1 x.a2 with | some r=>r.r0 | none=>false)=r.r0
    rw [hF]
  rw [k0]<;>rfl
theorem hd64:∀(t:Task) (x:A64)(h:Hp),dec64 t=some (x,h)→t=.call 64 ⟨[(.agg ⟨[(.int .i64 x.a0),(.int .i64 x.a1)]⟩),(.int .i64 x.a2)]⟩ h:=by
  intro t x h e
  unfold dec64 at e
  split at e
  case h_2=>cases e
  split at e
  case h_2=>cases e
  rename_i hg
  simp only [Option.some.injEq,Prod.mk.injEq]at e
  obtain ⟨rfl,rfl⟩:=e
  rw [Nat.eq_of_beq_eq_true hg]
theorem known64:Known Try.prog p64:=by
  exact Known.fn noNG mixed (Known.nothing Try.prog) (n:=60) (zs:=[0]) 64 (fun x:A64=>[(.agg ⟨[(.int .i64 x.a0),(.int .i64 x.a1)]⟩),(.int .i64 x.a2)]) (fun x=>rt64 x.a0 x.a1 x.a2) en64 (fun x=>T64  x.a0 x.a1 x.a2) (fun x=>rfl) dec64 alt64 hd64 ha64
structure R38 where
  r0:Int
structure A38 where
  a0:Int
  a1:Int
  a2:Int
  a3:Int
  a4:Int
def rt38 (a0:Int)(a1:Int)(a2:Int)(a3:Int)(a4:Int):RT R38 :=
  .br (not (decide (a0=a4))) (.leaf ⟨(2:Int)⟩) (.br (decide (a1≤a0)) (.leaf ⟨(7:Int)⟩) (.br (decide ((100000000:Int)<a1)) (.leaf ⟨(7:Int)⟩) (.br (F64_ok a2 a3 (10000000:Int)) (.br (not (F64_0 a2 a3 (10000000:Int))) (.leaf ⟨(7:Int)⟩) (.leaf ⟨(0:Int)⟩)) (.no))))
def en38 (r:R38):Value:=(.int .i64 r.r0)
theorem T38  (a0:Int) (a1:Int) (a2:Int) (a3:Int) (a4:Int):evC Try.prog (Ans.c p64) 60 (.call 38 ⟨[(.agg ⟨[(.int .i64 a0),(.int .i64 a1),(.int .i64 a2),(.int .i64 a3)]⟩),(.int .i64 a4)]⟩ ⟨[],0,[]⟩) (frzK [0])=(rt38 a0 a1 a2 a3 a4).out (fun r=>.ret (en38 r) ⟨[],0,[]⟩):=by kernel_rfl
def F38 (a0:Int)(a1:Int)(a2:Int)(a3:Int)(a4:Int):Option R38:=(rt38 a0 a1 a2 a3 a4).val
section
variable (a0:Int) (a1:Int) (a2:Int) (a3:Int) (a4:Int)
def F38_ok:Bool:=(F38 a0 a1 a2 a3 a4).isSome
def F38_0:Int:=match F38 a0 a1 a2 a3 a4 with | some r=>r.r0 | none=>0
end
def dec38:Task→Option (A38×Hp)
  | .call g ⟨[(.agg ⟨[(.int .i64 a0),(.int .i64 a1),(.int .i64 a2),(.int .i64 a3)]⟩),(.int .i64 a4)]⟩ h=>(match Nat.beq g 38 with | true=>some (⟨a0,a1,a2,a3,a4⟩,h) | false=>none)
  | _=>none
def alt38 (x:A38)(h:Hp):AT:=.br (F38_ok x.a0 x.a1 x.a2 x.a3 x.a4) (.leaf (.ret (.int .i64 (F38_0 x.a0 x.a1 x.a2 x.a3 x.a4)) h)) .no
def p38:Ans:=fnAns dec38 alt38
theorem ha38:∀(x:A38) (h:Hp)(o:Out),(alt38 x h).out=some o→∃r,(rt38 x.a0 x.a1 x.a2 x.a3 x.a4).val=some r∧o=.ret (en38 r) h:=by
  intro x h o e
  unfold alt38 at e
  simp only [AT.out]at e
  obtain ⟨g,e⟩:=cond_some e
  unfold F38_ok at g
  obtain ⟨r,hF⟩:=Option.isSome_iff_exists.1 g
  have hv:F38 x.a0 x.a1 x.a2 x.a3 x.a4=(rt38 x.a0 x.a1 x.a2 x.a3 x.a4).val:=by delta F38;exact rfl
  refine ⟨r,hv.symm.trans hF,?_⟩
  simp only [Option.some.injEq]at e
  rw [← e]
  have k0:F38_0 x.a0 x.a1 x.a2 x.a3 x.a4=r.r0:=by
    show (match F38 x.a0 x.a1 x.a2 x.a3 x.a4 with | some r=>r.r0 | none=>0)=r.r0
    rw [hF]
  rw [k0]<;>rfl
theorem hd38:∀(t:Task) (x:A38)(h:Hp),dec38 t=some (x,h)→t=.call 38 ⟨[(.agg ⟨[(.int .i64 x.a0),(.int .i64 x.a1),(.int .i64 x.a2),(.int .i64 x.a3)]⟩),(.int .i64 x.a4)]⟩ h:=by
  intro t x h e
  unfold dec38 at e
  split at e
  case h_2=>cases e
  split at e
  case h_2=>cases e
  rename_i hg
  simp only [Option.some.injEq,Prod.mk.injEq]at e
  obtain ⟨rfl,rfl⟩:=e
  rw [Nat.eq_of_beq_eq_true hg]
theorem known38:Known Try.prog p38:=by
  exact Known.fn noNG mixed known64 (n:=60) (zs:=[0]) 38 (fun x:A38=>[(.agg ⟨[(.int .i64 x.a0),(.int .i64 x.a1),(.int .i64 x.a2),(.int .i64 x.a3)]⟩),(.int .i64 x.a4)]) (fun x=>rt38 x.a0 x.a1 x.a2 x.a3 x.a4) en38 (fun x=>T38  x.a0 x.a1 x.a2 x.a3 x.a4) (fun x=>rfl) dec38 alt38 hd38 ha38
structure R39 where
  r0:Bool
structure A39 where
  a0:Int
  a1:Int
  a2:Int
  a3:Int
def rt39 (a0:Int)(a1:Int)(a2:Int)(a3:Int):RT R39 :=
  .br (F64_ok a0 a1 (500000000:Int)) (.br (F64_0 a0 a1 (500000000:Int)) (.br (F64_ok a2 a3 (500000000:Int)) (.leaf ⟨(F64_0 a2 a3 (500000000:Int))⟩) (.no)) (.leaf ⟨false⟩)) (.no)
def en39 (r:R39):Value:=(.bool r.r0)
theorem T39  (a0:Int) (a1:Int) (a2:Int) (a3:Int):evC Try.prog (Ans.c p64) 60 (.call 39 ⟨[(.agg ⟨[(.int .i64 a0),(.int .i64 a1),(.int .i64 a2),(.int .i64 a3)]⟩)]⟩ ⟨[],0,[]⟩) (frzK [0])=(rt39 a0 a1 a2 a3).out (fun r=>.ret (en39 r) ⟨[],0,[]⟩):=by kernel_rfl
def F39 (a0:Int)(a1:Int)(a2:Int)(a3:Int):Option R39:=(rt39 a0 a1 a2 a3).val
section
variable (a0:Int) (a1:Int) (a2:Int) (a3:Int)
def F39_ok:Bool:=(F39 a0 a1 a2 a3).isSome
def F39_0:Bool:=match F39 a0 a1 a2 a3 with | some r=>r.r0 | none=>false
end
def dec39:Task→Option (A39×Hp)
  | .call g ⟨[(.agg ⟨[(.int .i64 a0),(.int .i64 a1),(.int .i64 a2),(.int .i64 a3)]⟩)]⟩ h=>(match Nat.beq g 39 with | true=>some (⟨a0,a1,a2,a3⟩,h) | false=>none)
  | _=>none
def alt39 (x:A39)(h:Hp):AT:=.br (F39_ok x.a0 x.a1 x.a2 x.a3) (.leaf (.ret (.bool (F39_0 x.a0 x.a1 x.a2 x.a3)) h)) .no
def p39:Ans:=fnAns dec39 alt39
theorem ha39:∀(x:A39) (h:Hp)(o:Out),(alt39 x h).out=some o→∃r,(rt39 x.a0 x.a1 x.a2 x.a3).val=some r∧o=.ret (en39 r) h:=by
  intro x h o e
  unfold alt39 at e
  simp only [AT.out]at e
  obtain ⟨g,e⟩:=cond_some e
  unfold F39_ok at g
  obtain ⟨r,hF⟩:=Option.isSome_iff_exists.1 g
  have hv:F39 x.a0 x.a1 x.a2 x.a3=(rt39 x.a0 x.a1 x.a2 x.a3).val:=by delta F39;exact rfl
  refine ⟨r,hv.symm.trans hF,?_⟩
  simp only [Option.some.injEq]at e
  rw [← e]
  have k0:F39_0 x.a0 x.a1 x.a2 x.a3=r.r0:=by
    show (match F39 x.a0 x.a1 x.a2 x.a3 with | some r=>r.r0 | none=>false)=r.r0
    rw [hF]
  rw [k0]<;>rfl
theorem hd39:∀(t:Task) (x:A39)(h:Hp),dec39 t=some (x,h)→t=.call 39 ⟨[(.agg ⟨[(.int .i64 x.a0),(.int .i64 x.a1),(.int .i64 x.a2),(.int .i64 x.a3)]⟩)]⟩ h:=by
  intro t x h e
  unfold dec39 at e
  split at e
  case h_2=>cases e
  split at e
  case h_2=>cases e
  rename_i hg
  simp only [Option.some.injEq,Prod.mk.injEq]at e
  obtain ⟨rfl,rfl⟩:=e
  rw [Nat.eq_of_beq_eq_true hg]
theorem known39:Known Try.prog p39:=by
  exact Known.fn noNG mixed known64 (n:=60) (zs:=[0]) 39 (fun x:A39=>[(.agg ⟨[(.int .i64 x.a0),(.int .i64 x.a1),(.int .i64 x.a2),(.int .i64 x.a3)]⟩)]) (fun x=>rt39 x.a0 x.a1 x.a2 x.a3) en39 (fun x=>T39  x.a0 x.a1 x.a2 x.a3) (fun x=>rfl) dec39 alt39 hd39 ha39
structure R40 where
  r0:Bool
structure A40 where
  a0:Int
  a1:Int
def rt40 (a0:Int)(a1:Int):RT R40 :=
  .br (F39_ok a0 a0 a1 a1) (.leaf ⟨(F39_0 a0 a0 a1 a1)⟩) (.no)
def en40 (r:R40):Value:=(.bool r.r0)
theorem T40  (a0:Int) (a1:Int):evC Try.prog (Ans.c p39) 60 (.call 40 ⟨[(.agg ⟨[(.int .i64 a0),(.int .i64 a1)]⟩)]⟩ ⟨[],0,[]⟩) (frzK [0])=(rt40 a0 a1).out (fun r=>.ret (en40 r) ⟨[],0,[]⟩):=by kernel_rfl
def F40 (a0:Int)(a1:Int):Option R40:=(rt40 a0 a1).val
section
variable (a0:Int) (a1:Int)
def F40_ok:Bool:=(F40 a0 a1).isSome
def F40_0:Bool:=match F40 a0 a1 with | some r=>r.r0 | none=>false
end
def dec40:Task→Option (A40×Hp)
  | .call g ⟨[(.agg ⟨[(.int .i64 a0),(.int .i64 a1)]⟩)]⟩ h=>(match Nat.beq g 40 with | true=>some (⟨a0,a1⟩,h) | false=>none)
  | _=>none
def alt40 (x:A40)(h:Hp):AT:=.br (F40_ok x.a0 x.a1) (.leaf (.ret (.bool (F40_0 x.a0 x.a1)) h)) .no
def p40:Ans:=fnAns dec40 alt40
theorem ha40:∀(x:A40) (h:Hp)(o:Out),(alt40 x h).out=some o→∃r,(rt40 x.a0 x.a1).val=some r∧o=.ret (en40 r) h:=by
  intro x h o e
  unfold alt40 at e
  simp only [AT.out]at e
  obtain ⟨g,e⟩:=cond_some e
  unfold F40_ok at g
  obtain ⟨r,hF⟩:=Option.isSome_iff_exists.1 g
  have hv:F40 x.a0 x.a1=(rt40 x.a0 x.a1).val:=by delta F40;exact rfl
  refine ⟨r,hv.symm.trans hF,?_⟩
  simp only [Option.some.injEq]at e
  rw [← e]
  have k0:F40_0 x.a0 x.a1=r.r0:=by
    show (match F40 x.a0 x.a1 with | some r=>r.r0 | none=>false)=r.r0
    rw [hF]
  rw [k0]<;>rfl
theorem hd40:∀(t:Task) (x:A40)(h:Hp),dec40 t=some (x,h)→t=.call 40 ⟨[(.agg ⟨[(.int .i64 x.a0),(.int .i64 x.a1)]⟩)]⟩ h:=by
  intro t x h e
  unfold dec40 at e
  split at e
  case h_2=>cases e
  split at e
  case h_2=>cases e
  rename_i hg
  simp only [Option.some.injEq,Prod.mk.injEq]at e
  obtain ⟨rfl,rfl⟩:=e
  rw [Nat.eq_of_beq_eq_true hg]
theorem known40:Known Try.prog p40:=by
  exact Known.fn noNG mixed known39 (n:=60) (zs:=[0]) 40 (fun x:A40=>[(.agg ⟨[(.int .i64 x.a0),(.int .i64 x.a1)]⟩)]) (fun x=>rt40 x.a0 x.a1) en40 (fun x=>T40  x.a0 x.a1) (fun x=>rfl) dec40 alt40 hd40 ha40
structure R41 where
  r0:Bool
structure A41 where
  a0:Int
def rt41 (a0:Int):RT R41 :=
  .br (decide ((0:Int)≤a0)) (.leaf ⟨(decide (a0≤(6000:Int)))⟩) (.leaf ⟨false⟩)
def en41 (r:R41):Value:=(.bool r.r0)
theorem T41  (a0:Int):evC Try.prog (Ans.c (fun _=>none:Ans)) 60 (.call 41 ⟨[(.int .i64 a0)]⟩ ⟨[],0,[]⟩) (frzK [0])=(rt41 a0).out (fun r=>.ret (en41 r) ⟨[],0,[]⟩):=by kernel_rfl
def F41 (a0:Int):Option R41:=(rt41 a0).val
section
variable (a0:Int)
def F41_ok:Bool:=(F41 a0).isSome
def F41_0:Bool:=match F41 a0 with | some r=>r.r0 | none=>false
end
def dec41:Task→Option (A41×Hp)
  | .call g ⟨[(.int .i64 a0)]⟩ h=>(match Nat.beq g 41 with | true=>some (⟨a0⟩,h) | false=>none)
  | _=>none
def alt41 (x:A41)(h:Hp):AT:=.br (F41_ok x.a0) (.leaf (.ret (.bool (F41_0 x.a0)) h)) .no
def p41:Ans:=fnAns dec41 alt41
theorem ha41:∀(x:A41) (h:Hp)(o:Out),(alt41 x h).out=some o→∃r,(rt41 x.a0).val=some r∧o=.ret (en41 r) h:=by
  intro x h o e
  unfold alt41 at e
  simp only [AT.out]at e
  obtain ⟨g,e⟩:=cond_some e
  unfold F41_ok at g
  obtain ⟨r,hF⟩:=Option.isSome_iff_exists.1 g
  have hv:F41 x.a0=(rt41 x.a0).val:=by delta F41;exact rfl
  refine ⟨r,hv.symm.trans hF,?_⟩
  simp only [Option.some.injEq]at e
  rw [← e]
  have k0:F41_0 x.a0=r.r0:=by
    show (match F41 x.a0 with | some r=>r.r0 | none=>false)=r.r0
    rw [hF]
  rw [k0]<;>rfl
theorem hd41:∀(t:Task) (x:A41)(h:Hp),dec41 t=some (x,h)→t=.call 41 ⟨[(.int .i64 x.a0)]⟩ h:=by
  intro t x h e
  unfold dec41 at e
  split at e
  case h_2=>cases e
  split at e
  case h_2=>cases e
  rename_i hg
  simp only [Option.some.injEq,Prod.mk.injEq]at e
  obtain ⟨rfl,rfl⟩:=e
  rw [Nat.eq_of_beq_eq_true hg]
theorem known41:Known Try.prog p41:=by
  exact Known.fn noNG mixed (Known.nothing Try.prog) (n:=60) (zs:=[0]) 41 (fun x:A41=>[(.int .i64 x.a0)]) (fun x=>rt41 x.a0) en41 (fun x=>T41  x.a0) (fun x=>rfl) dec41 alt41 hd41 ha41
end
end Go.Proofs.Ytdidolncblhngaa
