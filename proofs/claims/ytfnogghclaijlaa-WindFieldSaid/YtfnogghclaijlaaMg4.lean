/- Part 4 of the texts below the claim. Conditions: none. -/
import Derived.Test.YtfnogghclaijlaaMg3
set_option linter.unusedVariables false
set_option linter.unusedSimpArgs false
namespace Go.Gi
open Go.RowKit
noncomputable section
theorem pureRun_pure {P:Program} {α:Type}(a:α):pureRun P (pure a)=some a:=rfl
def symIx (P:Program)(t:TypeId)(x y:Value):Option (Bool×Value) :=
  match x,y with
  | .slice (some ⟨b,off,none⟩) len _,.int _ i =>
    match P.underlying t with
    | some (.slice e)=>match sizeB P e with
      | some n=>some (decide (0≤i)&&decide (i<len),.pointer (some ⟨b,off+i.toNat*n,none⟩))
      | none=>none
    | _=>none
  | .func (.via 0 ⟨[]⟩ 0 true) c ⟨[.slice (some ⟨b,off,none⟩) len _]⟩,.int _ i =>
    match P.underlying t with
    | some (.slice e)=>match sizeB P e with
      | some n=>some (decide (0≤i)&&decide (i<len),.func (.via 0 ⟨[]⟩ 0 false) c ⟨[.pointer (some ⟨b,off+i.toNat*n,none⟩)]⟩)
      | none=>none
    | _=>none
  | .func (.via 0 ⟨[]⟩ 0 false) c ⟨[.pointer (some ⟨b,off,none⟩)]⟩,.int _ i =>
    match P.underlying t with
    | some (.array len e)=>match sizeB P e with
      | some n=>some (decide (0≤i)&&decide (i<len),.func (.via 0 ⟨[]⟩ 0 false) c ⟨[.pointer (some ⟨b,off+i.toNat*n,none⟩)]⟩)
      | none=>none
    | _=>none
  | .pointer (some ⟨b,off,none⟩),.int _ i =>
    match P.underlying t with
    | some (.array len e)=>match sizeB P e with
      | some n=>some (decide (0≤i)&&decide (i<len),.pointer (some ⟨b,off+i.toNat*n,none⟩))
      | none=>none
    | _=>none
  | _,_=>none
theorem symIx_ok {P:Program}{t:TypeId}{x y v:Value}{b:Bool}(h:symIx P t x y=some (b,v)) (hb:b=true):rIndexAddr P t x y=some v:=by
  unfold symIx at h
  split at h
  · split at h
    · rename_i e hu
      split at h
      · rename_i n hn
        simp only [Option.some.injEq,Prod.mk.injEq]at h
        obtain ⟨h1,rfl⟩:=h
        subst h1
        simp only [Bool.and_eq_true,decide_eq_true_eq]at hb
        simp only [rIndexAddr,hu,hn,hb,and_self,if_true]
      · cases h
    · cases h
  · split at h
    · rename_i e hu
      split at h
      · rename_i n hn
        simp only [Option.some.injEq,Prod.mk.injEq]at h
        obtain ⟨h1,rfl⟩:=h
        subst h1
        simp only [Bool.and_eq_true,decide_eq_true_eq]at hb
        simp only [rIndexAddr,hu,hn,hb,and_self,if_true]
      · cases h
    · cases h
  · split at h
    · rename_i len e hu
      split at h
      · rename_i n hn
        simp only [Option.some.injEq,Prod.mk.injEq]at h
        obtain ⟨h1,rfl⟩:=h
        subst h1
        simp only [Bool.and_eq_true,decide_eq_true_eq]at hb
        simp only [rIndexAddr,hu,hn,hb,and_self,if_true]
      · cases h
    · cases h
  · split at h
    · rename_i len e hu
      split at h
      · rename_i n hn
        simp only [Option.some.injEq,Prod.mk.injEq]at h
        obtain ⟨h1,rfl⟩:=h
        subst h1
        simp only [Bool.and_eq_true,decide_eq_true_eq]at hb
        simp only [rIndexAddr,hu,hn,hb,and_self,if_true]
      · cases h
    · cases h
  · cases h
def getByte (s:ByteArray)(i:Nat):Int:=match s[i]? with | some b=>(b.toNat:Int) | none=>0
def symIndex (P:Program)(t:TypeId)(x y:Value):Option (Bool×Value) :=
  match x,y with
  | .string s,.int _ i =>
    match P.underlying t with
    | some .string=>some (decide (0≤i)&&decide (i<s.size),.int .u8 (getByte s i.toNat))
    | _=>none
  | _,_=>none
theorem symIndex_ok {P:Program} {ρ:Operand→Value}{H:List Ob}{o:Oper}{t:TypeId}{x y:Operand}{b:Bool}{v:Value}(ho:o.op=.index t x y) (hx:okO x=true) (hy:okO y=true)
    (h:symIndex P t (ρ x) (ρ y)=some (b,v)) (hb:b=true):aread P ρ H o=some v:=by
  unfold symIndex at h
  split at h
  · rename_i s k i e1 e2
    split at h
    · rename_i hu
      simp only [Option.some.injEq,Prod.mk.injEq]at h
      obtain ⟨h1,rfl⟩:=h
      subst h1
      simp only [Bool.and_eq_true,decide_eq_true_eq]at hb
      simp only [aread,ho,hx,hy,e1,e2]
      show pureVal P (execOp ρ o)=_
      refine pureVal_of ?_ rfl
      simp only [execOp,ho,e1,e2]
      refine pure_val ?_
      have hlt:i.toNat<s.size:=by omega
      simp only [Instr.index,asIntOf,pureRun_bind,pureRun_pure,Option.bind_some,pure_underlying hu,hb.1,if_true]
      have hs:s[i.toNat]?=some s[i.toNat]:=by simp [hlt]
      rw [hs]
      simp only [getByte,hs]
      rfl
    · cases h
  · cases h
def symBound (v:Option Value)(d:Nat):Option (Bool×Nat) :=
  match v with
  | none=>some (true,d)
  | some (.int _ i)=>some (decide (0≤i),i.toNat)
  | some _=>none
theorem symBound_ok {v:Option Value}{d n:Nat}{b:Bool}(h:symBound v d=some (b,n)) (hb:b=true):bound v d=some n:=by
  unfold symBound at h
  split at h
  · simp only [Option.some.injEq,Prod.mk.injEq]at h;rw [bound,h.2]
  · simp only [Option.some.injEq,Prod.mk.injEq]at h
    obtain ⟨h1,rfl⟩:=h
    subst h1
    simp only [bound];rw [if_pos (of_decide_eq_true hb)]
  · cases h
def symSlice (P:Program)(t:TypeId)(x:Value)(lo hi:Option Value):Option (Bool×Value) :=
  match x with
  | .slice (some ⟨b,off,none⟩) len sz =>
    match P.underlying t with
    | some (.slice e)=>match sizeB P e,symBound lo 0,symBound hi len with
      | some n,some (b1,l),some (b2,h)=>if n=sz then some (b1&&(b2&&(decide (l≤h)&&decide (h≤len))),.slice (some ⟨b,off+l*n,none⟩) (h-l) sz) else none
      | _,_,_=>none
    | _=>none
  | .func (.via 0 ⟨[]⟩ 0 true) c ⟨[.slice (some ⟨b,off,none⟩) len sz]⟩ =>
    match P.underlying t with
    | some (.slice e)=>match sizeB P e,symBound lo 0,symBound hi len with
      | some n,some (b1,l),some (b2,h)=>if n=sz then some (b1&&(b2&&(decide (l≤h)&&decide (h≤len))),.func (.via 0 ⟨[]⟩ 0 true) c ⟨[.slice (some ⟨b,off+l*n,none⟩) (h-l) sz]⟩) else none
      | _,_,_=>none
    | _=>none
  | _=>none
theorem symSlice_ok {P:Program}{t:TypeId}{x v:Value}{lo hi:Option Value}{b:Bool}(h:symSlice P t x lo hi=some (b,v)) (hb:b=true):rSlice P t lo hi x=some v∧gr x=false:=by
  unfold symSlice at h
  split at h
  · split at h
    · rename_i e hu
      split at h
      · rename_i n b1 l b2 hh hn hl hr
        split at h
        · rename_i hsz
          simp only [Option.some.injEq,Prod.mk.injEq]at h
          obtain ⟨h1,rfl⟩:=h
          subst h1
          simp only [Bool.and_eq_true,decide_eq_true_eq]at hb
          refine ⟨?_,rfl⟩
          simp only [rSlice,hu,hn,symBound_ok hl hb.1,symBound_ok hr hb.2.1]
          rw [if_pos ⟨hb.2.2.1,hb.2.2.2,hsz⟩]
        · cases h
      · cases h
    · cases h
  · split at h
    · rename_i e hu
      split at h
      · rename_i n b1 l b2 hh hn hl hr
        split at h
        · rename_i hsz
          simp only [Option.some.injEq,Prod.mk.injEq]at h
          obtain ⟨h1,rfl⟩:=h
          subst h1
          simp only [Bool.and_eq_true,decide_eq_true_eq]at hb
          refine ⟨?_,rfl⟩
          simp only [rSlice,hu,hn,symBound_ok hl hb.1,symBound_ok hr hb.2.1]
          rw [if_pos ⟨hb.2.2.1,hb.2.2.2,hsz⟩]
        · cases h
      · cases h
    · cases h
  · cases h
def foldI (f:Int→Int→Int)(k:IntKind):Int→List Value→Option Value
  | a,[]=>some (.int k a)
  | a,.int k' b::r=>if k'=k then foldI f k (f a b) r else none
  | _,_::_=>none
def symMost (b:Builtin)(vs:List Value):Option Value :=
  match vs with
  | .int k a::r=>(match b with
    | .max=>foldI max k a r
    | .min=>foldI min k a r
    | _=>none)
  | _=>none
theorem max2_eq (k:IntKind)(a b:Int):Builtin.max2 (.int k a) (.int k b)=pure (.int k (max a b)):=by
  simp only [Builtin.max2];congr 2;rw [Int.max_def];split<;>split<;>omega
theorem min2_eq (k:IntKind)(a b:Int):Builtin.min2 (.int k a) (.int k b)=pure (.int k (min a b)):=by
  simp only [Builtin.min2];congr 2;rw [Int.min_def];split<;>split<;>omega
theorem foldMax {P:Program}{k:IntKind}:∀{r:List Value}{a:Int}{v:Value},foldI max k a r=some v→pureRun P (r.foldlM Builtin.max2 (.int k a))=some v∧(∃n,v=.int k n)
  | [],a,v,h=>by simp only [foldI,Option.some.injEq]at h;subst h;exact ⟨rfl,_,rfl⟩
  | x::r,a,v,h=>by
    cases x<;>simp only [foldI]at h<;>first | (cases h;done) | skip
    rename_i k' b
    split at h
    · rename_i hk
      subst hk
      obtain ⟨h1,h2⟩:=foldMax (P:=P) h
      refine ⟨?_,h2⟩
      rw [List.foldlM_cons,max2_eq,pureRun_bind]
      exact h1
    · cases h
theorem foldMin {P:Program}{k:IntKind}:∀{r:List Value}{a:Int}{v:Value},foldI min k a r=some v→pureRun P (r.foldlM Builtin.min2 (.int k a))=some v∧(∃n,v=.int k n)
  | [],a,v,h=>by simp only [foldI,Option.some.injEq]at h;subst h;exact ⟨rfl,_,rfl⟩
  | x::r,a,v,h=>by
    cases x<;>simp only [foldI]at h<;>first | (cases h;done) | skip
    rename_i k' b
    split at h
    · rename_i hk
      subst hk
      obtain ⟨h1,h2⟩:=foldMin (P:=P) h
      refine ⟨?_,h2⟩
      rw [List.foldlM_cons,min2_eq,pureRun_bind]
      exact h1
    · cases h
theorem foldI_gr {f:Int→Int→Int}{k:IntKind}:∀{r:List Value}{a:Int}{v:Value},foldI f k a r=some v→r.all gr=true
  | [],_,_,_=>rfl
  | x::r,a,v,h=>by
    cases x<;>simp only [foldI]at h<;>first | (cases h;done) | skip
    split at h
    · simp only [List.all_cons,Bool.and_eq_true];exact ⟨rfl,foldI_gr h⟩
    · cases h
theorem symMost_ok {P:Program} {ρ:Operand→Value}{H:List Ob}{o:Oper}{b:Builtin}{args:Array Operand}{ts:Array TypeId}{v:Value}(ho:o.op=.call { callee:=.builtin b,args:=args,argTypes:=ts })
    (hx:args.toList.all okO=true) (h:symMost b (args.toList.map ρ)=some v):aread P ρ H o=some v:=by
  have hg:(args.toList.all fun x=>gr (ρ x))=true∧(b=.max∨b=.min):=by
    unfold symMost at h
    split at h
    · rename_i k a r e
      have hall:(args.toList.map ρ).all gr=true∧(b=.max∨b=.min):=by
        rw [e,List.all_cons]
        split at h
        · exact ⟨by rw [foldI_gr h];rfl,.inl rfl⟩
        · exact ⟨by rw [foldI_gr h];rfl,.inr rfl⟩
        · cases h
      rw [List.all_map]at hall
      exact hall
    · cases h
  have hn:numB b=true:=by rcases hg.2 with rfl | rfl<;>rfl
  simp only [aread,ho,hx,hg.1,hn,Bool.and_self,if_true]
  have hl:(args.map ρ).toList=args.toList.map ρ:=by simp
  unfold symMost at h
  split at h
  · rename_i k a r e
    rcases hg.2 with rfl | rfl
    · obtain ⟨h1,n,rfl⟩:=foldMax (P:=P) h
      refine pureVal_of ?_ rfl
      simp only [execOp,ho,resolve,pureRun_bind,pureRun_pure,Option.bind_some,invoke,builtin]
      simp only [Builtin.max_,hl,e]
      rw [h1];rfl
    · obtain ⟨h1,n,rfl⟩:=foldMin (P:=P) h
      refine pureVal_of ?_ rfl
      simp only [execOp,ho,resolve,pureRun_bind,pureRun_pure,Option.bind_some,invoke,builtin]
      simp only [Builtin.min_,hl,e]
      rw [h1];rfl
  · cases h
def eqFs (P:Program)(e:TypeId→Value→Value→Option Bool)(xs ys:Array Value):List Field→Option Bool
  | []=>some true
  | f::r =>
    if f.name = "_" then eqFs P e xs ys r else
    match rPart P f.type xs f.offset,rPart P f.type ys f.offset with
    | some u,some v=>match e f.type u v,eqFs P e xs ys r with
      | some b,some b'=>some (b&&b')
      | _,_=>none
    | _,_=>none
def eqT (P:Program):Nat→TypeId→Value→Value→Option Bool
  | 0,_,_,_=>none
  | d+1,t,x,y =>
    match P.underlying t,x,y with
    | some .bool,.bool a,.bool b=>some (a == b)
    | some (.int _),.int k a,.int k' b=>if k=k' then some (decide (a=b)) else none
    | some .string,.string a,.string b=>some (a == b)
    | some (.struct fs),.agg xs,.agg ys=>if P.stoodInHeld t then none else eqFs P (eqT P d) xs ys fs.toList
    | _,_,_=>none
theorem part_pure {P:Program}{t:TypeId}{cs:Array Value}{off:Nat}{v:Value}(h:rPart P t cs off=some v):pureRun P (part t cs off)=some v:=by
  unfold rPart at h
  unfold part
  rw [pureRun_bind]
  have hag:∀{b:Bool},isAggB P t=some b→pureRun P (isAgg t)=some b:=by
    intro b hb
    unfold isAggB at hb
    unfold isAgg
    rw [pureRun_bind]
    split at hb
    · rename_i hu;cases hb;rw [pure_underlying hu];rfl
    · rename_i hu;cases hb;rw [pure_underlying hu];rfl
    · rename_i d h1 h2 hu
      cases hb;rw [pure_underlying hu]
      cases d<;>first | rfl | exact (h1 _ rfl).elim | exact (h2 _ _ rfl).elim
    · cases hb
  split at h
  · rename_i ha
    rw [hag ha]
    simp only [Option.bind_some,if_true]
    split at h
    · rename_i n hn
      simp only [Option.some.injEq]at h
      subst h
      unfold sizeB at hn
      rw [Option.map_eq_some_iff]at hn
      obtain ⟨i,hi,rfl⟩:=hn
      have:pureRun P (sizeOf t)=some i.size:=by
        unfold sizeOf typeInfo
        simp only [pureRun_bind]
        show ((pureRun P (match P.info? t with | some i=>pure i | none=>_)).bind _)=_
        rw [hi];rfl
      rw [pureRun_bind,this];rfl
    · cases h
  · rename_i ha
    rw [hag ha]
    simp only [Option.bind_some,Bool.false_eq_true,if_false]
    rw [h];rfl
  · cases h
theorem eqFs_ok {P:Program}{d:Nat}{xs ys:Array Value}(ih:∀t x y b,eqT P d t x y=some b→pureRun P (Op.equalIn d t x y)=some b):∀{fs:List Field}{b:Bool},eqFs P (eqT P d) xs ys fs=some b →
    pureRun P (do
      for f in fs do
        if f.name ≠ "_" then
          if !(← Op.equalIn d f.type (← part f.type xs f.offset) (← part f.type ys f.offset)) then return false
      pure true:Sem Bool)=some b:=by
  intro fs
  induction fs with
  | nil=>intro b h;simp only [eqFs,Option.some.injEq]at h;subst h;rfl
  | cons f r ihr =>
    intro b h
    simp only [eqFs]at h
    simp only [List.forIn_cons]
    by_cases hf : f.name = "_"
    · rw [if_pos hf]at h
      simp only [hf,ne_eq,not_true_eq_false,if_false,pure_bind]
      exact ihr h
    · rw [if_neg hf]at h
      split at h
      · rename_i u v hu hv
        split at h
        · rename_i b1 b2 h1 h2
          simp only [Option.some.injEq]at h
          subst h
          have e1:=ih _ _ _ _ h1
          simp only [ne_eq,hf,not_false_eq_true,if_true,pureRun_bind,part_pure hu,part_pure hv,Option.bind_some,e1]
          cases b1 with
          | true =>
            have:=ihr h2
            simp only [pureRun_bind,ne_eq]at this
            exact this
          | false=>rfl
        · cases h
      · cases h
theorem eqT_ok {P:Program}:∀{d:Nat}(t:TypeId) (x y:Value) (b:Bool),eqT P d t x y=some b→pureRun P (Op.equalIn d t x y)=some b
  | 0,_,_,_,_,h=>by cases h
  | d+1,t,x,y,b,h=>by
    unfold eqT at h
    split at h
    · rename_i u c hu
      simp only [Option.some.injEq]at h;subst h
      exact equalIn_bool d hu u c
    · rename_i q k u k' c hu
      split at h
      · rename_i hk
        subst hk
        simp only [Option.some.injEq]at h;subst h
        rw [← intEq]
        exact equalIn_int d hu k u c
      · cases h
    · rename_i u c hu
      simp only [Option.some.injEq]at h;subst h
      exact equalIn_string d hu u c
    · rename_i fs xs ys hu
      split at h
      · cases h
      · rename_i hst
        have:=eqFs_ok (fun t x y b=>eqT_ok t x y b) h
        unfold Op.equalIn
        rw [pureRun_bind,pure_underlying hu]
        simp only [Option.bind_some]
        rw [pureRun_bind,show pureRun P program=some P from rfl]
        simp only [Option.bind_some]
        rw [if_neg hst,← Array.forIn_toList]
        exact this
    · cases h
def symEq (P:Program)(op:BinOp)(t:TypeId)(x y:Value):Option (Bool×Value) :=
  match x,y with
  | .agg xs,.agg ys =>
    if P.eqGuardType P.depth t then none else
    match eqT P 10000 t (.agg xs) (.agg ys) with
    | some b=>(match op with | .eql=>some (gr x&&gr y,.bool b) | .neq=>some (gr x&&gr y,.bool (!b)) | _=>none)
    | none=>none
  | _,_=>none
theorem symEq_ok {P:Program} {ρ:Operand→Value}{H:List Ob}{o:Oper}{op:BinOp}{t yt:TypeId}{x y:Operand}{b:Bool}{v:Value}(ho:o.op=.binOp op t x y yt) (hx:okO x=true) (hy:okO y=true)
    (h:symEq P op t (ρ x) (ρ y)=some (b,v)) (hb:b=true):aread P ρ H o=some v:=by
  unfold symEq at h
  split at h
  · rename_i xs ys e1 e2
    split at h
    · cases h
    · rename_i hg
      split at h
      · rename_i c hc
        have hq:pureRun P (Op.equal t (.agg xs) (.agg ys))=some c:=eqT_ok _ _ _ _ hc
        have hguard:∀op',pureRun P (eqGuard op' t x y (.agg xs) (.agg ys))=some ():=by
          intro op'
          unfold eqGuard
          have h1:pureRun P program=some P:=rfl
          cases op'<;>first | rfl | skip
          all_goals
            simp only [Bool.not_true,Bool.false_eq_true,if_false,pureRun_bind,h1,Option.bind_some]
            rw [if_pos (by simpa using hg)]
            rfl
        have main:∀u,pureRun P (binOp op t (.agg xs) (.agg ys))=some u→gr u=true→(gr (.agg xs)&&gr (.agg ys))=true→aread P ρ H o=some u:=by
          intro u hu hgu hgg
          have hp:=pure_bin (P:=P) (ρ:=ρ) ho (by rw [e1,e2];exact hguard _) (by rw [e1,e2];exact hu) hgu
          rw [Bool.and_eq_true]at hgg
          unfold aread
          simp only [ho,hx,hy,e1,e2]
          rw [hgg.1,hgg.2,hp]
          have hf:fastBin op (.agg xs) (.agg ys)=none:=by simp [fastBin]
          rw [hf];rfl
        split at h
        · simp only [Option.some.injEq,Prod.mk.injEq]at h
          obtain ⟨h1,rfl⟩:=h
          exact main _ (by simp only [binOp];rw [pureRun_bind,hq];rfl) rfl (by rw [← e1,← e2];exact h1.trans hb)
        · simp only [Option.some.injEq,Prod.mk.injEq]at h
          obtain ⟨h1,rfl⟩:=h
          exact main _ (by simp only [binOp];rw [pureRun_bind,hq];rfl) rfl (by rw [← e1,← e2];exact h1.trans hb)
        · cases h
      · cases h
  · cases h
def symLen (P:Program)(t:TypeId)(x:Value):Option Value :=
  match x with
  | .slice _ n _=>match P.underlying t with | some (.slice _)=>some (goInt n) | _=>none
  | .string s=>match P.underlying t with | some .string=>some (goInt s.size) | _=>none
  | .func (.via 0 ⟨[]⟩ 0 true) _ ⟨[.slice (some ⟨_,_,none⟩) n _]⟩=>match P.underlying t with | some (.slice _)=>some (goInt n) | _=>none
  | _=>none
theorem symLen_ok {P:Program} {ρ:Operand→Value}{H:List Ob}{o:Oper}{args:Array Operand}{ts:Array TypeId}{x:Operand}{t:TypeId}{v:Value}(ho:o.op=.call { callee:=.builtin .len,args:=args,argTypes:=ts })
    (ha:args.toList=[x]) (ht:ts.toList=[t]) (hx:okO x=true) (h:symLen P t (ρ x)=some v):aread P ρ H o=some v:=by
  obtain rfl:args=#[x]:=by apply Array.ext';simpa using ha
  obtain rfl:ts=#[t]:=by apply Array.ext';simpa using ht
  unfold symLen at h
  have pv:∀{xv:Value} {d:TypeDesc} {m:Nat},ρ x=xv→P.underlying t=some d→pureRun P (Builtin.len_ #[t] o.type #[xv])=some (goInt m)→pureVal P (execOp ρ o)=some (goInt m):=by
    intro xv d m e hu hr
    refine pureVal_of ?_ rfl
    simp only [execOp,ho,resolve,pureRun_bind,pureRun_pure,Option.bind_some,invoke,builtin]
    have:(#[x]:Array Operand).map ρ=#[xv]:=by simp [e]
    rw [this,hr];rfl
  split at h
  · rename_i a n c e
    split at h
    · rename_i el hu
      simp only [Option.some.injEq]at h;subst h
      simp only [aread,ho,List.all_cons,List.all_nil,hx,Bool.and_true,if_true,e]
      split
      · rename_i hg
        refine pv e hu ?_
        simp only [Builtin.len_,List.getElem?_toArray,List.getElem?_cons_zero,pureRun_bind,pure_underlying hu,Option.bind_some]
        rfl
      · simp only [rLen,hu]
    · cases h
  · rename_i s e
    split at h
    · rename_i hu
      simp only [Option.some.injEq]at h;subst h
      simp only [aread,ho,List.all_cons,List.all_nil,hx,Bool.and_true,if_true,e]
      have hg:(gr (Value.string s)&&numB Builtin.len)=true:=rfl
      rw [if_pos hg]
      refine pv e hu ?_
      simp only [Builtin.len_,List.getElem?_toArray,List.getElem?_cons_zero,pureRun_bind,pure_underlying hu,Option.bind_some]
      rfl
    · cases h
  · rename_i c b off n z e
    split at h
    · rename_i el hu
      simp only [Option.some.injEq]at h;subst h
      have hg:∀B:Bool,(gr (Value.func (.via 0 ⟨[]⟩ 0 true) c ⟨[.slice (some ⟨b,off,none⟩) n z]⟩)&&B)=false:=fun _=>rfl
      simp only [aread,ho,List.all_cons,List.all_nil,hx,Bool.and_true,if_true,e]
      rw [hg]
      simp only [rLen,hu]
      rfl
    · cases h
  · cases h
def lkL (P:Program)(t:TypeId)(k:Value)(es:List (Value×Value)):Option Value :=
  match P.underlying t with
  | some (.map kt et) =>
    if gr k=true∧pureRun P (Instr.checkKey es.isEmpty 10000 kt k)=some ()∧(P.underlying kt).isSome=true then
      match aFind P kt k (es.map (·.1)) 0 with
      | some (some j)=>match es[j]? with
        | some (_,v)=>some v
        | none=>none
      | some none=>zeroB P et
      | none=>none
    else none
  | _=>none
theorem lkL_eq {P:Program}{H:List Ob}{t:TypeId}{k:Value}{r:Nat}{es:List (Value×Value)}(hr:H[r]?=some (.map es)):rLookup P H t false k (.map (some r))=lkL P t k es:=by
  unfold rLookup lkL
  simp only [hr]
  cases P.underlying t with
  | none=>rfl
  | some u =>
    cases u with
    | map kt et =>
      simp only
      split
      · split
        · split<;>simp_all
        · split<;>simp_all
        · simp_all
      · rfl
    | _=>rfl
def lkIs (P:Program)(t:TypeId)(k:Value)(es:List (Value×Value)):Bool:=match lkL P t k es with
  | some (.bool _)=>true
  | _=>false
def lkOf (P:Program)(t:TypeId)(k:Value)(es:List (Value×Value)):Bool:=match lkL P t k es with
  | some (.bool b)=>b
  | _=>false
def symLookup (P:Program)(t:TypeId)(ok:Bool)(k x:Value)(H:List Ob):Option (Bool×Value) :=
  match ok,x with
  | false,.map (some r)=>(match nthO H r with
    | some (.map es)=>some (lkIs P t k es,.bool (lkOf P t k es))
    | _=>none)
  | _,_=>none
theorem symLookup_ok {P:Program} {ρ:Operand→Value}{H:List Ob}{o:Oper}{t:TypeId}{x k:Operand}{ok:Bool}{b:Bool}{v:Value}(ho:o.op=.lookup t x k ok) (hx:(okO x&&okO k)=true)
    (h:symLookup P t ok (ρ k) (ρ x) H=some (b,v)) (hb:b=true):aread P ρ H o=some v:=by
  unfold symLookup at h
  split at h
  · rename_i r e
    split at h
    · rename_i es hes
      rw [nthO_eq]at hes
      simp only [Option.some.injEq,Prod.mk.injEq]at h
      obtain ⟨rfl,rfl⟩:=h
      have hg:gr (Value.map (some r))=false:=rfl
      simp only [aread,ho,hx,if_true,e,hg,Bool.false_and,Bool.false_eq_true,if_false]
      rw [lkL_eq hes]
      unfold lkIs at hb
      unfold lkOf
      split at hb
      · rename_i b' hl;rw [hl]
      · cases hb
    · cases h
  · cases h
def symR (P:Program) (ρ:Operand→Value)(H:List Ob)(o:Oper):Option (Bool×Value) :=
  match o.op with
  | .load t x=>if okO x then symLoad P H t (ρ x) else none
  | .binOp op t x y _=>if okO x&&okO y then (match symBin P op t (ρ x) (ρ y) with | some r=>some r | none=>symEq P op t (ρ x) (ρ y)) else none
  | .indexAddr t x y=>if okO x&&okO y then symIx P t (ρ x) (ρ y) else none
  | .index t x y=>if okO x&&okO y then symIndex P t (ρ x) (ρ y) else none
  | .slice t x lo hi mx=>if okO x&&lo.all okO&&hi.all okO&&mx.isNone then symSlice P t (ρ x) (lo.map ρ) (hi.map ρ) else none
  | .call { callee:=.builtin .len,args,argTypes } =>
    match args.toList,argTypes.toList with
    | [x],[t]=>if okO x then (symLen P t (ρ x)).map fun v=>(true,v) else none
    | _,_=>none
  | .lookup t x k ok=>if okO x&&okO k then symLookup P t ok (ρ k) (ρ x) H else none
  | .call { callee:=.builtin b,args,.. }=>if args.toList.all okO then (symMost b (args.toList.map ρ)).map fun v=>(true,v) else none
  | _=>none
theorem symR_ok {P:Program} {ρ:Operand→Value}{H:List Ob}{o:Oper}{b:Bool}{v:Value}(h:symR P ρ H o=some (b,v)) (hb:b=true):aread P ρ H o=some v:=by
  unfold symR at h
  split at h
  · rename_i t x ho
    split at h
    · rename_i hx
      simp only [aread,ho,hx,if_true]
      exact symLoad_ok h hb
    · cases h
  · rename_i op t x y yt ho
    split at h
    · rename_i hx
      rw [Bool.and_eq_true]at hx
      split at h
      · rename_i r hr
        simp only [Option.some.injEq]at h
        subst h
        exact symBin_ok ho hx.1 hx.2 hr hb
      · exact symEq_ok ho hx.1 hx.2 h hb
    · cases h
  · rename_i t x y ho
    split at h
    · rename_i hx
      simp only [aread,ho,hx,if_true]
      exact symIx_ok h hb
    · cases h
  · rename_i t x y ho
    split at h
    · rename_i hx
      rw [Bool.and_eq_true]at hx
      exact symIndex_ok ho hx.1 hx.2 h hb
    · cases h
  · rename_i t x lo hi mx ho
    split at h
    · rename_i hx
      obtain ⟨h1,h2⟩:=symSlice_ok h hb
      simp only [aread,ho,hx,if_true,h2,Bool.false_and,Bool.false_eq_true,if_false]
      exact h1
    · cases h
  · rename_i args ts ho
    split at h
    · rename_i x t ha ht
      split at h
      · rename_i hx
        rw [Option.map_eq_some_iff]at h
        obtain ⟨u,hu,e⟩:=h
        simp only [Prod.mk.injEq]at e
        obtain ⟨_,rfl⟩:=e
        exact symLen_ok ho ha ht hx hu
      · cases h
    · cases h
  · rename_i t x k ok ho
    split at h
    · rename_i hx
      exact symLookup_ok ho hx h hb
    · cases h
  · rename_i b args ts _ ho
    split at h
    · rename_i hx
      rw [Option.map_eq_some_iff]at h
      obtain ⟨u,hu,e⟩:=h
      simp only [Prod.mk.injEq]at e
      obtain ⟨_,rfl⟩:=e
      exact symMost_ok ho hx hu
    · cases h
  · cases h
def headK {β:Type}(v:Value) (k:Value→β):β :=
  match v with
  | .bool b=>k (.bool b)
  | .int q n=>k (.int q n)
  | .float q n=>k (.float q n)
  | .complex q n m=>k (.complex q n m)
  | .string s=>k (.string s)
  | .pointer a=>k (.pointer a)
  | .slice a l c=>k (.slice a l c)
  | .map r=>k (.map r)
  | .chan r=>k (.chan r)
  | .func f a b=>k (.func f a b)
  | .nilFunc=>k .nilFunc
  | .iface t v=>k (.iface t v)
  | .nilIface=>k .nilIface
  | .agg cs=>k (.agg cs)
  | .tuple vs=>k (.tuple vs)
theorem headK_eq {β:Type}(v:Value) (k:Value→β):headK v k=k v:=by cases v<;>rfl
def headsK {β:Type}(l:List Value):(List Value→β)→β :=
  List.rec (motive:=fun _=>(List Value→β)→β) (fun k=>k []) (fun x _ ih k=>headK x fun x=>ih fun r=>k (x::r)) l
theorem headsK_eq {β:Type}:∀(l:List Value) (k:List Value→β),headsK l k=k l
  | [],_=>rfl
  | x::r,k=>by show headK x (fun x=>headsK r fun r=>k (x::r))=_;rw [headK_eq];exact headsK_eq r fun r=>k (x::r)
def setK' {β:Type}(t:List Value) (dst:Option Tmp) (v:Value) (k:List Value→β):β :=
  match dst with
  | some d=>headK v fun v=>lsetK t d v k
  | none=>k t
theorem setK'_eq {β:Type}(t:List Value) (dst:Option Tmp) (v:Value) (k:List Value→β):setK' t dst v k=k (put t dst v):=by
  cases dst with
  | none=>rfl
  | some d=>simp only [setK',put,headK_eq,lsetK_eq]
def heapK {β:Type}(h:Hp) (k:Hp→β):β:=forceS h.bl fun bl=>k { bl:=bl,base:=h.base,wr:=h.wr }
theorem heapK_eq {β:Type}(h:Hp) (k:Hp→β):heapK h k=k h:=by simp only [heapK,forceS_eq]
def litT (t:List Value)(d:Nat)(b:Bool):List Value:=lset t d (.bool b)
theorem lset_lget:∀(t:List Value) (d:Nat) (v:Value),lget t d=v→v≠undef→lset t d v=t
  | [],_,v,h,hn=>rfl
  | x::r,0,v,h,_=>by have:x=v:=h;subst this;rfl
  | x::r,d+1,v,h,hn=>by show x::lset r d v=_;rw [lset_lget r d v h hn]
theorem litT_eq {t:List Value}{d:Nat}{b:Bool}(h:lget t d=.bool b):litT t d b=t:=lset_lget t d _ h (by intro h;cases h)
def litK {β:Type}(t:List Value) (d:Nat) (b:Bool) (k:List Value→β):β:=lsetK t d (.bool b) k
theorem litK_eq {β:Type}{t:List Value}{d:Nat}{b:Bool}(h:lget t d=.bool b) (k:List Value→β):litK t d b k=k t:=by
  rw [litK,lsetK_eq];congr 1;exact litT_eq h
abbrev Kn:=Out→Option Out
abbrev SelfC:=Task→Kn→Option Out
def CpsOk (c:SelfC)(s:Self):Prop:=∀(t:Task) (k:Kn) (r:Out),c t k=some r→∃o,s t=some o∧k o=some r
theorem cond_some {α:Type}{b:Bool}{x:Option α}{r:α}(h:cond b x none=some r):b=true∧x=some r:=by
  cases b with
  | true=>exact ⟨rfl,h⟩
  | false=>cases h
def newC (H:List Ob)(size n:Nat)(x:Value)(k:Array Value→Option Out):Option Out :=
  match x with
  | .slice (some ⟨b,off,none⟩) _ _ =>
    match nthO H b with
    | some (.cells c _)=>cond (decide (off+n*size≤c.size)) (k (c.extract off (off+n*size))) none
    | _=>none
  | .func (.via 0 ⟨[]⟩ 0 true) c ⟨[.slice (some ⟨_,off,none⟩) _ _]⟩=>cond (decide (off+n*size≤c.size)) (k (c.extract off (off+n*size))) none
  | .string s=>k (strBytes (s.extract 0 n))
  | _=>none
theorem newC_ok {H:List Ob}{size n:Nat}{x:Value}{k:Array Value→Option Out}{r:Out}(h:newC H size n x k=some r):∃c,newB H size n x=some c∧k c=some r:=by
  unfold newC at h
  split at h
  · rename_i b off l c
    rw [nthO_eq]at h
    split at h
    · rename_i c ro hb
      obtain ⟨h1,h2⟩:=cond_some h
      exact ⟨_,by simp only [newB,hb];rw [if_pos (of_decide_eq_true h1)],h2⟩
    · cases h
  · obtain ⟨h1,h2⟩:=cond_some h
    exact ⟨_,by simp only [newB];rw [if_pos (of_decide_eq_true h1)],h2⟩
  · exact ⟨_,rfl,h⟩
  · cases h
def natF {β:Type}(n:Nat) (k:Nat→β):β:=Nat.rec (motive:=fun _=>β) (k 0) (fun m _=>k m) (Nat.add n 1)
theorem natF_eq {β:Type}(n:Nat) (k:Nat→β):natF n k=k n:=rfl
def oneAll (c:Array Value):Bool:=c.toList.all (·.oneCell')
def appendC (P:Program)(h:Hp)(ts tx:TypeId)(s x:Value)(k:Value→Hp→Option Out):Option Out :=
  match P.underlying ts,P.underlying tx with
  | some (.slice e),some d =>
    if intB d=true then none else
    match P.info? e,zeroB P e with
    | some inf,some z =>
      natF inf.size fun isz=>natF inf.bytes fun iby =>
      match s,lenB x with
      | .slice base sl sz,some n =>
        natF n fun n =>
        cond (decide (n=0)) (k (.slice base sl sz) h)
        (newC h.bl isz n x fun news =>
          cond (decide (news.size=n*isz)&&(oneAll news&&decide (z.cells.size=isz))) (cond (decide ((sl+n)*iby≤140737488355328)&&decide (sl+n≤4611686018427387904))
            (match base with
            | none=>cond (decide (sl=0)) (k (.slice (some ⟨h.bl.length,0,none⟩) n isz) (h.push (.cells news false))) none
            | some ⟨b,off,none⟩ =>
              match nthO h.bl b with
              | some (.cells c false) =>
                cond (decide (sz=isz)) (cond (decide (off+sl*isz≤c.size))
                  (k (.slice (some ⟨h.bl.length,0,none⟩) (sl+n) isz) ((h.put b .dead).push (.cells (c.extract off (off+sl*isz)++news) false))) none) none
              | _=>none
            | _=>none) none) none)
      | _,_=>none
    | _,_=>none
  | _,_=>none
theorem appendC_ok {P:Program}{h:Hp}{ts tx:TypeId}{s x:Value}{k:Value→Hp→Option Out}{r:Out}(hc:appendC P h ts tx s x k=some r):∃v h',lAppend P h ts tx s x=some (v,h')∧k v h'=some r:=by
  unfold appendC at hc
  simp only [natF_eq]at hc
  unfold lAppend
  split at hc
  · rename_i e d hu1 hu2
    rw [hu1,hu2]
    simp only
    split at hc
    · cases hc
    · rename_i hi
      rw [if_neg hi]
      split at hc
      · rename_i inf z h1 h2
        rw [h1,h2]
        simp only
        split at hc
        · rename_i base sl sz n hn
          rw [hn]
          simp only
          cases h0:decide (n=0) with
          | true =>
            rw [h0]at hc
            rw [if_pos (of_decide_eq_true h0)]
            exact ⟨_,_,rfl,hc⟩
          | false =>
            rw [h0]at hc
            rw [if_neg (of_decide_eq_false h0)]
            rw [cond_false]at hc
            obtain ⟨news,hnew,hc⟩:=newC_ok hc
            rw [hnew]
            simp only
            obtain ⟨hcn1,hc⟩:=cond_some hc
            obtain ⟨hcn2,hc⟩:=cond_some hc
            simp only [Bool.and_eq_true,decide_eq_true_eq]at hcn1 hcn2
            rw [if_pos ⟨hcn2.1,hcn2.2,hcn1⟩]
            split at hc
            · obtain ⟨hs,hc⟩:=cond_some hc
              simp only
              rw [if_pos (of_decide_eq_true hs)]
              exact ⟨_,_,rfl,hc⟩
            · rename_i b off
              rw [nthO_eq]at hc
              split at hc
              · rename_i c hb
                obtain ⟨hs1,hc⟩:=cond_some hc
                obtain ⟨hs2,hc⟩:=cond_some hc
                have hs:=And.intro (of_decide_eq_true hs1) (of_decide_eq_true hs2)
                simp only [hb]
                rw [if_pos ⟨hs,hs.2⟩]
                exact ⟨_,_,rfl,hc⟩
              · cases hc
            · cases hc
        · cases hc
      · cases hc
  · cases hc
def storeC (P:Program)(h:Hp)(t:TypeId)(x v:Value)(k:Hp→Option Out):Option Out :=
  match x with
  | .pointer (some ⟨b,off,none⟩) =>
    match nthO h.bl b,sizeB P t with
    | some (.cells c false),some n =>
      cond (notT v&&(decide (v.cells.size=n)&&(decide (off+n≤c.size)&&v.cells.toList.all (·.oneCell')))) (k (h.put b (.cells (wcells c off v.cells.toList) false))) none
    | _,_=>none
  | _=>none
theorem storeC_ok {P:Program}{h:Hp}{t:TypeId}{x v:Value}{k:Hp→Option Out}{r:Out}(hc:storeC P h t x v k=some r):∃h',lStore P h t x v=some h'∧k h'=some r:=by
  unfold storeC at hc
  split at hc
  · rename_i b off
    rw [nthO_eq]at hc
    split at hc
    · rename_i c n hb hn
      obtain ⟨h1,hc⟩:=cond_some hc
      simp only [Bool.and_eq_true,decide_eq_true_eq]at h1
      exact ⟨_,by simp only [lStore,hb,hn];rw [if_pos ⟨h1.1,h1.2.1,h1.2.2.1,h1.2.2.2⟩],hc⟩
    · cases hc
  · cases hc
def upL (P:Program)(t:TypeId)(k v:Value)(es:List (Value×Value)):Option (List (Value×Value)) :=
  match P.underlying t with
  | some (.map kt _) =>
    if gr k=true∧pureRun P (Instr.checkKey false 10000 kt k)=some ()∧(P.underlying kt).isSome=true then
      match aFind P kt k (es.map (·.1)) 0 with
      | some (some j)=>match es[j]? with
        | some (k0,_)=>match pureRun P (Instr.keyThatStays k0 k) with
          | some k1=>some (es.set j (k1,v))
          | none=>none
        | none=>none
      | some none=>some (es++[(k,v)])
      | none=>none
    else none
  | _=>none
theorem upL_eq {P:Program}{h:Hp}{t:TypeId}{k v:Value}{r:Nat}{es:List (Value×Value)}(hr:h.bl[r]?=some (.map es)):lMapUpdate P h t k v (.map (some r))=(upL P t k v es).map fun e=>h.put r (.map e):=by
  unfold lMapUpdate upL
  simp only [hr]
  cases P.underlying t with
  | none=>rfl
  | some u =>
    cases u with
    | map kt et =>
      simp only
      split
      · split
        · split
          · split<;>simp_all
          · simp_all
        · simp_all
        · simp_all
      · rfl
    | _=>rfl
def upIs (P:Program)(t:TypeId)(k v:Value)(es:List (Value×Value)):Bool:=(upL P t k v es).isSome
def upOf (P:Program)(t:TypeId)(k v:Value)(es:List (Value×Value)):List (Value×Value):=(upL P t k v es).getD []
def updC (P:Program)(h:Hp)(t:TypeId)(k v x:Value)(kk:Hp→Option Out):Option Out :=
  match x with
  | .map (some r) =>
    match nthO h.bl r with
    | some (.map es)=>cond (upIs P t k v es) (kk (h.put r (.map (upOf P t k v es)))) none
    | _=>none
  | _=>none
theorem updC_ok {P:Program}{h:Hp}{t:TypeId}{k v x:Value}{kk:Hp→Option Out}{r:Out}(hc:updC P h t k v x kk=some r):∃h',lMapUpdate P h t k v x=some h'∧kk h'=some r:=by
  unfold updC at hc
  split at hc
  · rename_i b
    split at hc
    · rename_i es hes
      rw [nthO_eq]at hes
      obtain ⟨h1,hc⟩:=cond_some hc
      refine ⟨_,?_,hc⟩
      rw [upL_eq hes]
      unfold upIs at h1
      obtain ⟨e,he⟩:=Option.isSome_iff_exists.1 h1
      simp only [upOf,he,Option.map_some,Option.getD_some]
    · cases hc
  · cases hc
structure Ends where
  val:Value→Hp→Option Out
  enter:FuncId→List Value→Option Out
  yield:Nat→List Value→Option Out
  defer:Deferred→Option Out
  panic:Value→Option Out
def loudC (P:Program) (ρ:Operand→Value)(h:Hp)(o:Oper)(k:Ends):Option Out :=
  match o.op with
  | .store t a x=>if okO a&&okO x then storeC P h t (ρ a) (ρ x) (k.val undef) else none
  | .mapUpdate t m x y=>if okO m&&okO x&&okO y then updC P h t (ρ x) (ρ y) (ρ m) (k.val undef) else none
  | .call { callee:=.builtin .append,args,argTypes } =>
    match args.toList,argTypes.toList with
    | [s,x],[ts,tx]=>if okO s&&okO x then appendC P h ts tx (ρ s) (ρ x) k.val else none
    | _,_=>none
  | .call { callee:=.value f,args,.. } =>
    if okO f&&args.toList.all okO then
      match ρ f with
      | .func (.func g) first cap=>if bodied P g then k.enter g (first.toList++(args.toList.map ρ++cap.toList)) else none
      | .func (.yield l) first _=>if first.isEmpty then k.yield l (args.toList.map ρ) else none
      | _=>none
    else none
  | _ =>
    match aloud P ρ h o with
    | some (.val v h')=>k.val v h'
    | some (.enter f args)=>k.enter f args.toList
    | some (.yield l args)=>k.yield l args.toList
    | some (.defer d)=>k.defer d
    | some (.panic v)=>k.panic v
    | _=>none
def Ends.on (k:Ends):Nx→Option Out
  | .val v h=>k.val v h
  | .enter f args=>k.enter f args.toList
  | .yield l args=>k.yield l args.toList
  | .defer d=>k.defer d
  | .panic v=>k.panic v
  | .recover=>none
theorem loudC_ok {P:Program} {ρ:Operand→Value}{h:Hp}{o:Oper}{k:Ends}{r:Out}(hc:loudC P ρ h o k=some r):∃nx,aloud P ρ h o=some nx∧k.on nx=some r:=by
  unfold loudC at hc
  split at hc
  · rename_i t a x ho
    split at hc
    · rename_i hx
      obtain ⟨h',h1,h2⟩:=storeC_ok hc
      exact ⟨.val undef h',by simp only [aloud,ho,hx,if_true,h1,Option.map_some],h2⟩
    · cases hc
  · rename_i t m x y ho
    split at hc
    · rename_i hx
      obtain ⟨h',h1,h2⟩:=updC_ok hc
      exact ⟨.val undef h',by simp only [aloud,ho,hx,if_true,h1,Option.map_some],h2⟩
    · cases hc
  · rename_i args ts ho
    split at hc
    · rename_i s x t1 t2 e1 e2
      split at hc
      · rename_i hx
        obtain ⟨v,h',h1,h2⟩:=appendC_ok hc
        exact ⟨.val v h',by simp only [aloud,ho,e1,e2,hx,if_true,h1,Option.map_some],h2⟩
      · cases hc
    · cases hc
  · rename_i f args ts ho
    split at hc
    · rename_i hx
      split at hc
      · rename_i g first cap hf
        split at hc
        · rename_i hb
          refine ⟨.enter g (first++args.map ρ++cap),by simp only [aloud,ho,hx,if_true,hf,hb],?_⟩
          simp only [Ends.on,Array.toList_append,Array.toList_map,List.append_assoc]
          exact hc
        · cases hc
      · rename_i l first cap hf
        split at hc
        · rename_i hb
          refine ⟨.yield l (args.map ρ),by simp only [aloud,ho,hx,if_true,hf,hb],?_⟩
          simp only [Ends.on,Array.toList_map]
          exact hc
        · cases hc
      · cases hc
    · cases hc
  · split at hc
    · rename_i h1;exact ⟨_,h1,hc⟩
    · rename_i h1;exact ⟨_,h1,hc⟩
    · rename_i h1;exact ⟨_,h1,hc⟩
    · rename_i h1;exact ⟨_,h1,hc⟩
    · rename_i h1;exact ⟨_,h1,hc⟩
    · cases hc
def Ends.heap (k:Ends):Ends:={ k with val:=fun v h=>heapK h fun h=>k.val v h }
theorem Ends.heap_on {k:Ends}{nx:Nx}:k.heap.on nx=k.on nx:=by
  cases nx<;>simp only [Ends.heap,Ends.on,heapK_eq]
def opC (P:Program) (ρ:Operand→Value)(h:Hp)(o:Oper)(k:Ends):Option Out :=
  match o.op with
  | .pick c a b=>if okO c&&okO a&&okO b then (match ρ c with | .bool t=>cond t (k.val (ρ a) h) (k.val (ρ b) h) | _=>none) else none
  | _ =>
    match symR P ρ h.bl o with
    | some (b,v)=>cond b (k.val v h) none
    | none=>match aread P ρ h.bl o with
      | some v=>k.val v h
      | none=>loudC P ρ h o k.heap
theorem opC_ok {P:Program} {ρ:Operand→Value}{h:Hp}{o:Oper}{k:Ends}{r:Out}(hc:opC P ρ h o k=some r):∃nx,aop P ρ h o=some nx∧k.on nx=some r:=by
  unfold opC at hc
  split at hc
  · rename_i c a b ho
    split at hc
    · rename_i hx
      split at hc
      · rename_i t ht
        cases t with
        | true=>exact ⟨.val (ρ a) h,by simp only [aop,aread,ho,hx,if_true,ht],hc⟩
        | false=>exact ⟨.val (ρ b) h,by simp only [aop,aread,ho,hx,if_true,ht,Bool.false_eq_true,if_false],hc⟩
      · cases hc
    · cases hc
  · split at hc
    · rename_i b v hs
      obtain ⟨h1,h2⟩:=cond_some hc
      exact ⟨.val v h,by simp only [aop,symR_ok hs h1],h2⟩
    · split at hc
      · rename_i v ha
        exact ⟨.val v h,by simp only [aop,ha],hc⟩
      · rename_i ha
        obtain ⟨nx,h1,h2⟩:=loudC_ok hc
        exact ⟨nx,by simp only [aop,ha,h1],by rw [← Ends.heap_on];exact h2⟩
def guardC (os:Array Oper)(o:Oper)(t:List Value)(yes no:List Value→Option Out):Option Out :=
  match o.guard with
  | none=>yes t
  | some (j,want) =>
    match (os[j]?).bind (·.dst) with
    | some d=>match lget t d with
      | .bool b=>(match want with
        | true=>cond b (litK t d true yes) (litK t d false no)
        | false=>cond b (litK t d true no) (litK t d false yes))
      | _=>no t
    | none=>no t
theorem guardC_ok {os:Array Oper}{o:Oper}{t:List Value}{yes no:List Value→Option Out}{r:Out}(h:guardC os o t yes no=some r) :
    (wantedT os t o=true∧yes t=some r)∨(wantedT os t o=false∧no t=some r):=by
  unfold guardC at h
  unfold wantedT
  split at h
  · rename_i hg;rw [hg];exact .inl ⟨rfl,h⟩
  · rename_i j want hg
    rw [hg]
    simp only
    split at h
    · rename_i d hd
      rw [hd]
      simp only
      split at h
      · rename_i b hl
        rw [hl]
        simp only
        cases b with
        | true =>
          cases want with
          | true=>simp only [cond_true]at h;rw [litK_eq hl]at h;exact .inl ⟨rfl,h⟩
          | false=>simp only [cond_true]at h;rw [litK_eq hl]at h;exact .inr ⟨rfl,h⟩
        | false =>
          cases want with
          | true=>simp only [cond_false]at h;rw [litK_eq hl]at h;exact .inr ⟨rfl,h⟩
          | false=>simp only [cond_false]at h;rw [litK_eq hl]at h;exact .inl ⟨rfl,h⟩
      · rename_i hne
        refine .inr ⟨?_,h⟩
        generalize hv:lget t d=v at hne ⊢
        cases v<;>first | rfl | exact (hne _ rfl).elim
    · rename_i hd
      rw [hd]
      exact .inr ⟨rfl,h⟩
section
variable {P:Program}{self:SelfC}{sd:Self}
def runOpsC (P:Program)(self:SelfC)(rd:Option Nat)(os:Array Oper):List Nat→St→(Ex→St→Option Out)→Option Out
  | [],s,k=>k .normal s
  | i::r,s,k =>
    match os[i]? with
    | none=>runOpsC P self rd os r s k
    | some o =>
      guardC os o s.t
        (fun t=>opC P (evalT t) s.h o {
          val:=fun v h=>setK' t o.dst v fun t=>runOpsC P self rd os r { t:=t,d:=s.d,h:=h } k
          enter:=fun f args=>headsK args fun args=>self (.call f ⟨args⟩ s.h) fun
            | .ret v h=>setK' t o.dst v fun t=>runOpsC P self rd os r { t:=t,d:=s.d,h:=h } k
            | .pan v h=>k (.panic v) { t:=t,d:=s.d,h:=h }
            | _=>none
          yield:=fun l args=>headsK args fun args=>self (.round l ⟨args⟩ s.h) fun
            | .ret v h=>setK' t o.dst v fun t=>runOpsC P self rd os r { t:=t,d:=s.d,h:=h } k
            | _=>none
          defer:=fun d=>if rd.isNone then setK' t o.dst undef fun t=>runOpsC P self rd os r { t:=t,d:=d::s.d,h:=s.h } k else none
          panic:=fun v=>k (.panic v) { t:=t,d:=s.d,h:=s.h } })
        (fun t=>setK' t o.dst undef fun t=>runOpsC P self rd os r { t:=t,d:=s.d,h:=s.h } k)
theorem runOpsC_ok (hs:CpsOk self sd) {rd:Option Nat}{os:Array Oper}:∀{l:List Nat}{s:St}{k:Ex→St→Option Out}{r:Out},runOpsC P self rd os l s k=some r →
    ∃e s',runOps P sd rd os l s=some (.ex e s')∧k e s'=some r
  | [],s,k,r,h=>⟨_,_,rfl,h⟩
  | i::l,s,k,r,h=>by
    simp only [runOpsC]at h
    simp only [runOps]
    split at h
    · rename_i hi
      rw [hi]
      exact runOpsC_ok hs h
    · rename_i o hi
      rw [hi]
      simp only [putK_eq,forceH_eq]
      rcases guardC_ok h with ⟨hw,h⟩ | ⟨hw,h⟩
      · rw [if_pos hw]
        obtain ⟨nx,h1,h2⟩:=opC_ok h
        rw [h1]
        cases nx with
        | val v hp =>
          simp only [Ends.on,setK'_eq]at h2
          exact runOpsC_ok hs h2
        | enter f args =>
          simp only [Ends.on,headsK_eq]at h2
          obtain ⟨o',h3,h4⟩:=hs _ _ _ h2
          simp only
          rw [show (⟨args.toList⟩:Array Value)=args from rfl]at h3
          rw [h3]
          cases o' with
          | ret v hp =>
            simp only [setK'_eq]at h4
            exact runOpsC_ok hs h4
          | pan v hp=>exact ⟨_,_,rfl,h4⟩
          | ex _ _=>cases h4
          | dret _ _=>cases h4
        | yield l' args =>
          simp only [Ends.on,headsK_eq]at h2
          obtain ⟨o',h3,h4⟩:=hs _ _ _ h2
          simp only
          rw [show (⟨args.toList⟩:Array Value)=args from rfl]at h3
          rw [h3]
          cases o' with
          | ret v hp =>
            simp only [setK'_eq]at h4
            exact runOpsC_ok hs h4
          | pan v hp=>cases h4
          | ex _ _=>cases h4
          | dret _ _=>cases h4
        | defer d =>
          simp only [Ends.on]at h2
          split at h2
          · rename_i hrd
            simp only
            rw [if_pos hrd]
            simp only [setK'_eq]at h2
            exact runOpsC_ok hs h2
          · cases h2
        | panic v=>exact ⟨_,_,rfl,h2⟩
        | recover=>cases h2
      · rw [if_neg (by rw [hw];intro h;cases h)]
        simp only [setK'_eq]at h
        exact runOpsC_ok hs h
end
def sLoudS (o:Oper):Bool :=
  match o.op with
  | .alloc _ | .box _ _ | .buildSlice _ _ _ | .store _ _ _ | .convert _ _ _ | .makeMap _ _ | .mapUpdate _ _ _ _ | .insert _ _ _ _=>true
  | .call { callee:=.builtin b,.. }=>(match b with | .len | .cap | .max | .min=>false | _=>true)
  | .call _=>true
  | _=>false
def sDstOk1 (os:Array Oper)(clo:List Nat)(i j:Nat):Bool :=
  i == j||match os[i]?,os[j]? with
    | some a,some b=>(match a.dst with
      | some t=>(b.dst != some t)&&(!(looks os b).contains t||cl clo j i||cl clo i j)
      | none=>true)
    | _,_=>true
def sDstOk (os:Array Oper)(clo:List Nat):Bool:=(List.range os.size).all fun i=>(List.range os.size).all fun j=>sDstOk1 os clo i j
def sNeed1 (os:Array Oper)(clo:List Nat)(i j:Nat):Bool :=
  match os[i]?,os[j]? with
  | some a,some b=>sLoudS a&&(sLoudS b||memOp b.op)&&unord clo i j
  | _,_=>false
def sNeed (os:Array Oper)(clo:List Nat):List (Nat×Nat) :=
  (List.range os.size).flatMap fun i=>((List.range os.size).filter fun j=>sNeed1 os clo i j).map fun j=>(i,j)
def sDchkQ (P:Program)(os:Array Oper)(clo:List Nat)(recs:List Rec):Bool :=
  sDstOk os clo&&recs.all (fun r=>!r.loud||sLoudS r.o)&&(sNeed os clo).all fun x=>recs.all fun r=>!(r.i == x.1)||recs.all fun q=>!(q.i == x.2)||pairOk P os clo r q
theorem sDchkQ_ok {P:Program}{os:Array Oper}{clo:List Nat}{recs:List Rec}(ho:∀r∈recs,os[r.i]?=some r.o) (h:sDchkQ P os clo recs=true):dchk P os clo recs=true:=by
  simp only [sDchkQ,Bool.and_eq_true,List.all_eq_true]at h
  obtain ⟨⟨h1,h2⟩,h3⟩:=h
  simp only [dchk,List.all_eq_true]
  intro r hr q hq
  have hri:=ho r hr
  have hqi:=ho q hq
  have hrl:r.i<os.size:=(Array.getElem?_eq_some_iff.1 hri).1
  have hql:q.i<os.size:=(Array.getElem?_eq_some_iff.1 hqi).1
  by_cases hn:sNeed1 os clo r.i q.i=true
  · have hm:(r.i,q.i)∈sNeed os clo:=by
      simp only [sNeed,List.mem_flatMap,List.mem_map,List.mem_filter,List.mem_range]
      exact ⟨r.i,hrl,q.i,⟨hql,hn⟩,rfl⟩
    have:=h3 _ hm r hr
    simp only [beq_self_eq_true,Bool.not_true,Bool.false_or,List.all_eq_true]at this
    have:=this q hq
    simpa using this
  · have hd:sDstOk1 os clo r.i q.i=true:=by
      simp only [sDstOk,List.all_eq_true,List.mem_range]at h1
      exact h1 r.i hrl q.i hql
    simp only [sDstOk1,hri,hqi]at hd
    simp only [sNeed1,hri,hqi]at hn
    unfold pairOk
    cases he:r.i == q.i with
    | true=>rfl
    | false =>
      rw [he,Bool.false_or]at hd
      rw [Bool.false_or,Bool.and_eq_true]
      refine ⟨hd,?_⟩
      have hl1:=h2 r hr
      have hl2:=h2 q hq
      cases hrL:r.loud with
      | false=>rfl
      | true =>
        simp only [hrL,Bool.not_true,Bool.false_or]at hl1
        simp only [hl1,Bool.true_and]at hn
        cases hu:unord clo r.i q.i with
        | false=>simp
        | true =>
          simp only [hu,Bool.and_true,Bool.or_eq_true,not_or,Bool.not_eq_true]at hn
          cases hqL:q.loud with
          | true=>simp only [hqL,hn.1,Bool.not_true,Bool.or_false]at hl2;cases hl2
          | false=>simp [hn.2]
def veq0C (x y:Value)(k:Option Out):Option Out :=
  match x,y with
  | .bool a,.bool b=>cond (a == b) k none
  | .int p a,.int q b=>if p=q then cond (decide (a=b)) k none else none
  | .string a,.string b=>cond (decide (a=b)) k none
  | .pointer none,.pointer none=>k
  | .pointer (some a),.pointer (some b)=>cond (decide (a=b)) k none
  | .slice none l c,.slice none l' c'=>cond (decide (l=l')&&decide (c=c')) k none
  | .slice (some a) l c,.slice (some b) l' c'=>cond (decide (a=b)&&(decide (l=l')&&decide (c=c'))) k none
  | .map a,.map b=>cond (decide (a=b)) k none
  | .nilIface,.nilIface=>k
  | .nilFunc,.nilFunc=>k
  | .func (.via 0 ⟨[]⟩ 0 true) x ⟨[.slice (some ⟨p,o,none⟩) l c]⟩,.func (.via 0 ⟨[]⟩ 0 true) y ⟨[.slice (some ⟨p',o',none⟩) l' c']⟩=>cond (arrEq x y&&(decide (p=p')&&(decide (o=o')&&(decide (l=l')&&decide (c=c'))))) k none
  | .func (.via 0 ⟨[]⟩ 0 false) x ⟨[.pointer (some ⟨p,o,none⟩)]⟩,.func (.via 0 ⟨[]⟩ 0 false) y ⟨[.pointer (some ⟨p',o',none⟩)]⟩=>cond (arrEq x y&&(decide (p=p')&&decide (o=o'))) k none
  | _,_=>none
theorem veq0C_ok {x y:Value}{k:Option Out}{r:Out}(h:veq0C x y k=some r):veq0 x y=true∧k=some r:=by
  unfold veq0C at h
  split at h
  · obtain ⟨h1,h2⟩:=cond_some h;exact ⟨by simpa [veq0] using h1,h2⟩
  · split at h
    · rename_i hk;obtain ⟨h1,h2⟩:=cond_some h;exact ⟨by simpa [veq0,hk] using h1,h2⟩
    · cases h
  · obtain ⟨h1,h2⟩:=cond_some h;exact ⟨by simpa [veq0] using h1,h2⟩
  · exact ⟨rfl,h⟩
  · obtain ⟨h1,h2⟩:=cond_some h;exact ⟨by simpa [veq0] using h1,h2⟩
  · obtain ⟨h1,h2⟩:=cond_some h;exact ⟨by simpa [veq0] using h1,h2⟩
  · obtain ⟨h1,h2⟩:=cond_some h
    simp only [Bool.and_eq_true,decide_eq_true_eq]at h1
    exact ⟨by simp [veq0,h1],h2⟩
  · obtain ⟨h1,h2⟩:=cond_some h;exact ⟨by simpa [veq0] using h1,h2⟩
  · exact ⟨rfl,h⟩
  · exact ⟨rfl,h⟩
  · obtain ⟨h1,h2⟩:=cond_some h;exact ⟨h1,h2⟩
  · obtain ⟨h1,h2⟩:=cond_some h;exact ⟨h1,h2⟩
  · cases h
def veqLC:List Value→List Value→Option Out→Option Out
  | [],[],k=>k
  | a::r,b::s,k=>veq0C a b (veqLC r s k)
  | _,_,_=>none
theorem veqLC_ok:∀{a b:List Value}{k:Option Out}{r:Out},veqLC a b k=some r→veqL a b=true∧k=some r
  | [],[],_,_,h=>⟨rfl,h⟩
  | [],_::_,_,_,h=>by cases h
  | _::_,[],_,_,h=>by cases h
  | a::l,b::m,k,r,h=>by
    obtain ⟨h1,h2⟩:=veq0C_ok (show veq0C a b (veqLC l m k)=some r from h)
    obtain ⟨h3,h4⟩:=veqLC_ok h2
    exact ⟨by simp [veqL,h1,h3],h4⟩
def veqC (x y:Value)(k:Option Out):Option Out :=
  match x,y with
  | .agg a,.agg b=>veqLC a.toList b.toList k
  | .func (.func f) a b,.func (.func g) c d=>if f=g then veqLC a.toList c.toList (veqLC b.toList d.toList k) else none
  | a,b=>veq0C a b k
theorem veqC_ok {x y:Value}{k:Option Out}{r:Out}(h:veqC x y k=some r):veq x y=true∧k=some r:=by
  unfold veqC at h
  split at h
  · exact veqLC_ok h
  · split at h
    · rename_i hf
      obtain ⟨h1,h2⟩:=veqLC_ok h
      obtain ⟨h3,h4⟩:=veqLC_ok h2
      exact ⟨by simp [veq,hf,h1,h3],h4⟩
    · cases h
  · rename_i h1 h2
    obtain ⟨h3,h4⟩:=veq0C_ok h
    refine ⟨?_,h4⟩
    unfold veq
    split
    · exact (h1 _ _ rfl rfl).elim
    · exact (h2 _ _ _ _ _ _ rfl rfl).elim
    · exact h3
def sameC (P:Program)(T:List Value)(H:List Ob)(o:Oper)(v:Value)(k:Option Out):Option Out :=
  match symR P (evalT T) H o with
  | some (b,v')=>cond b (veqC v' v k) none
  | none=>match aread P (evalT T) H o with
    | some v'=>veqC v' v k
    | none=>none
theorem sameC_ok {P:Program}{T:List Value}{H:List Ob}{o:Oper}{v:Value}{k:Option Out}{r:Out}(h:sameC P T H o v k=some r):same (aread P (evalT T) H o) v=true∧k=some r:=by
  unfold sameC at h
  split at h
  · rename_i b v' hs
    obtain ⟨h1,h2⟩:=cond_some h
    obtain ⟨h3,h4⟩:=veqC_ok h2
    rw [symR_ok hs h1]
    exact ⟨h3,h4⟩
  · split at h
    · rename_i v' ha
      rw [ha]
      exact veqC_ok h
    · cases h
def dstP (os:Array Oper)(clo:List Nat)(r q:Rec):Bool :=
  match r.o.dst with
  | some t=>(q.o.dst != some t)&&(!(looks os q.o).contains t||cl clo q.i r.i||cl clo r.i q.i)
  | none=>true
def pairC (P:Program)(os:Array Oper)(clo:List Nat)(r q:Rec)(k:Option Out):Option Out :=
  if r.i == q.i then k else
  if dstP os clo r q then
    if r.loud&&unord clo r.i q.i then
      if q.loud then none
      else if memOp q.o.op&&wantedT os q.T q.o then sameC P q.T r.hb.bl q.o q.v (sameC P q.T r.ha.bl q.o q.v k)
      else k
    else k
  else none
theorem pairC_ok {P:Program}{os:Array Oper}{clo:List Nat}{r q:Rec}{k:Option Out}{x:Out}(h:pairC P os clo r q k=some x):pairOk P os clo r q=true∧k=some x:=by
  unfold pairC at h
  show (r.i == q.i||(dstP os clo r q&&(!r.loud||(!q.loud||!unord clo r.i q.i)&&(q.loud||!memOp q.o.op||!unord clo r.i q.i||!wantedT os q.T q.o ||
    (same (aread P (evalT q.T) r.hb.bl q.o) q.v&&same (aread P (evalT q.T) r.ha.bl q.o) q.v)))))=true∧_
  generalize he:(r.i == q.i)=e at h ⊢
  generalize hd:dstP os clo r q=d at h ⊢
  generalize hl:r.loud=l at h ⊢
  generalize hu:unord clo r.i q.i=u at h ⊢
  generalize hq:q.loud=ql at h ⊢
  generalize hm:memOp q.o.op=m at h ⊢
  generalize hw:wantedT os q.T q.o=wt at h ⊢
  cases e<;>cases d<;>cases l<;>cases u<;>cases ql<;>cases m<;>cases wt<;>first
    | (cases h;done)
    | exact ⟨rfl,h⟩
    | (obtain ⟨h6,h7⟩:=sameC_ok h
       obtain ⟨h8,h9⟩:=sameC_ok h7
       exact ⟨by rw [h6,h8];rfl,h9⟩)
def pairsC (P:Program)(os:Array Oper)(clo:List Nat)(r:Rec)(j:Nat):List Rec→Option Out→Option Out
  | [],k=>k
  | q::l,k=>if q.i == j then pairC P os clo r q (pairsC P os clo r j l k) else pairsC P os clo r j l k
theorem pairsC_ok {P:Program}{os:Array Oper}{clo:List Nat}{r:Rec}{j:Nat}:∀{l:List Rec}{k:Option Out}{x:Out},pairsC P os clo r j l k=some x →
    (∀q∈l,q.i == j→pairOk P os clo r q=true)∧k=some x
  | [],_,_,h=>⟨fun _ hq=>by simp at hq,h⟩
  | q::l,k,x,h=>by
    simp only [pairsC]at h
    split at h
    · rename_i hq
      obtain ⟨h1,h2⟩:=pairC_ok h
      obtain ⟨h3,h4⟩:=pairsC_ok h2
      refine ⟨fun q' hm he=>?_,h4⟩
      rcases List.mem_cons.1 hm with rfl | hm
      · exact h1
      · exact h3 q' hm he
    · rename_i hq
      obtain ⟨h3,h4⟩:=pairsC_ok h
      refine ⟨fun q' hm he=>?_,h4⟩
      rcases List.mem_cons.1 hm with rfl | hm
      · exact (hq he).elim
      · exact h3 q' hm he
def rowsC (P:Program)(os:Array Oper)(clo:List Nat)(all:List Rec)(i j:Nat):List Rec→Option Out→Option Out
  | [],k=>k
  | r::l,k=>if r.i == i then pairsC P os clo r j all (rowsC P os clo all i j l k) else rowsC P os clo all i j l k
theorem rowsC_ok {P:Program}{os:Array Oper}{clo:List Nat}{all:List Rec}{i j:Nat}:∀{l:List Rec}{k:Option Out}{x:Out},rowsC P os clo all i j l k=some x →
    (∀r∈l,r.i == i→∀q∈all,q.i == j→pairOk P os clo r q=true)∧k=some x
  | [],_,_,h=>⟨fun _ hq=>by simp at hq,h⟩
  | q::l,k,x,h=>by
    simp only [rowsC]at h
    split at h
    · rename_i hq
      obtain ⟨h1,h2⟩:=pairsC_ok h
      obtain ⟨h3,h4⟩:=rowsC_ok h2
      refine ⟨fun q' hm he=>?_,h4⟩
      rcases List.mem_cons.1 hm with rfl | hm
      · exact h1
      · exact h3 q' hm he
    · rename_i hq
      obtain ⟨h3,h4⟩:=rowsC_ok h
      refine ⟨fun q' hm he=>?_,h4⟩
      rcases List.mem_cons.1 hm with rfl | hm
      · exact (hq he).elim
      · exact h3 q' hm he
def needC (P:Program)(os:Array Oper)(clo:List Nat)(recs:List Rec):List (Nat×Nat)→Option Out→Option Out
  | [],k=>k
  | (i,j)::l,k=>rowsC P os clo recs i j recs (needC P os clo recs l k)
theorem needC_ok {P:Program}{os:Array Oper}{clo:List Nat}{recs:List Rec}:∀{l:List (Nat×Nat)}{k:Option Out}{x:Out},needC P os clo recs l k=some x →
    (∀p∈l,∀r∈recs,r.i == p.1→∀q∈recs,q.i == p.2→pairOk P os clo r q=true)∧k=some x
  | [],_,_,h=>⟨fun _ hq=>by simp at hq,h⟩
  | (i,j)::l,k,x,h=>by
    obtain ⟨h1,h2⟩:=rowsC_ok (show rowsC P os clo recs i j recs (needC P os clo recs l k)=some x from h)
    obtain ⟨h3,h4⟩:=needC_ok h2
    refine ⟨fun p hm=>?_,h4⟩
    rcases List.mem_cons.1 hm with rfl | hm
    · exact h1
    · exact h3 p hm
def chkC (P:Program)(os:Array Oper)(clo:List Nat)(recs:List Rec)(k:Option Out):Option Out :=
  if sDstOk os clo&&recs.all (fun r=>!r.loud||sLoudS r.o) then needC P os clo recs (sNeed os clo) k else none
theorem chkC_ok {P:Program}{os:Array Oper}{clo:List Nat}{recs:List Rec}{k:Option Out}{x:Out}(ho:∀r∈recs,os[r.i]?=some r.o) (h:chkC P os clo recs k=some x):dchk P os clo recs=true∧k=some x:=by
  unfold chkC at h
  split at h
  · rename_i h1
    rw [Bool.and_eq_true]at h1
    obtain ⟨h2,h3⟩:=needC_ok h
    refine ⟨sDchkQ_ok ho ?_,h3⟩
    unfold sDchkQ
    rw [h1.1,h1.2]
    simp only [Bool.true_and,List.all_eq_true]
    intro p hp r hr
    cases e1:r.i == p.1 with
    | false=>rfl
    | true =>
      simp only [Bool.not_true,Bool.false_or,List.all_eq_true]
      intro q hq
      cases e2:q.i == p.2 with
      | false=>rfl
      | true=>simp only [Bool.not_true,Bool.false_or];exact h2 p hp r hr e1 q hq e2
  · cases h
section
variable {P:Program}{self:SelfC}{sd:Self}
def opD (P:Program)(self:SelfC)(T:List Value)(h:Hp)(o:Oper)(k:Value→Hp→Bool→Option Out):Option Out :=
  match o.op with
  | .pick c a b=>if okO c&&okO a&&okO b then (match evalT T c with | .bool t=>cond t (k (evalT T a) h false) (k (evalT T b) h false) | _=>none) else none
  | _ =>
    match symR P (evalT T) h.bl o with
    | some (b,v)=>cond b (k v h false) none
    | none=>match aread P (evalT T) h.bl o with
      | some v=>k v h false
      | none=>loudC P (evalT T) h o {
        val:=fun v h'=>heapK h' fun h'=>k v h' true
        enter:=fun f args=>headsK args fun args=>self (.call f ⟨args⟩ h) fun | .ret v h'=>k v h' true | _=>none
        yield:=fun l args=>headsK args fun args=>self (.round l ⟨args⟩ h) fun | .ret v h'=>k v h' true | _=>none
        defer:=fun _=>none
        panic:=fun _=>none }
theorem opD_ok (hs:CpsOk self sd) {T:List Value}{h:Hp}{o:Oper}{k:Value→Hp→Bool→Option Out}{r:Out}(hc:opD P self T h o k=some r) :
    (∃v,aread P (evalT T) h.bl o=some v∧k v h false=some r)∨(aread P (evalT T) h.bl o=none∧∃v h',dloud P sd (evalT T) h o=some (v,h')∧k v h' true=some r):=by
  unfold opD at hc
  split at hc
  · rename_i c a b ho
    split at hc
    · rename_i hx
      split at hc
      · rename_i t ht
        cases t with
        | true=>exact .inl ⟨evalT T a,by simp only [aread,ho,hx,if_true,ht],hc⟩
        | false=>exact .inl ⟨evalT T b,by simp only [aread,ho,hx,if_true,ht,Bool.false_eq_true,if_false],hc⟩
      · cases hc
    · cases hc
  · split at hc
    · rename_i b v hsy
      obtain ⟨h1,h2⟩:=cond_some hc
      exact .inl ⟨v,symR_ok hsy h1,h2⟩
    · split at hc
      · rename_i v ha;exact .inl ⟨v,ha,hc⟩
      · rename_i ha
        refine .inr ⟨ha,?_⟩
        obtain ⟨nx,h1,h2⟩:=loudC_ok hc
        unfold dloud
        rw [h1]
        cases nx with
        | val v hp=>simp only [Ends.on,heapK_eq]at h2;exact ⟨_,_,rfl,h2⟩
        | enter f args =>
          simp only [Ends.on,headsK_eq]at h2
          obtain ⟨o',h3,h4⟩:=hs _ _ _ h2
          rw [show (⟨args.toList⟩:Array Value)=args from rfl]at h3
          simp only [h3]
          cases o' with
          | ret v hp=>exact ⟨_,_,rfl,h4⟩
          | _=>cases h4
        | yield l' args =>
          simp only [Ends.on,headsK_eq]at h2
          obtain ⟨o',h3,h4⟩:=hs _ _ _ h2
          rw [show (⟨args.toList⟩:Array Value)=args from rfl]at h3
          simp only [h3]
          cases o' with
          | ret v hp=>exact ⟨_,_,rfl,h4⟩
          | _=>cases h4
        | defer d=>cases h2
        | panic v=>cases h2
        | recover=>cases h2
def drunC (P:Program)(self:SelfC)(os:Array Oper):List Nat→List Value→Hp→(List Rec→List Value→Hp→Option Out)→Option Out
  | [],T,h,k=>k [] T h
  | i::r,T,h,k =>
    match os[i]? with
    | none=>none
    | some o =>
      guardC os o T
        (fun T=>opD P self T h o fun v h' loud=>headK v fun v=>setK' T o.dst v fun T'=>drunC P self os r T' h' fun l T2 h2=>k (⟨i,o,T,v,h,h',loud⟩::l) T2 h2)
        (fun T=>setK' T o.dst undef fun T'=>drunC P self os r T' h fun l T2 h2=>k (⟨i,o,T,undef,h,h,false⟩::l) T2 h2)
theorem drunC_ok (hs:CpsOk self sd) {os:Array Oper}:∀{l:List Nat}{T:List Value}{h:Hp}{k:List Rec→List Value→Hp→Option Out}{r:Out},drunC P self os l T h k=some r →
    ∃recs T' h',drun P sd os l T h=some (recs,T',h')∧k recs T' h'=some r
  | [],T,h,k,r,hc=>⟨_,_,_,rfl,hc⟩
  | i::l,T,h,k,r,hc=>by
    simp only [drunC]at hc
    simp only [drun]
    split at hc
    · cases hc
    · rename_i o hi
      rw [hi]
      simp only [forceV_eq,putK_eq,forceH_eq]
      rcases guardC_ok hc with ⟨hw,hc⟩ | ⟨hw,hc⟩
      · rw [if_pos hw]
        rcases opD_ok hs hc with ⟨v,ha,hc⟩ | ⟨ha,v,h',hd,hc⟩
        · rw [ha]
          simp only [headK_eq,setK'_eq]at hc
          obtain ⟨recs,T',h',h1,h2⟩:=drunC_ok hs hc
          simp only
          rw [h1]
          exact ⟨_,_,_,rfl,h2⟩
        · rw [ha]
          simp only [headK_eq,setK'_eq]at hc
          obtain ⟨recs,T',h'',h1,h2⟩:=drunC_ok hs hc
          simp only
          rw [hd]
          simp only
          rw [h1]
          exact ⟨_,_,_,rfl,h2⟩
      · rw [if_neg (by rw [hw];intro h;cases h)]
        simp only [setK'_eq]at hc
        obtain ⟨recs,T',h'',h1,h2⟩:=drunC_ok hs hc
        rw [h1]
        exact ⟨_,_,_,rfl,h2⟩
def drawnC (P:Program)(self:SelfC)(os:Array Oper)(s:St)(k:Ex→St→Option Out):Option Out :=
  if planOk os (Region.linearise .any os 0) (mkClo os (Region.linearise .any os 0) (List.replicate os.size 0)) then
    drunC P self os (Region.linearise .any os 0) s.t s.h fun recs T h =>
      chkC P os (mkClo os (Region.linearise .any os 0) (List.replicate os.size 0)) recs (k .normal { t:=T,d:=s.d,h:=h })
  else none
theorem drawnC_ok (hs:CpsOk self sd) {rd:Option Nat}{id:Nat}{os:Array Oper}{s:St}{k:Ex→St→Option Out}{r:Out}(hc:drawnC P self os s k=some r) :
    ∃e s',drawn P sd rd id os s=some (.ex e s')∧k e s'=some r:=by
  unfold drawnC at hc
  unfold drawn
  split at hc
  · rename_i hp
    rw [if_pos hp]
    obtain ⟨recs,T,h,h1,h2⟩:=drunC_ok hs hc
    rw [h1]
    obtain ⟨h3,h4⟩:=chkC_ok (fun r hm=>((drun_tr _ _ _ _ _ _ h1).1.recs r hm).1) h2
    simp only
    rw [if_pos h3]
    exact ⟨_,_,rfl,h4⟩
  · cases hc
end
def iterO (orc:Self)(drawn:Program→Self→Option Nat→Nat→Array Oper→St→Option Out)(P:Program):Nat→Self
  | 0=>orc
  | n+1=>fun t=>match orc t with
    | some o=>some o
    | none=>stepF drawn P (iterO orc drawn P n) t
theorem iterO_ok {P:Program}{orc:Self}{drawn:Program→Self→Option Nat→Nat→Array Oper→St→Option Out}(hN:NoNG P) (hdr:DrawnOk P drawn) (ho:SelfOk P orc) (hl:LoopOk P orc) :
    ∀n,SelfOk P (iterO orc drawn P n)∧LoopOk P (iterO orc drawn P n)
  | 0=>⟨ho,hl⟩
  | n+1=>by
    obtain ⟨h1,h2⟩:=iterO_ok hN hdr ho hl n
    constructor
    · intro t o h
      simp only [iterO]at h
      split at h
      · rename_i o' ho'
        cases h
        exact ho _ _ ho'
      · exact step_ok hN hdr h1 h2 t o h
    · intro rd c s e s' hc hb
      simp only [iterO]at hc
      split at hc
      · rename_i o' ho'
        cases hc
        exact hl _ _ _ _ _ ho' hb
      · obtain ⟨e1,s1,he,hh⟩:=loop_sound (drawn:=drawn) h1 h2 hc
        cases he
        exact (hh hb).2
def resC (P:Program)(H:List Ob)(t:List Value):List ResultVar→(List Value→Option Out)→Option Out
  | [],k=>k []
  | .tmp x::r,k=>headK (lget t x) fun v=>resC P H t r fun vs=>k (v::vs)
  | .cell a ty::r,k =>
    match symLoad P H ty (lget t a) with
    | some (b,v)=>cond b (headK v fun v=>resC P H t r fun vs=>k (v::vs)) none
    | none=>none
theorem resC_ok {P:Program}{H:List Ob}{t:List Value}:∀{rs:List ResultVar}{k:List Value→Option Out}{r:Out},resC P H t rs k=some r→∃vs,resL P H t.toArray rs=some vs∧k vs=some r
  | [],k,r,h=>⟨_,rfl,h⟩
  | .tmp x::l,k,r,h=>by
    simp only [resC,headK_eq]at h
    obtain ⟨vs,h1,h2⟩:=resC_ok h
    exact ⟨_,by simp only [resL,h1,Option.map_some,← lget_eq],h2⟩
  | .cell a ty::l,k,r,h=>by
    simp only [resC]at h
    split at h
    · rename_i b v hs
      obtain ⟨h1,h⟩:=cond_some h
      rw [headK_eq]at h
      obtain ⟨vs,h2,h3⟩:=resC_ok h
      exact ⟨_,by simp only [resL,← lget_eq,symLoad_ok hs h1,h2],h3⟩
    · cases h
def one (vs:List Value):Value:=match vs with | [v]=>v | vs=>.tuple ⟨vs⟩
def mapSc (n:Nat)(es:List (Value×Value)):Bool:=es.all fun e=>sc1 n e.2
def wrMK (bl:List Ob)(n:Nat):List Nat→Option Out→Option Out
  | [],y=>y
  | b::r,y =>
    match nthO bl b with
    | some (.map es)=>cond (mapSc n es) (wrMK bl n r y) none
    | some o=>if obSc n o then wrMK bl n r y else none
    | none=>none
theorem wrMK_ok {bl:List Ob}{n:Nat}{x:Out}:∀{l:List Nat}{y:Option Out},wrMK bl n l y=some x→(l.all fun b=>(bl[b]?).all (obSc n))=true∧y=some x
  | [],_,h=>⟨rfl,h⟩
  | b::r,y,h=>by
    simp only [wrMK]at h
    rw [nthO_eq]at h
    split at h
    · rename_i es he
      obtain ⟨h1,h2⟩:=cond_some h
      obtain ⟨h3,h4⟩:=wrMK_ok h2
      refine ⟨?_,h4⟩
      rw [List.all_cons,he,h3,Bool.and_true]
      exact h1
    · rename_i o _ ho
      split at h
      · rename_i h1
        obtain ⟨h3,h4⟩:=wrMK_ok h
        refine ⟨?_,h4⟩
        rw [List.all_cons,ho,h3,Bool.and_true]
        exact h1
      · cases h
    · cases h
def anyMap (bl:List Ob)(l:List Nat):Bool:=l.any fun b=>match nthO bl b with
  | some (.map _)=>true
  | _=>false
def exitK (h hf:Hp)(v:Value)(k:Hp→Option Out):Option Out :=
  if scT h.bl.length v&&hf.wr.isEmpty then k h
  else if anyMap hf.bl hf.wr then
    (if scT h.bl.length v then wrMK hf.bl h.bl.length hf.wr (heapK { bl:=hf.bl.take h.bl.length,base:=h.base,wr:=hf.wr.filter (fun b=>decide (b<h.base))++h.wr } k) else none)
  else heapK (exitH h hf v) k
theorem exitK_ok {h hf:Hp}{v:Value}{k:Hp→Option Out}{r:Out}(hx:exitK h hf v k=some r):k (exitH h hf v)=some r:=by
  unfold exitK at hx
  split at hx
  · rename_i hh;unfold exitH;rw [if_pos hh];exact hx
  · rename_i hh
    split at hx
    · split at hx
      · rename_i hv
        obtain ⟨h1,h2⟩:=wrMK_ok hx
        rw [heapK_eq]at h2
        unfold exitH
        rw [if_neg hh,if_pos (by rw [hv,h1];rfl)]
        exact h2
      · cases hx
    · rw [heapK_eq]at hx;exact hx
def leaveC (P:Program)(self:SelfC)(fn:Func)(t:List Value)(h:Hp):List Deferred→Mo→Hp→Kn→Option Out
  | [],.returning,hf,k=>resC P hf.bl t fn.results.toList fun vs=>headK (one vs) fun v=>exitK h hf v fun h=>k (.ret v h)
  | [],.panicking v false,hf,k=>headK v fun v=>exitK h hf v fun h=>k (.pan v h)
  | [],.panicking _ true,_,_=>none
  | d::ds,m,hf,k =>
    match d.target with
    | .collected r =>
      match nthO hf.bl r with
      | some (.dfr false)=>heapK (hf.put r (.dfr true)) fun hf=>leaveC P self fn t h ds m hf k
      | _=>none
    | .fn (.func g) cap =>
      if bodied P g then
        self (.dcall g (d.args++cap) m hf) fun
          | .dret m' h'=>leaveC P self fn t h ds (settleM m') h' k
          | _=>none
      else none
    | _=>none
theorem resB_one {P:Program}{H:List Ob}{fn:Func}{t:Array Value}{vs:List Value}(h:resL P H t fn.results.toList=some vs):resB P H fn t=some (one vs):=by
  unfold resB
  rw [h]
  cases vs with
  | nil=>rfl
  | cons v r=>cases r with
    | nil=>rfl
    | cons _ _=>rfl
section
variable {P:Program}{self:SelfC}{sd:Self}
theorem leaveC_ok (hs:CpsOk self sd) {fn:Func}{t:List Value}{h:Hp}:∀{ds:List Deferred}{m:Mo}{hf:Hp}{k:Kn}{r:Out},leaveC P self fn t h ds m hf k=some r →
    ∃o,leave P sd fn t h ds m hf=some o∧k o=some r
  | [],.returning,hf,k,r,hc=>by
    simp only [leaveC]at hc
    obtain ⟨vs,h1,h2⟩:=resC_ok hc
    rw [headK_eq]at h2
    exact ⟨_,by simp only [leave,resB_one h1,Option.map_some],exitK_ok h2⟩
  | [],.panicking v false,hf,k,r,hc=>by
    simp only [leaveC]at hc
    rw [headK_eq]at hc
    exact ⟨_,rfl,exitK_ok hc⟩
  | [],.panicking v true,hf,k,r,hc=>by cases hc
  | d::ds,m,hf,k,r,hc=>by
    simp only [leaveC]at hc
    simp only [leave]
    split at hc
    · rename_i x hx
      rw [hx]
      rw [nthO_eq]at hc
      simp only
      split at hc
      · rename_i hb
        rw [hb]
        rw [heapK_eq]at hc
        exact leaveC_ok hs hc
      · cases hc
    · rename_i g cap hx
      rw [hx]
      simp only
      split at hc
      · rename_i hb
        rw [if_pos hb]
        obtain ⟨o,h1,h2⟩:=hs _ _ _ hc
        rw [h1]
        cases o with
        | dret m' h'=>exact leaveC_ok hs h2
        | _=>cases h2
      · cases hc
    · cases hc
def endLoopC (self:SelfC)(rd:Option Nat)(L:Nat)(d:List Deferred)(t:List Value)(k:Kn):Kn
  | .ret _ h =>
    match nthO h.bl L with
    | some (.loop st pend t' ps a b D) =>
      match st with
      | .busy=>none
      | _ =>
      match pend with
      | none=>heapK (h.put L (.loop .exhausted none t' ps a b D)) fun h=>k (.ex .normal { t:=t,d:=d,h:=h })
      | some c=>heapK (h.put L (.loop .exhausted (some c) t' ps a b D)) fun h=>self (.code rd c { t:=t,d:=d,h:=h }) fun
        | .ex e s=>k (.ex e s)
        | _=>none
    | _=>none
  | _=>none
theorem endLoopC_ok (hs:CpsOk self sd) {rd:Option Nat}{L:Nat}{d:List Deferred}{t:List Value}{k:Kn}{o r:Out}(hc:endLoopC self rd L d t k o=some r):∃o',endLoop sd rd L d t (some o)=some o'∧k o'=some r:=by
  cases o with
  | ret v h =>
    simp only [endLoopC]at hc
    rw [nthO_eq]at hc
    simp only [endLoop]
    split at hc
    · rename_i st pend t' ps a b D hb
      rw [hb]
      simp only
      split at hc
      · cases hc
      · rename_i hst
        rw [if_neg hst]
        split at hc
        · rw [heapK_eq]at hc
          exact ⟨_,rfl,hc⟩
        · rw [heapK_eq]at hc
          obtain ⟨o',h1,h2⟩:=hs _ _ _ hc
          simp only
          rw [h1]
          cases o' with
          | ex e s=>exact ⟨_,rfl,h2⟩
          | _=>cases h2
    · cases hc
  | _=>cases hc
def pushK {β:Type}(h:Hp) (ob:Ob) (k:Hp→β):β:=heapK (h.push ob) k
theorem pushK_eq {β:Type}(h:Hp) (ob:Ob) (k:Hp→β):pushK h ob k=k (h.push ob):=heapK_eq _ _
def stepC (P:Program)(self:SelfC):SelfC
  | .code rd c s,k =>
    match c with
    | .skip | .label _=>k (.ex .normal s)
    | .exit id=>k (.ex (.exit id) s)
    | .goto l=>k (.ex (.goto l) s)
    | .ret=>k (.ex .ret s)
    | .seq a b=>self (.code rd a s) fun
      | .ex .normal s'=>self (.code rd b s') fun
        | .ex e s2=>k (.ex e s2)
        | _=>none
      | .ex e s'=>k (.ex e s')
      | _=>none
    | .cond c x y =>
      if okO c then match c with
        | .tmp d=>(match lget s.t d with
          | .bool b=>cond b (litK s.t d true fun t=>self (.code rd x { t:=t,d:=s.d,h:=s.h }) fun | .ex e s'=>k (.ex e s') | _=>none)
              (litK s.t d false fun t=>self (.code rd y { t:=t,d:=s.d,h:=s.h }) fun | .ex e s'=>k (.ex e s') | _=>none)
          | _=>none)
        | _=>(match evalT s.t c with
          | .bool b=>cond b (self (.code rd x s) fun | .ex e s'=>k (.ex e s') | _=>none) (self (.code rd y s) fun | .ex e s'=>k (.ex e s') | _=>none)
          | _=>none)
      else none
    | .block id c=>self (.code rd c s) fun
      | .ex (.exit id') s'=>if id'=id then k (.ex .normal s') else k (.ex (.exit id') s')
      | .ex e s'=>k (.ex e s')
      | _=>none
    | .loop c=>self (.code rd c s) fun
      | .ex .normal s'=>self (.code rd (.loop c) s') fun | .ex e s2=>k (.ex e s2) | _=>none
      | .ex e s'=>k (.ex e s')
      | _=>none
    | .region _ os dr=>(match dr with
      | true=>drawnC P self os s fun e s'=>k (.ex e s')
      | false=>runOpsC P self rd os (List.range os.size) s fun e s'=>k (.ex e s'))
    | .rangeFunc g ps assign body =>
      if okO g then match evalT s.t g with
        | .func (.func f) first cap =>
          if bodied P f then
            match rd with
            | none=>pushK s.h (.dfr false) fun h1=>pushK h1 (loopNew s ps assign body s.h.bl.length) fun h2 =>
              headsK (first.toList++(.func (.yield (s.h.bl.length+1)) #[] #[]::cap.toList)) fun args =>
              self (.call f ⟨args⟩ h2) (endLoopC self none (s.h.bl.length+1) ({ target:=.collected s.h.bl.length,args:=#[] }::s.d) s.t k)
            | some l0=>match nthO s.h.bl l0 with
              | some (.loop _ _ _ _ _ _ D)=>pushK s.h (loopNew s ps assign body D) fun h2 =>
                headsK (first.toList++(.func (.yield s.h.bl.length) #[] #[]::cap.toList)) fun args =>
                self (.call f ⟨args⟩ h2) (endLoopC self (some l0) s.h.bl.length s.d s.t k)
              | _=>none
          else none
        | _=>none
      else none
    | _=>none
  | .call f args h,k =>
    match P.funcs[f]? with
    | some fn=>match fn.body with
      | some c=>headsK (frame fn args) fun t=>self (.code none c { t:=t,d:=[],h:=enterH h }) fun
        | .ex .normal s | .ex .ret s=>leaveC P self fn s.t h s.d .returning s.h k
        | .ex (.panic v) s=>leaveC P self fn s.t h s.d (.panicking v false) s.h k
        | _=>none
      | none=>none
    | none=>none
  | .round l args h,k =>
    match nthO h.bl l with
    | some (.loop .ready _ t ps assign body _) =>
      if args.size=ps.size then
        headsK ((ps.zip args).foldl (fun t (p,a)=>t.setIfInBounds p a) t).toList fun t =>
        self (.code (some l) assign { t:=t,d:=[],h:=h }) fun
        | .ex .normal s1=>(match nthO s1.h.bl l with
          | some (.loop .ready pend1 t1 ps1 a1 b1 D1) =>
            heapK (s1.h.put l (.loop .busy pend1 t1 ps1 a1 b1 D1)) fun h =>
            self (.code (some l) body { t:=s1.t,d:=s1.d,h:=h }) fun
            | .ex e s2=>(match jumpOf e,nthO s2.h.bl l with
              | some j,some (.loop _ _ t2 ps2 a2 b2 D2)=>heapK (s2.h.put l (.loop (if j.isNone then .ready else .done) j t2 ps2 a2 b2 D2)) fun h=>k (.ret (.bool j.isNone) h)
              | _,_=>none)
            | _=>none
          | _=>none)
        | _=>none
      else none
    | _=>none
  | _,_=>none
theorem code_ex (hs:CpsOk self sd) {rd:Option Nat}{c:Code}{s:St}{f:Ex→St→Option Out}{r:Out}(hc:self (.code rd c s) (fun | .ex e s'=>f e s' | _=>none)=some r) :
    ∃e s',sd (.code rd c s)=some (.ex e s')∧f e s'=some r:=by
  obtain ⟨o,h1,h2⟩:=hs _ _ _ hc
  cases o with
  | ex e s'=>exact ⟨e,s',h1,h2⟩
  | _=>cases h2
theorem stepC_code (hs:CpsOk self sd) {rd:Option Nat}{c:Code}{s:St}{k:Kn}{r:Out}(hc:stepC P self (.code rd c s) k=some r):∃o,stepF drawn P sd (.code rd c s)=some o∧k o=some r:=by
  cases c with
  | skip=>exact ⟨_,rfl,hc⟩
  | label l=>exact ⟨_,rfl,hc⟩
  | exit id=>exact ⟨_,rfl,hc⟩
  | goto l=>exact ⟨_,rfl,hc⟩
  | ret=>exact ⟨_,rfl,hc⟩
  | seq a b =>
    simp only [stepC]at hc
    obtain ⟨o,h1,h2⟩:=hs _ _ _ hc
    simp only [stepF,h1]
    cases o with
    | ex e s' =>
      cases e with
      | normal =>
        obtain ⟨e,s2,h3,h4⟩:=code_ex hs h2
        simp only [h3]
        exact ⟨_,rfl,h4⟩
      | _=>exact ⟨_,rfl,h2⟩
    | _=>cases h2
  | cond c x y =>
    simp only [stepC]at hc
    split at hc
    · rename_i hk
      simp only [stepF,hk,if_true]
      split at hc
      · rename_i d
        split at hc
        · rename_i b hl
          have he:evalT s.t (.tmp d)=.bool b:=hl
          rw [he]
          cases b with
          | true =>
            rw [cond_true,litK_eq hl]at hc
            obtain ⟨e,s2,h3,h4⟩:=code_ex hs hc
            simp only [h3]
            exact ⟨_,rfl,h4⟩
          | false =>
            rw [cond_false,litK_eq hl]at hc
            obtain ⟨e,s2,h3,h4⟩:=code_ex hs hc
            simp only [h3]
            exact ⟨_,rfl,h4⟩
        · cases hc
      · split at hc
        · rename_i b he
          rw [he]
          cases b with
          | true =>
            rw [cond_true]at hc
            obtain ⟨e,s2,h3,h4⟩:=code_ex hs hc
            simp only [h3]
            exact ⟨_,rfl,h4⟩
          | false =>
            rw [cond_false]at hc
            obtain ⟨e,s2,h3,h4⟩:=code_ex hs hc
            simp only [h3]
            exact ⟨_,rfl,h4⟩
        · cases hc
    · cases hc
  | block id c =>
    simp only [stepC]at hc
    obtain ⟨o,h1,h2⟩:=hs _ _ _ hc
    simp only [stepF,h1]
    cases o with
    | ex e s' =>
      cases e with
      | exit id' =>
        simp only at h2 ⊢
        split at h2
        · rename_i he;rw [if_pos he];exact ⟨_,rfl,h2⟩
        · rename_i he;rw [if_neg he];exact ⟨_,rfl,h2⟩
      | _=>exact ⟨_,rfl,h2⟩
    | _=>cases h2
  | loop c =>
    simp only [stepC]at hc
    obtain ⟨o,h1,h2⟩:=hs _ _ _ hc
    simp only [stepF,h1]
    cases o with
    | ex e s' =>
      cases e with
      | normal =>
        obtain ⟨e,s2,h3,h4⟩:=code_ex hs h2
        simp only [h3]
        exact ⟨_,rfl,h4⟩
      | _=>exact ⟨_,rfl,h2⟩
    | _=>cases h2
  | region id os dr =>
    cases dr with
    | true =>
      obtain ⟨e,s',h1,h2⟩:=drawnC_ok (rd:=rd) (id:=id) hs (k:=fun e s'=>k (.ex e s')) (show drawnC P self os s (fun e s'=>k (.ex e s'))=some r from hc)
      exact ⟨_,by simpa only [stepF,if_true] using h1,h2⟩
    | false =>
      obtain ⟨e,s',h1,h2⟩:=runOpsC_ok hs (k:=fun e s'=>k (.ex e s')) (show runOpsC P self rd os (List.range os.size) s (fun e s'=>k (.ex e s'))=some r from hc)
      exact ⟨_,by simpa only [stepF,Bool.false_eq_true,if_false] using h1,h2⟩
  | rangeFunc g ps assign body =>
    simp only [stepC]at hc
    split at hc
    · rename_i hk
      simp only [stepF,hk,if_true]
      split at hc
      · rename_i f first cap hg
        rw [hg]
        simp only
        split at hc
        · rename_i hb
          rw [if_pos hb]
          split at hc
          · simp only [pushK_eq,headsK_eq]at hc
            obtain ⟨o,h1,h2⟩:=hs _ _ _ hc
            obtain ⟨o',h3,h4⟩:=endLoopC_ok hs h2
            refine ⟨o',?_,h4⟩
            simp only
            rw [← h3,← h1]
            congr 4
            apply Array.ext'
            simp
          · rename_i l0
            rw [nthO_eq]at hc
            split at hc
            · rename_i hl
              simp only [pushK_eq,headsK_eq]at hc
              obtain ⟨o,h1,h2⟩:=hs _ _ _ hc
              obtain ⟨o',h3,h4⟩:=endLoopC_ok hs h2
              refine ⟨o',?_,h4⟩
              simp only [hl]
              rw [← h3,← h1]
              congr 4
              apply Array.ext'
              simp
            · cases hc
        · cases hc
      · cases hc
    · cases hc
  | scope c=>cases hc
  | refuse w=>cases hc
theorem stepC_ok (hs:CpsOk self sd):CpsOk (stepC P self) (stepF drawn P sd):=by
  intro t k r hc
  cases t with
  | code rd c s=>exact stepC_code hs hc
  | call f args h =>
    simp only [stepC]at hc
    simp only [stepF,forceL1_eq]
    split at hc
    · rename_i fn hf
      rw [hf]
      simp only
      split at hc
      · rename_i c hcb
        rw [hcb]
        simp only
        rw [headsK_eq]at hc
        obtain ⟨o,h1,h2⟩:=hs _ _ _ hc
        rw [h1]
        cases o with
        | ex e s =>
          cases e with
          | normal=>exact leaveC_ok hs h2
          | ret=>exact leaveC_ok hs h2
          | panic v=>exact leaveC_ok hs h2
          | _=>cases h2
        | _=>cases h2
      · cases hc
    · cases hc
  | dcall f args m h=>cases hc
  | round l args h =>
    simp only [stepC]at hc
    rw [nthO_eq]at hc
    simp only [stepF]
    split at hc
    · rename_i x t ps assign body D hl
      rw [hl]
      simp only
      split at hc
      · rename_i hz
        rw [if_pos hz]
        rw [headsK_eq]at hc
        obtain ⟨o,h1,h2⟩:=hs _ _ _ hc
        rw [h1]
        cases o with
        | ex e s1 =>
          cases e with
          | normal =>
            simp only at h2 ⊢
            rw [nthO_eq]at h2
            split at h2
            · rename_i pend1 t1 ps1 a1 b1 D1 hl1
              rw [hl1]
              simp only
              rw [heapK_eq]at h2
              obtain ⟨e,s2,h3,h4⟩:=code_ex hs h2
              rw [h3]
              simp only
              rw [nthO_eq]at h4
              split at h4
              · rename_i j q1 q2 t2 ps2 a2 b2 D2 hj hl2
                rw [hj,hl2]
                rw [heapK_eq]at h4
                exact ⟨_,rfl,h4⟩
              · cases h4
            · cases h2
          | _=>cases h2
        | _=>cases h2
      · cases hc
    · cases hc
def evC (P:Program)(oc:Task→Kn→Option (Option Out)):Nat→SelfC
  | 0,_,_=>none
  | n+1,t,k=>match oc t k with
    | some r=>r
    | none=>stepC P (evC P oc n) t k
def OcOk (oc:Task→Kn→Option (Option Out))(orc:Self):Prop :=
  (∀t k r,oc t k=some (some r)→∃o,orc t=some o∧k o=some r)∧(∀t k,oc t k=none→orc t=none)
theorem evC_ok {oc:Task→Kn→Option (Option Out)}{orc:Self}(ho:OcOk oc orc):∀n,CpsOk (evC P oc n) (iterO orc drawn P n)
  | 0=>fun _ _ _ h=>by cases h
  | n+1=>by
    intro t k r h
    simp only [evC]at h
    simp only [iterO]
    split at h
    · rename_i r' hr
      subst h
      obtain ⟨o,h1,h2⟩:=ho.1 _ _ _ hr
      rw [h1];exact ⟨_,rfl,h2⟩
    · rename_i hr
      rw [ho.2 _ _ hr]
      exact stepC_ok (evC_ok ho n) t k r h
end
inductive AT where
  | leaf (o:Out)
  | no
  | br (b:Bool) (x y:AT)
def AT.run:AT→Kn→Option Out
  | .leaf o,k=>k o
  | .no,_=>none
  | .br b x y,k=>cond b (x.run k) (y.run k)
def AT.out:AT→Option Out
  | .leaf o=>some o
  | .no=>none
  | .br b x y=>cond b x.out y.out
theorem AT.run_some {k:Kn}{r:Out}:∀{a:AT},a.run k=some r→∃o,a.out=some o∧k o=some r
  | .leaf o,h=>⟨o,rfl,h⟩
  | .no,h=>nomatch h
  | .br b x y,h=>by
    cases b with
    | true=>exact AT.run_some (a:=x) h
    | false=>exact AT.run_some (a:=y) h
abbrev Ans:=Task→Option AT
def Ans.self (a:Ans):Self:=fun t=>match a t with
  | some x=>x.out
  | _=>none
def Ans.c (a:Ans):Task→Kn→Option (Option Out):=fun t k=>match a t with
  | some x=>some (x.run k)
  | none=>none
theorem Ans.oc (a:Ans):OcOk a.c a.self:=by
  constructor
  · intro t k r h
    unfold Ans.c at h
    unfold Ans.self
    split at h
    · rename_i x ha
      simp only [Option.some.injEq]at h
      rw [ha]
      exact AT.run_some h
    · cases h
  · intro t k h
    unfold Ans.c at h
    unfold Ans.self
    split at h
    · cases h
    · rename_i ha;rw [ha]
def LoopFact (P:Program):Task→Out→Prop
  | .code rd (.loop c) s,.ex e s'=>s.h.base≤s.h.bl.length →
    ∀(K:Nat→Prop) (w0:World) (φ:Phi) (w:World) (a:Act) (F:Fence) (n:Nat),Inv K w0 φ s.h.bl w→VRs φ s.t.toArray a.tmps→DRs φ s.d a.defers→FenceOk φ rd F→wpLoopIn F n P c (CodeR K w0 φ e s') a w
  | _,_=>True
def Fact (P:Program)(t:Task)(o:Out):Prop:=TaskOk P t o∧LoopFact P t o
def Known (P:Program)(a:Ans):Prop:=∀t x o,a t=some x→x.out=some o→Fact P t o
theorem Ans.self_iff {a:Ans}{t:Task}{o:Out}:a.self t=some o↔∃x,a t=some x∧x.out=some o:=by
  unfold Ans.self
  split
  · rename_i x h;rw [h];simp
  · rename_i h
    constructor
    · intro h';cases h'
    · rintro ⟨x,hx,_⟩;exact (h _ hx).elim
theorem Known.selfOk {P:Program}{a:Ans}(h:Known P a):SelfOk P a.self:=fun t o ht=>let ⟨x,h1,h2⟩:=Ans.self_iff.1 ht;(h t x o h1 h2).1
theorem Known.loopOk {P:Program}{a:Ans}(h:Known P a):LoopOk P a.self:=fun _ _ _ _ _ hc hb=>let ⟨x,h1,h2⟩:=Ans.self_iff.1 hc;(h _ x _ h1 h2).2 hb
theorem Known.nothing (P:Program):Known P (fun _=>none):=fun _ _ _ h=>nomatch h
def Ans.or (p a:Ans):Ans:=fun t=>match p t with
  | some r=>some r
  | none=>a t
def Ans.below (p:Ans)(mes:Task→Nat)(m:Nat):Ans:=fun t=>match p t with
  | some x=>some (.br (Nat.blt (mes t) m) x .no)
  | none=>none
theorem Known.or {P:Program}{p a:Ans}(hp:Known P p) (ha:Known P a):Known P (p.or a):=by
  intro t x o h
  unfold Ans.or at h
  split at h
  · rename_i r hr;rw [h]at hr;exact hp t x o hr
  · exact ha t x o h
section
variable {P:Program}
abbrev Shape:=Task→Option (List Value→AT)
def Shape.ans (s:Shape)(J:Task→List Value):Ans:=fun t=>match s t with
  | some f=>some (f (J t))
  | none=>none
theorem Known.junk {a:Ans}(hk:Known P a) (mes:Task→Nat) (s:Shape)
    (hh:∀(J:Task→List Value) (t:Task) (f:List Value→AT),s t=some f→Known P (((s.ans J).below mes (mes t)).or a)→∃j,∀o,(f j).out=some o→Fact P t o) :
    ∃J,Known P (s.ans J):=by
  classical
  let J:Task→List Value:=fun t=>if h:∃j,∃f,s t=some f∧∀o,(f j).out=some o→Fact P t o then Classical.choose h else []
  refine ⟨J,?_⟩
  have main:∀m t,mes t<m→∀f,s t=some f→∀o,(f (J t)).out=some o→Fact P t o:=by
    intro m
    induction m with
    | zero=>intro t ht;exact absurd ht (Nat.not_lt_zero _)
    | succ m ih =>
      intro t ht f hf
      have hkn:Known P (((s.ans J).below mes (mes t)).or a):=by
        refine Known.or ?_ hk
        intro t' x o h ho
        unfold Ans.below at h
        split at h
        · rename_i x' hb
          simp only [Option.some.injEq]at h
          subst h
          simp only [AT.out]at ho
          obtain ⟨h2,ho⟩:=cond_some ho
          unfold Shape.ans at hb
          split at hb
          · rename_i f' hs
            simp only [Option.some.injEq]at hb
            subst hb
            rw [Nat.blt_eq]at h2
            exact ih t' (by omega) f' hs o ho
          · cases hb
        · cases h
      obtain ⟨j,h1⟩:=hh J t f hf hkn
      have hex:∃j,∃f,s t=some f∧∀o,(f j).out=some o→Fact P t o:=⟨j,f,hf,h1⟩
      have:J t=Classical.choose hex:=by show dite _ _ _=_;rw [dif_pos hex]
      obtain ⟨f',h2,h3⟩:=Classical.choose_spec hex
      rw [hf]at h2
      cases h2
      rw [this];exact h3
  intro t x o h ho
  unfold Shape.ans at h
  split at h
  · rename_i f hs
    simp only [Option.some.injEq]at h
    subst h
    exact main _ t (Nat.lt_succ_self _) f hs o ho
  · cases h
end
section
variable {P:Program}(hN:NoNG P) (hm:P.follows .mixedOrders=true)
include hN hm
theorem Known.fact {a:Ans}(hk:Known P a) {n:Nat}{t:Task}{o:Out}(h:evC P a.c n t some=some o):Fact P t o:=by
  obtain ⟨o',h1,h2⟩:=evC_ok (P:=P) a.oc n t some o h
  cases h2
  have hh:=iterO_ok (drawn:=drawn) hN (fun self hs rd id os s o h=>drawn_ok hN hm self hs rd id os s o h) hk.selfOk hk.loopOk n
  refine ⟨hh.1 _ _ h1,?_⟩
  unfold LoopFact
  split
  · exact fun hb=>hh.2 _ _ _ _ _ h1 hb
  · trivial
def evS (P:Program)(a:Ans)(n:Nat):SelfC:=stepC P (evC P a.c n)
theorem Known.step {a:Ans}(hk:Known P a) {n:Nat}{t:Task}{o:Out}(h:evS P a n t some=some o):Fact P t o:=by
  obtain ⟨o',h1,h2⟩:=stepC_ok (evC_ok (P:=P) a.oc n) t some o h
  cases h2
  have hd:DrawnOk P drawn:=fun self hs rd id os s o h=>drawn_ok hN hm self hs rd id os s o h
  have hh:=iterO_ok (drawn:=drawn) hN hd hk.selfOk hk.loopOk n
  refine ⟨step_ok hN hd hh.1 hh.2 t _ h1,?_⟩
  unfold LoopFact
  split
  · obtain ⟨e1,s1,he,h3⟩:=loop_sound (drawn:=drawn) hh.1 hh.2 h1
    cases he
    exact fun hb=>(h3 hb).2
  · trivial
end
def eqCode (c c':Code):Bool:=@decide (c=c') (Classical.propDecidable _)
theorem eqCode_self (c:Code):eqCode c c=true:=by simp [eqCode]
theorem eqCode_eq {c c':Code}(h:eqCode c c'=true):c=c':=by simpa [eqCode] using h
def dec (p:Prop):Bool:=@decide p (Classical.propDecidable _)
theorem dec_iff {p:Prop}:dec p=true↔p:=by simp [dec]
def junkFrom (j:List Value):Nat→Nat→List Value
  | 0,_=>[]
  | m+1,i=>lget j i::junkFrom j m (i+1)
def junkF (n:Nat)(j:List Value):List Value:=junkFrom j n 0
def lo (v:Value):Value:=match v with | .bool b=>.bool b | _=>undef
theorem cl_vr {φ ψ:Phi} {v v':Value}(h:VR φ v v'):VR ψ (lo v) v':=by
  cases h with
  | bool b=>exact .bool b
  | top _ hb=>exact .top _ hb
  | fz hf=>exact .top _ hf.notB
  | _=>exact .top _ rfl
theorem vr_undef {φ ψ:Phi} {v v':Value}(h:VR φ v v') (hn:notB v=true):VR ψ undef v':=by
  cases h with
  | bool b=>cases hn
  | top _ hb=>exact .top _ hb
  | fz hf=>exact .top _ hf.notB
  | _=>exact .top _ rfl
def SlotR (n:Nat)(v v0:Value):Prop:=v0=lo v∨(v0=undef∧notB v=true)∨(v0=v∧scT n v=true)
theorem SlotR.vr {φ:Phi}{n:Nat} {v v0 v':Value}(hs:SlotR n v v0) (h:VR φ v v'):VR (cut φ n) v0 v':=by
  rcases hs with rfl | ⟨rfl,hb⟩ | ⟨rfl,hsc⟩
  · exact cl_vr h
  · exact vr_undef h hb
  · exact scT_cut hsc h
inductive SlotRs (n:Nat):List Value→List Value→Prop
  | nil:SlotRs n [] []
  | cons {v v0:Value} {l l0:List Value} (h:SlotR n v v0) (r:SlotRs n l l0):SlotRs n (v::l) (v0::l0)
theorem SlotRs.get {n:Nat}{l l0:List Value}(h:SlotRs n l l0):∀i:Nat,OR (SlotR n) l[i]? l0[i]?:=by
  induction h with
  | nil=>intro i;simp;exact .none
  | cons h _ ih =>
    intro i
    cases i with
    | zero=>simp only [List.getElem?_cons_zero];exact .some h
    | succ i=>simp only [List.getElem?_cons_succ];exact ih i
theorem SlotRs.vrs {φ:Phi}{n:Nat}{l l0:List Value}{tm:Array Value}(hs:SlotRs n l l0) (h:VRs φ l.toArray tm):VRs (cut φ n) l0.toArray tm:=by
  intro i
  have h1:=hs.get i
  have h2:=h i
  rw [List.getElem?_toArray]at h2 ⊢
  generalize l[i]?=x at h1 h2
  generalize l0[i]?=y at h1 ⊢
  generalize tm[i]?=z at h2 ⊢
  cases h1 with
  | none=>cases h2;exact .none
  | some h1=>cases h2 with | some h2=>exact .some (h1.vr h2)
def noPanic:Ex→Bool
  | .panic _=>false
  | _=>true
theorem ExR.any {φ ψ:Phi}{e:Ex}{x:Exit}(h:ExR φ e x) (hn:noPanic e=true):ExR ψ e x:=by
  cases h with
  | normal=>exact .normal
  | exit id=>exact .exit id
  | goto l=>exact .goto l
  | ret=>exact .ret
  | panic h=>cases hn
def obKept (n:Nat) (ob ob':Ob):Bool:=(!ob'.live||ob.live)&&(!ob'.rw||ob.rw)&&obSc n ob'
inductive ObsKept (n:Nat):List Ob→List Ob→Prop
  | nil:ObsKept n [] []
  | cons {o o':Ob} {l l':List Ob} (h:obKept n o o'=true) (r:ObsKept n l l'):ObsKept n (o::l) (o'::l')
theorem ObsKept.len {n:Nat} {l l':List Ob}(h:ObsKept n l l'):l'.length=l.length:=by
  induction h with
  | nil=>rfl
  | cons _ _ ih=>simp [ih]
theorem ObsKept.get {n:Nat} {l l':List Ob}(h:ObsKept n l l'):∀{b:Nat} {ob':Ob},l'[b]?=some ob'→∃ob,l[b]?=some ob∧(ob'.live=true→ob.live=true)∧(ob'.rw=true→ob.rw=true)∧obSc n ob'=true:=by
  induction h with
  | nil=>intro b ob' h;simp at h
  | @cons o o' l l' h _ ih =>
    intro b ob' hb
    cases b with
    | zero =>
      simp only [List.getElem?_cons_zero,Option.some.injEq]at hb
      subst hb
      simp only [obKept,Bool.and_eq_true,Bool.or_eq_true,Bool.not_eq_true']at h
      refine ⟨o,rfl,fun hl=>?_,fun hr=>?_,h.2⟩
      · rcases h.1.1 with h1 | h1
        · rw [hl]at h1;cases h1
        · exact h1
      · rcases h.1.2 with h1 | h1
        · rw [hr]at h1;cases h1
        · exact h1
    | succ b =>
      simp only [List.getElem?_cons_succ]at hb ⊢
      exact ih hb
section
variable {P:Program}{K:Nat→Prop} {w0 w w':World} {φ φ':Phi}{H0 G H1 X:List Ob}
def RwAt (φ:Phi)(H:List Ob)(k:Nat):Prop:=∃(b:Nat) (ob:Ob) (x:Nat×Nat×Nat),H[b]?=some ob∧ob.rw=true∧φ b=some x∧x.1=k
theorem get_left {b:Nat}{ob:Ob}(h:H0[b]?=some ob):(H0++G)[b]?=some ob:=by
  rw [List.getElem?_append_left (List.getElem?_eq_some_iff.1 h).1];exact h
theorem Inv.narrow (hI:Inv K w0 φ (H0++G) w)(hsc:∀(b:Nat)(ob:Ob),H0[b]?=some ob→obSc H0.length ob=true) :
    Inv (fun k=>k<w.heap.size∧¬RwAt φ H0 k∧φ.z k=none) w (cut φ H0.length) H0 w:=by
  refine ⟨?_,?_,?_,fun _ _=>rfl,fun _ h=>h.1,Nat.le_refl _,rfl,rfl,rfl,fun b hb=>cut_ge hb,hI.frz,?_,fun k hk=>hk.2.2⟩
  · intro b ob hb hl
    obtain ⟨B,base,tot,h1,h2⟩:=hI.obs b ob (get_left hb) hl
    exact ⟨B,base,tot,(cut_lt (List.getElem?_eq_some_iff.1 hb).1).trans h1,obSc_cut (hsc b ob hb) h2⟩
  · intro b b' ob ob' x y hne hb hb' hrw hl hx hy
    rw [cut_lt (List.getElem?_eq_some_iff.1 hb).1]at hx
    rw [cut_lt (List.getElem?_eq_some_iff.1 hb').1]at hy
    exact hI.sep b b' ob ob' x y hne (get_left hb) (get_left hb') hrw hl hx hy
  · intro b ob x hb hrw hx hk
    rw [cut_lt (List.getElem?_eq_some_iff.1 hb).1]at hx
    exact hk.2.1 ⟨b,ob,x,hb,hrw,hx,rfl⟩
  · intro b ob x hb hrw hx
    rw [cut_lt (List.getElem?_eq_some_iff.1 hb).1]at hx
    exact hI.zsep b ob x (get_left hb) hrw hx
theorem Inv.widen (hI:Inv K w0 φ (H0++G) w)(hF:Inv (fun k=>k<w.heap.size∧¬RwAt φ H0 k∧φ.z k=none) w φ' (H1++X) w')(hle:le (cut φ H0.length) φ')(hk:ObsKept H0.length H0 H1) :
    ∃φ'',le φ φ''∧le (cut φ' H0.length) φ''∧Inv K w0 φ'' (H1++G) w':=by
  have hlen:=hk.len
  refine ⟨⟨fun b=>if b<H0.length then φ' b else φ b,φ'.z⟩,⟨?_,hle.zz⟩,⟨?_,fun _ _ h=>h⟩,?_⟩
  · intro b x hx
    show (if b<H0.length then φ' b else φ b)=some x
    split
    · rename_i hlt;exact hle b x ((cut_lt hlt).trans hx)
    · exact hx
  · intro b x hx
    show (if b<H0.length then φ' b else φ b)=some x
    split
    · rename_i hlt;rwa [cut_lt hlt]at hx
    · rename_i hge;rw [cut_ge (by omega)]at hx;cases hx
  have hφlt:∀{b:Nat},b<H0.length→(if b<H0.length then φ' b else φ b)=φ' b:=fun h=>if_pos h
  have hφge:∀{b:Nat},¬b<H0.length→(if b<H0.length then φ' b else φ b)=φ b:=fun h=>if_neg h
  have hleφ:le φ ⟨fun b=>if b<H0.length then φ' b else φ b,φ'.z⟩:=by
    refine ⟨?_,hle.zz⟩
    intro b x hx
    show (if b<H0.length then φ' b else φ b)=some x
    split
    · rename_i hlt;exact hle b x ((cut_lt hlt).trans hx)
    · exact hx
  have hlec:le (cut φ' H0.length) ⟨fun b=>if b<H0.length then φ' b else φ b,φ'.z⟩:=by
    refine ⟨?_,fun _ _ h=>h⟩
    intro b x hx
    show (if b<H0.length then φ' b else φ b)=some x
    split
    · rename_i hlt;rwa [cut_lt hlt]at hx
    · rename_i hge;rw [cut_ge (by omega)]at hx;cases hx
  have hcase:∀{b:Nat} {ob:Ob},(H1++G)[b]?=some ob→(b<H0.length∧H1[b]?=some ob)∨(¬b<H0.length∧(H0++G)[b]?=some ob):=by
    intro b ob hb
    by_cases hlt:b<H0.length
    · rw [List.getElem?_append_left (by omega)]at hb;exact .inl ⟨hlt,hb⟩
    · rw [List.getElem?_append_right (by omega)]at hb
      refine .inr ⟨hlt,?_⟩
      rw [List.getElem?_append_right (by omega),← hlen];exact hb
  have hold:∀k,k<w.heap.size→¬RwAt φ H0 k→w'.heap[k]?=w.heap[k]?:=fun k h1 h2=>by
    cases hz:φ.z k with
    | none=>exact hF.keep k ⟨h1,h2,hz⟩
    | some o=>rw [hI.frz k o hz,hF.frz k o (hle.zz k o hz)]
  have hwas:∀{b:Nat} {ob:Ob} {x:Nat×Nat×Nat},H1[b]?=some ob→ob.live=true→φ' b=some x→φ b=some x:=by
    intro b ob x hb hl hx
    obtain ⟨ob0,h0,hl0,_,_⟩:=hk.get hb
    obtain ⟨B,base,tot,h1,_⟩:=hI.obs b ob0 (get_left h0) (hl0 hl)
    have:=hle b _ ((cut_lt (List.getElem?_eq_some_iff.1 h0).1).trans h1)
    rw [hx]at this
    rw [h1,this]
  refine ⟨?_,?_,?_,?_,hI.klt,Nat.le_trans hI.size hF.size,hF.os.trans hI.os,hF.tape.trans hI.tape,hF.output.trans hI.output,?_,hF.frz,?_,?_⟩
  · intro b ob hb hl
    rcases hcase hb with ⟨hlt,h1⟩ | ⟨hge,h1⟩
    · obtain ⟨B,base,tot,h2,h3⟩:=hF.obs b ob (get_left h1) hl
      obtain ⟨_,_,_,_,hsc⟩:=hk.get h1
      exact ⟨B,base,tot,(hφlt hlt).trans h2,(obSc_cut hsc h3).keep hlec rfl⟩
    · obtain ⟨B,base,tot,h2,h3⟩:=hI.obs b ob h1 hl
      refine ⟨B,base,tot,(hφge hge).trans h2,h3.keep hleφ (hold B (h3.lt hl) ?_)⟩
      rintro ⟨b0,ob0,x,h4,h5,h6,h7⟩
      have hb0:=(List.getElem?_eq_some_iff.1 h4).1
      exact hI.sep b0 b ob0 ob x _ (by omega) (get_left h4) h1 h5 hl h6 h2 h7
  · intro b b' ob ob' x y hne hb hb' hrw hl hx hy
    rcases hcase hb with ⟨hlt,h1⟩ | ⟨hge,h1⟩
    · simp only [hφlt hlt]at hx
      obtain ⟨ob0,h0,_,hrw0,_⟩:=hk.get h1
      have hx0:=hwas h1 (Ob.live_of_rw hrw) hx
      rcases hcase hb' with ⟨hlt',h2⟩ | ⟨hge',h2⟩
      · simp only [hφlt hlt']at hy
        exact hF.sep b b' ob ob' x y hne (get_left h1) (get_left h2) hrw hl hx hy
      · simp only [hφge hge']at hy
        exact hI.sep b b' ob0 ob' x y hne (get_left h0) h2 (hrw0 hrw) hl hx0 hy
    · simp only [hφge hge]at hx
      rcases hcase hb' with ⟨hlt',h2⟩ | ⟨hge',h2⟩
      · simp only [hφlt hlt']at hy
        obtain ⟨ob0,h0,hl0,_,_⟩:=hk.get h2
        exact hI.sep b b' ob ob0 x y hne h1 (get_left h0) hrw (hl0 hl) hx (hwas h2 hl hy)
      · simp only [hφge hge']at hy
        exact hI.sep b b' ob ob' x y hne h1 h2 hrw hl hx hy
  · intro b ob x hb hrw hx
    rcases hcase hb with ⟨hlt,h1⟩ | ⟨hge,h1⟩
    · simp only [hφlt hlt]at hx
      obtain ⟨ob0,h0,_,hrw0,_⟩:=hk.get h1
      exact hI.prot b ob0 x (get_left h0) (hrw0 hrw) (hwas h1 (Ob.live_of_rw hrw) hx)
    · simp only [hφge hge]at hx
      exact hI.prot b ob x h1 hrw hx
  · intro k hkk
    have h1:=hI.klt k hkk
    have h2:=hI.size
    rw [hold k (by omega) ?_]
    · exact hI.keep k hkk
    · rintro ⟨b0,ob0,x,h4,h5,h6,h7⟩
      exact hI.prot b0 ob0 x (get_left h4) h5 h6 (h7 ▸ hkk)
  · intro b hb
    simp only [List.length_append]at hb
    have hge:¬b<H0.length:=by omega
    simp only [hφge hge]
    exact hI.top b (by simp only [List.length_append];omega)
  · intro b ob x hb hrw hx
    rcases hcase hb with ⟨hlt,h1⟩ | ⟨hge,h1⟩
    · simp only [hφlt hlt]at hx
      exact hF.zsep b ob x (get_left h1) hrw hx
    · simp only [hφge hge]at hx
      obtain ⟨B,base,tot,h2,h3⟩:=hI.obs b ob h1 (Ob.live_of_rw hrw)
      rw [h2]at hx;cases hx
      refine hF.zk B ⟨h3.lt (Ob.live_of_rw hrw),?_,hI.zsep b ob _ h1 hrw h2⟩
      rintro ⟨b0,ob0,y,h4,h5,h6,h7⟩
      have hb0:=(List.getElem?_eq_some_iff.1 h4).1
      exact hI.sep b0 b ob0 ob y _ (by omega) (get_left h4) h1 h5 (Ob.live_of_rw hrw) h6 h2 h7
  · intro k hkk
    have h1:=hI.klt k hkk
    have h2:=hI.size
    refine hF.zk k ⟨by omega,?_,hI.zk k hkk⟩
    rintro ⟨b0,ob0,x,h4,h5,h6,h7⟩
    exact hI.prot b0 ob0 x (get_left h4) h5 h6 (h7 ▸ hkk)
theorem Fact.forget {c:Code}{t t0 L T:List Value}{base base1:Nat}{wr wr1:List Nat}{e:Ex}
    (hf:Fact P (.code none c ⟨t0,[],⟨H0,base,wr⟩⟩) (.ex e ⟨L,[],⟨H1++X,base1,wr1⟩⟩)) (hb:base≤H0.length) (hk:ObsKept H0.length H0 H1) (hsc:(H0.all (obSc H0.length))=true)
    (ht:SlotRs H0.length t t0) (hT:SlotRs H0.length L T) (he:noPanic e=true) :
    Fact P (.code none c ⟨t,[],⟨H0++G,base,wr⟩⟩) (.ex e ⟨T,[],⟨H1++G,base,wr1⟩⟩):=by
  have hlen:=hk.len
  obtain ⟨hp,hh⟩:=hf.1 hb
  have hsc':∀(b:Nat) (ob:Ob),H0[b]?=some ob→obSc H0.length ob=true:=fun b ob hb=>by
    rw [List.all_eq_true]at hsc;exact hsc ob (List.mem_of_getElem? hb)
  have key:∀{K:Nat→Prop} {w0 w:World} {φ:Phi} {x:Exit} {a':Act} {w':World},Inv K w0 φ (H0++G) w→CodeR (fun k=>k<w.heap.size∧¬RwAt φ H0 k∧φ.z k=none) w (cut φ H0.length) e ⟨L,[],⟨H1++X,base1,wr1⟩⟩ x a' w' →
      CodeR K w0 φ e ⟨T,[],⟨H1++G,base,wr1⟩⟩ x a' w':=by
    rintro K w0 w φ x a' w' hI ⟨φ',hle,hx,ht',hd',hI'⟩
    obtain ⟨φ'',h1,h2,h3⟩:=hI.widen hI' hle hk
    refine ⟨φ'',h1,hx.any he,fun i=>(hT.vrs ht' i).mono fun _ _ h=>h.mono h2,?_,h3⟩
    have hd0:a'.defers=[]:=by
      have:DRs φ' [] a'.defers:=hd'
      generalize a'.defers=l at this
      cases this;rfl
    rw [hd0];exact .nil
  have dnil:∀{φ ψ:Phi} {l:List Deferred},DRs φ [] l→DRs ψ [] l:=fun h=>by cases h;exact .nil
  refine ⟨fun hb'=>⟨⟨rfl,?_,?_,?_⟩,?_⟩,?_⟩
  · show (H0++G).length≤(H1++G).length
    simp [hlen]
  · intro b hlt hn
    obtain ⟨h1,h2⟩:=hp.same b hlt hn
    refine ⟨h1,?_⟩
    have hlt':b<H0.length:=Nat.lt_of_lt_of_le hlt hb
    simp only at h2 ⊢
    rw [List.getElem?_append_left (by omega)]at h2 ⊢
    rw [List.getElem?_append_left hlt'];exact h2
  · intro b ob hx hl hr
    simp only at hx ⊢
    by_cases hlt:b<H0.length
    · rw [List.getElem?_append_left (by omega)]at hx
      exact get_left (hp.ro b ob (get_left hx) hl hr)
    · rw [List.getElem?_append_right (by omega)]at hx
      rw [List.getElem?_append_right (by omega),← hlen];exact hx
  · intro K w0 φ w a F n hI hta hd hF
    exact wpIn_mono (hh _ w (cut φ H0.length) w a F n (hI.narrow hsc') (ht.vrs hta) (dnil hd) hF) fun x a' w' h=>key hI h
  · cases c with
    | loop c =>
      intro hb' K w0 φ w a F n hI hta hd hF
      have hl:=hf.2 hb
      exact wpLoopIn_mono (hl _ w (cut φ H0.length) w a F n (hI.narrow hsc') (ht.vrs hta) (dnil hd) hF) fun x a' w' h=>key hI h
    | _=>trivial
end
end
end Go.Gi
