/- Regions that leave their order open: what can be checked once is checked once. Conditions: none. -/
import Derived.Test.YtplejmmkcfmdcaaGhX
namespace Go.Gh
open Go.RowKit
noncomputable section

/-- May it be loud? -/
def loudS (o : Oper) : Bool :=
  match o.op with
  | .alloc _ | .box _ _ | .buildSlice _ _ _ | .store _ _ _ | .convert _ _ _ | .makeMap _ _ | .mapUpdate _ _ _ _ | .insert _ _ _ _ => true
  | .call { callee := .builtin b, .. } => (match b with | .len | .cap | .max | .min => false | _ => true)
  | .call _ => true
  | _ => false

def dstOk1 (os : Array Oper) (clo : List Nat) (i j : Nat) : Bool :=
  i == j || match os[i]?, os[j]? with
    | some a, some b => (match a.dst with
      | some t => (b.dst != some t) && (!(looks os b).contains t || cl clo j i || cl clo i j)
      | none => true)
    | _, _ => true
def dstOk (os : Array Oper) (clo : List Nat) : Bool := (List.range os.size).all fun i => (List.range os.size).all fun j => dstOk1 os clo i j
def need1 (os : Array Oper) (clo : List Nat) (i j : Nat) : Bool :=
  match os[i]?, os[j]? with
  | some a, some b => loudS a && (loudS b || memOp b.op) && unord clo i j
  | _, _ => false
def need (os : Array Oper) (clo : List Nat) : List (Nat × Nat) :=
  (List.range os.size).flatMap fun i => ((List.range os.size).filter fun j => need1 os clo i j).map fun j => (i, j)

def dchkQ (P : Program) (os : Array Oper) (clo : List Nat) (recs : List Rec) : Bool :=
  dstOk os clo && recs.all (fun r => !r.loud || loudS r.o) && (need os clo).all fun x => recs.all fun r => !(r.i == x.1) || recs.all fun q => !(q.i == x.2) || pairOk P os clo r q

theorem dchkQ_ok {P : Program} {os : Array Oper} {clo : List Nat} {recs : List Rec} (ho : ∀ r ∈ recs, os[r.i]? = some r.o) (h : dchkQ P os clo recs = true) : dchk P os clo recs = true := by
  simp only [dchkQ, Bool.and_eq_true, List.all_eq_true] at h
  obtain ⟨⟨h1, h2⟩, h3⟩ := h
  simp only [dchk, List.all_eq_true]
  intro r hr q hq
  have hri := ho r hr
  have hqi := ho q hq
  have hrl : r.i < os.size := (Array.getElem?_eq_some_iff.1 hri).1
  have hql : q.i < os.size := (Array.getElem?_eq_some_iff.1 hqi).1
  by_cases hn : need1 os clo r.i q.i = true
  · have hm : (r.i, q.i) ∈ need os clo := by
      simp only [need, List.mem_flatMap, List.mem_map, List.mem_filter, List.mem_range]
      exact ⟨r.i, hrl, q.i, ⟨hql, hn⟩, rfl⟩
    have := h3 _ hm r hr
    simp only [beq_self_eq_true, Bool.not_true, Bool.false_or, List.all_eq_true] at this
    have := this q hq
    simpa using this
  · have hd : dstOk1 os clo r.i q.i = true := by
      simp only [dstOk, List.all_eq_true, List.mem_range] at h1
      exact h1 r.i hrl q.i hql
    simp only [dstOk1, hri, hqi] at hd
    simp only [need1, hri, hqi] at hn
    unfold pairOk
    cases he : r.i == q.i with
    | true => rfl
    | false =>
      rw [he, Bool.false_or] at hd
      rw [Bool.false_or, Bool.and_eq_true]
      refine ⟨hd, ?_⟩
      have hl1 := h2 r hr
      have hl2 := h2 q hq
      cases hrL : r.loud with
      | false => rfl
      | true =>
        simp only [hrL, Bool.not_true, Bool.false_or] at hl1
        simp only [hl1, Bool.true_and] at hn
        cases hu : unord clo r.i q.i with
        | false => simp
        | true =>
          simp only [hu, Bool.and_true, Bool.or_eq_true, not_or, Bool.not_eq_true] at hn
          cases hqL : q.loud with
          | true => simp only [hqL, hn.1, Bool.not_true, Bool.or_false] at hl2; cases hl2
          | false => simp [hn.2]

def drawnQ (P : Program) (self : Self) (_ : Option Nat) (_ : Nat) (os : Array Oper) (s : St) : Option Out :=
  if planOk os (Region.linearise .any os 0) (mkClo os (Region.linearise .any os 0) (List.replicate os.size 0)) then
    match drun P self os (Region.linearise .any os 0) s.t s.h with
    | some (recs, T, h) => if dchkQ P os (mkClo os (Region.linearise .any os 0) (List.replicate os.size 0)) recs then some (.ex .normal { s with t := T, h := h }) else none
    | none => none
  else none

theorem drawnQ_le {P : Program} {self : Self} {rd : Option Nat} {id : Nat} {os : Array Oper} {s : St} {o : Out} (h : drawnQ P self rd id os s = some o) : drawn P self rd id os s = some o := by
  unfold drawnQ at h
  unfold drawn
  split at h
  case isFalse => cases h
  rename_i hp
  rw [if_pos hp]
  split at h
  case h_2 => cases h
  rename_i recs T h1 hr
  split at h
  case isFalse => cases h
  rename_i hc
  rw [hr]
  simp only
  rw [if_pos (dchkQ_ok (fun r hm => ((drun_tr _ _ _ _ _ _ hr).1.recs r hm).1) hc)]
  exact h

theorem drawnQ_ok {P : Program} (hN : NoNG P) (hm : P.follows .mixedOrders = true) : DrawnOk P drawnQ :=
  fun self hs rd id os s o h => drawn_ok hN hm self hs rd id os s o (drawnQ_le h)

/-- What the run gives is what every call gives. -/
theorem calls_of_run {P : Program} (hN : NoNG P) (hm : P.follows .mixedOrders = true) {n : Nat} {f : FuncId} {v : Value} {h : Hp} (hc : iterQ drawnQ P n (.call f #[] { bl := [], base := 0, wr := [] }) = some (.ret v h)) (hg : gr v = true) (w : World) :
    Calls P f #[] w fun e w' => e = .returned v ∧ Below w.heap.size w w' :=
  calls_of_iter hN (drawnQ_ok hN hm) (by rw [← iterQ_eq]; exact hc) hg w
end
end Go.Gh
