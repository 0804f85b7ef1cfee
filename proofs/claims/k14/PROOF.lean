import PyProof.Rows.All
import Wide.All
import OpenK.AllK
import Wide.FinOn
import HandS.ForMost
import HandS.ForExc
import HandS.More
import HandS.Sort
import HandS.SortInts
import HandS.DictComp
import HandS.SetKeys
import HandS.AnyAll
import HandS.Small
import HandS.FStr
import HandS.Flow
import HandS.Conv
import HandS.DictTup
import HandS.Wide
import HandS.EndTab
import HandS.ExcInit
import HandS.ExcField
import PyProof.DictMoreH
import KE.KDictCopyH
import HandS.Codes
import PyProof.ZipIter
import KE.KItemsList
import HandS.ListItems
import HandS.NoneIn
import HandS.SortKw
import HandS.IsInst
import KE.KNest
import PySem.Challenge.RW_versionshelf_k14_deep_branches
set_option Elab.async false
set_option linter.all false
set_option maxRecDepth 100000
set_option maxHeartbeats 8000000
/-! ## Association lists -/
namespace Vs
open PySem L2
section
variable {κ β γ : Type} [DecidableEq κ]
def aget (l : List (κ × β)) (k : κ) : Option β := (l.find? fun p => decide (p.1 = k)).map (·.2)
def aput (l : List (κ × β)) (k : κ) (x : β) : List (κ × β) :=
  if (aget l k).isSome = true then l.map (fun p => if p.1 = k then (p.1, x) else p) else l ++ [(k, x)]
def adel (l : List (κ × β)) (k : κ) : List (κ × β) := l.filter fun p => decide (p.1 ≠ k)
theorem aget_nil {k : κ} : aget ([] : List (κ × β)) k = none := rfl
theorem aget_pos {p : κ × β} {r : List (κ × β)} {k : κ} (e : p.1 = k) : aget (p :: r) k = some p.2 := by simp [aget, List.find?_cons, e]
theorem aget_neg {p : κ × β} {r : List (κ × β)} {k : κ} (e : ¬ p.1 = k) : aget (p :: r) k = aget r k := by simp [aget, List.find?_cons, e]
theorem aget_cons (p : κ × β) (r : List (κ × β)) (k : κ) : aget (p :: r) k = if p.1 = k then some p.2 else aget r k := by
  by_cases e : p.1 = k
  · rw [if_pos e, aget_pos e]
  · rw [if_neg e, aget_neg e]
theorem aget_append (l r : List (κ × β)) (k : κ) : aget (l ++ r) k = (aget l k).or (aget r k) := by
  induction l with
  | nil => simp [aget_nil]
  | cons p l ih =>
    rw [List.cons_append, aget_cons, aget_cons]
    by_cases e : p.1 = k
    · rw [if_pos e, if_pos e]; rfl
    · rw [if_neg e, if_neg e, ih]
theorem aget_mapV (f : κ → β → γ) (l : List (κ × β)) (k : κ) : aget (l.map fun p => (p.1, f p.1 p.2)) k = (aget l k).map (f k) := by
  induction l with
  | nil => rfl
  | cons p l ih =>
    rw [List.map_cons, aget_cons, aget_cons]
    by_cases e : p.1 = k
    · rw [if_pos e, if_pos e, ← e]; rfl
    · rw [if_neg e, if_neg e, ih]
theorem aget_set (l : List (κ × β)) (k j : κ) (x : β) : aget (l.map fun p => if p.1 = k then (p.1, x) else p) j = (aget l j).map fun y => if j = k then x else y := by
  induction l with
  | nil => rfl
  | cons p l ih =>
    rw [List.map_cons]
    by_cases e : p.1 = k
    · rw [if_pos e, aget_cons, aget_cons]
      by_cases e' : p.1 = j
      · rw [if_pos e', if_pos e']
        have : j = k := e'.symm.trans e
        simp [this]
      · rw [if_neg e', if_neg e', ih]
    · rw [if_neg e, aget_cons, aget_cons]
      by_cases e' : p.1 = j
      · rw [if_pos e', if_pos e']
        have : ¬ j = k := fun z => e (e'.trans z)
        simp [this]
      · rw [if_neg e', if_neg e', ih]
theorem aget_put (l : List (κ × β)) (k j : κ) (x : β) : aget (aput l k x) j = if j = k then some x else aget l j := by
  unfold aput
  cases h : aget l k with
  | some y =>
    rw [if_pos (by rfl), aget_set]
    by_cases e : j = k
    · subst e; simp [h]
    · simp [e]
  | none =>
    rw [if_neg (by simp), aget_append, aget_cons, aget_nil]
    by_cases e : j = k
    · subst e; simp [h]
    · rw [if_neg e, if_neg (fun z => e z.symm)]
      cases aget l j <;> rfl
theorem aget_put_same (l : List (κ × β)) (k : κ) (x : β) : aget (aput l k x) k = some x := by rw [aget_put, if_pos rfl]
theorem aget_put_ne {l : List (κ × β)} {k j : κ} {x : β} (h : j ≠ k) : aget (aput l k x) j = aget l j := by rw [aget_put, if_neg h]
theorem aget_del (l : List (κ × β)) (k j : κ) : aget (adel l k) j = if j = k then none else aget l j := by
  unfold adel
  induction l with
  | nil => simp [aget_nil]
  | cons p l ih =>
    rw [List.filter_cons]
    by_cases e : p.1 = k
    · rw [if_neg (by simp [e]), ih, aget_cons]
      by_cases e' : j = k
      · simp [e']
      · rw [if_neg e', if_neg e', if_neg (fun z => e' (z.symm.trans e))]
    · rw [if_pos (by simp [e]), aget_cons, aget_cons, ih]
      by_cases e' : p.1 = j
      · rw [if_pos e', if_pos e', if_neg (fun z => e (e'.trans z))]
      · rw [if_neg e', if_neg e']
theorem aget_mem {l : List (κ × β)} {k : κ} {x : β} (h : aget l k = some x) : (k, x) ∈ l := by
  induction l with
  | nil => cases h
  | cons p l ih =>
    rw [aget_cons] at h
    by_cases e : p.1 = k
    · rw [if_pos e] at h
      cases h
      subst e
      exact List.mem_cons_self
    · rw [if_neg e] at h
      exact List.mem_cons_of_mem _ (ih h)
theorem aget_key {l : List (κ × β)} {k : κ} {x : β} (h : aget l k = some x) : k ∈ l.map (·.1) := List.mem_map.mpr ⟨_, aget_mem h, rfl⟩
theorem aget_of_key {l : List (κ × β)} {k : κ} (h : k ∈ l.map (·.1)) : ∃ x, aget l k = some x := by
  induction l with
  | nil => cases h
  | cons p l ih =>
    rw [aget_cons]
    by_cases e : p.1 = k
    · exact ⟨_, if_pos e⟩
    · rw [if_neg e]
      rw [List.map_cons] at h
      rcases List.mem_cons.mp h with z | z
      · exact absurd z.symm e
      · exact ih z
theorem aget_of_mem {l : List (κ × β)} {k : κ} {x : β} (hn : (l.map (·.1)).Nodup) (h : (k, x) ∈ l) : aget l k = some x := by
  induction l with
  | nil => cases h
  | cons p l ih =>
    rw [List.map_cons] at hn
    obtain ⟨h1, h2⟩ := List.nodup_cons.mp hn
    rw [aget_cons]
    rcases List.mem_cons.mp h with z | z
    · rw [← z, if_pos rfl]
    · by_cases e : p.1 = k
      · exact absurd (e ▸ List.mem_map.mpr ⟨_, z, rfl⟩) h1
      · rw [if_neg e]; exact ih h2 z
theorem aget_none_of {l : List (κ × β)} {k : κ} (h : k ∉ l.map (·.1)) : aget l k = none := by
  cases e : aget l k with
  | none => rfl
  | some x => exact absurd (aget_key e) h
theorem aput_new {l : List (κ × β)} {k : κ} (x : β) (h : aget l k = none) : aput l k x = l ++ [(k, x)] := by
  unfold aput; rw [h]; rfl
theorem keys_aput_old {l : List (κ × β)} {k : κ} (x : β) {y : β} (h : aget l k = some y) : (aput l k x).map (·.1) = l.map (·.1) := by
  unfold aput; rw [h, if_pos (by rfl), List.map_map]
  apply List.map_congr_left
  intro p _
  simp only [Function.comp]
  split <;> rfl
theorem keys_adel (l : List (κ × β)) (k : κ) : (adel l k).map (·.1) = (l.map (·.1)).filter fun j => decide (j ≠ k) := by
  unfold adel
  induction l with
  | nil => rfl
  | cons p l ih =>
    rw [List.filter_cons, List.map_cons, List.filter_cons]
    by_cases e : p.1 = k
    · rw [if_neg (by simp [e]), if_neg (by simp [e]), ih]
    · rw [if_pos (by simp [e]), if_pos (by simp [e]), List.map_cons, ih]
/-! ### as the pairs of a dict -/
def enc (f : κ → Key) (g : κ → β → V) (l : List (κ × β)) : List (Key × V) := l.map fun p => (f p.1, g p.1 p.2)
variable {f : κ → Key} {g g' : κ → β → V}
theorem valV_enc (hf : ∀ a b, f a = f b → a = b) (l : List (κ × β)) (k : κ) : valV (enc f g l) (f k) = (aget l k).map (g k) := by
  induction l with
  | nil => rfl
  | cons p l ih =>
    show valV ((f p.1, g p.1 p.2) :: enc f g l) (f k) = _
    by_cases e : p.1 = k
    · rw [valV_pos (by simp [e]), aget_pos e, ← e]; rfl
    · rw [valV_neg (fun z => e (hf _ _ z)), aget_neg e, ih]
theorem enc_congr {l : List (κ × β)} (h : ∀ p ∈ l, g p.1 p.2 = g' p.1 p.2) : enc f g l = enc f g' l := by
  unfold enc
  apply List.map_congr_left
  intro p hp
  rw [h p hp]
theorem putK_enc (hf : ∀ a b, f a = f b → a = b) (l : List (κ × β)) (k : κ) (x : β) (v : V) (hv : g' k x = v) (ho : ∀ p ∈ l, p.1 ≠ k → g' p.1 p.2 = g p.1 p.2) :
    putK (enc f g l) (f k) v = enc f g' (aput l k x) := by
  unfold putK aput
  rw [valV_any, valV_enc hf]
  cases h : aget l k with
  | none =>
    rw [if_neg (by simp), if_neg (by simp)]
    show enc f g l ++ _ = enc f g' (l ++ _)
    unfold enc
    rw [List.map_append]
    congr 1
    · apply List.map_congr_left
      intro p hp
      rw [ho p hp (fun z => by
        have := aget_none_of (l := l) (k := k)
        obtain ⟨y, hy⟩ := aget_of_key (l := l) (k := k) (z ▸ List.mem_map.mpr ⟨p, hp, rfl⟩)
        rw [h] at hy; cases hy)]
    · show [(f k, v)] = [(f k, g' k x)]
      rw [hv]
  | some y =>
    rw [if_pos (by rfl), if_pos (by rfl)]
    unfold enc
    rw [List.map_map, List.map_map]
    apply List.map_congr_left
    intro p hp
    simp only [Function.comp]
    by_cases e : p.1 = k
    · rw [if_pos (by simp [e]), if_pos e, ← hv, e]
    · rw [if_neg (fun z => e (hf _ _ z)), if_neg e, ho p hp e]
theorem dropK_enc (hf : ∀ a b, f a = f b → a = b) (l : List (κ × β)) (k : κ) : dropK (enc f g l) (f k) = enc f g (adel l k) := by
  unfold dropK adel
  induction l with
  | nil => rfl
  | cons p l ih =>
    show List.filter _ ((f p.1, g p.1 p.2) :: enc f g l) = _
    rw [List.filter_cons, List.filter_cons, ih]
    by_cases e : p.1 = k
    · rw [if_neg (by simp [e]), if_neg (by simp [e])]
    · have e2 : (f p.1, g p.1 p.2).1 ≠ f k := fun z => e (hf _ _ z)
      rw [if_pos (decide_eq_true e2), if_pos (by simp [e])]; rfl
theorem enc_keys (l : List (κ × β)) : (enc f g l).map (·.1) = (l.map (·.1)).map f := by
  unfold enc; rw [List.map_map, List.map_map]; rfl
theorem enc_length (l : List (κ × β)) : (enc f g l).length = l.length := by unfold enc; rw [List.length_map]
end
theorem inl_inj : ∀ a b : Int, (Sum.inl a : Key) = Sum.inl b → a = b := fun _ _ h => Sum.inl.inj h
theorem inr_inj : ∀ a b : Str, (Sum.inr a : Key) = Sum.inr b → a = b := fun _ _ h => Sum.inr.inj h
end Vs
/-! ## The shelf as plain data, and what a judgement is -/
namespace Vs
open PySem L2
abbrev Cel := Int × Option Int
structure Br where
  ben : Option Int
  mom : Int
  alive : Bool
  lines : List (Str × List Cel)
  marks : List (Str × Int)
structure Hn where
  br : Int
  mom : Int
  drafts : List (Str × Option Int)
structure Sh where
  now : Int
  brs : List (Int × Br)
  bm : Int
  hns : List (Int × Hn)
  hm : Int
def optV : Option Int → V
  | none => .non
  | some i => .int i
abbrev Own := Str × Int
abbrev Ver := Int × Int × Option Int
structure Rsn where
  own : Own
  ben : Option (Int × Str × Int)
def newC (l : List Cel) (m : Int) : Option Cel := (l.filter fun c => decide (c.1 ≤ m)).getLast?
def Br.line (b : Br) (k : Str) : List Cel := (aget b.lines k).getD []
def lineAt (bs : List (Int × Br)) (n : Int) (k : Str) : List Cel := match aget bs n with
  | none => []
  | some b => b.line k
/-- to which version the view of branch n at moment m comes -/
def reach (bs : List (Int × Br)) (k : Str) : Nat → Int → Int → Option Ver
  | 0, _, _ => none
  | f + 1, n, m => match newC (lineAt bs n k) m with
    | some c => some (n, c.1, c.2)
    | none => match (aget bs n).bind (·.ben), aget bs n with
      | some q, some b => reach bs k f q b.mom
      | _, _ => none
def reachS (bs : List (Int × Br)) (k : Str) (n m : Int) : Option Ver := reach bs k (n.toNat + 1) n m
def viewsM (S : Sh) : List (Own × Int × Int) :=
  (S.hns.map fun p => ((("hand" : Str), p.1), p.2.br, p.2.mom)) ++ ((S.brs.filter fun p => p.2.alive).map fun p => ((("head" : Str), p.1), p.1, S.now))
def addOwn (acc : List ((Int × Int) × Own)) (v : Option Ver) (o : Own) : List ((Int × Int) × Own) := match v with
  | none => acc
  | some w => if (aget acc (w.1, w.2.1)).isSome = true then acc else acc ++ [((w.1, w.2.1), o)]
def ownersM (S : Sh) (k : Str) : List ((Int × Int) × Own) := (viewsM S).foldl (fun acc v => addOwn acc (reachS S.brs k v.2.1 v.2.2) v.1) []
def reasonM (k : Str) (v : Option Int) (o : Option Own) (be : Option Ver) : Option Rsn := match o with
  | none => none
  | some o => match v with
    | some _ => some ⟨o, none⟩
    | none => match be with
      | some (b, n, some _) => some ⟨o, some (b, k, n)⟩
      | _ => none
/-- the cells of a line that stay, each with its reason -/
def keepL (k : Str) (n : Int) (ow : Int → Option Own) : Option Ver → List Cel → List (Cel × Rsn)
  | _, [] => []
  | be, c :: r => match reasonM k c.2 (ow c.1) be with
    | none => keepL k n ow be r
    | some y => (c, y) :: keepL k n ow (some (n, c.1, c.2)) r
def belowK (bs : List (Int × Br)) (k : Str) (ow : Int → Int → Option Own) : Nat → Int → Option Ver
  | 0, _ => none
  | f + 1, n => match (aget bs n).bind (·.ben), aget bs n with
    | some q, some b => match newC ((keepL k q (ow q) (belowK bs k ow f q) (lineAt bs q k)).map (·.1)) b.mom with
      | some c => some (q, c.1, c.2)
      | none => belowK bs k ow f q
    | _, _ => none
def owOf (os : List ((Int × Int) × Own)) (n b : Int) : Option Own := aget os (n, b)
def keptB (bs : List (Int × Br)) (k : Str) (os : List ((Int × Int) × Own)) (n : Int) : List (Cel × Rsn) :=
  keepL k n (owOf os n) (belowK bs k (owOf os) (n.toNat + 1) n) (lineAt bs n k)
def reasonsO (bs : List (Int × Br)) (k : Str) (os : List ((Int × Int) × Own)) : List ((Int × Int) × Rsn) :=
  bs.flatMap fun p => (keptB bs k os p.1).map fun c => ((p.1, c.1.1), c.2)
def reasonsM (S : Sh) (k : Str) : List ((Int × Int) × Rsn) := reasonsO S.brs k (ownersM S k)
/-! ## How it stands in the heap -/
abbrev Jud := Str → List ((Int × Int) × Own) × List ((Int × Int) × Rsn)
inductive Rl where
  | sh | brs | hns | jd
  | br (n : Int) | lns (n : Int) | mks (n : Int) | ln (n : Int) (k : Str)
  | hn (n : Int) | dr (n : Int)
  | jg (k : Str) | ow (k : Str) | rs (k : Str)
  deriving DecidableEq
/-- the dicts of instances; which branches' lines are locked while a loop walks them -/
structure Dl where
  d : Rl → Addr
  fz : Int → Option Obj
instance : CoeFun Dl (fun _ => Rl → Addr) := ⟨Dl.d⟩
def Dl.Thaw (δ : Dl) : Prop := ∀ n, δ.fz n = none
def thw : Option Obj → HO → HO
  | none, u => u
  | some o, u => .frz o u
structure Cs where
  S : Addr
  B : Addr
  N : Addr
  J : Addr
def fSh (S : Sh) (α : Rl → Addr) : List (Str × V) :=
  [("now", .int S.now), ("branches", .ref (α .brs)), ("branches_made", .int S.bm), ("hands", .ref (α .hns)), ("hands_made", .int S.hm), ("judged", .ref (α .jd))]
def fBr (n : Int) (b : Br) (α : Rl → Addr) : List (Str × V) :=
  [("beneath", optV b.ben), ("moment", .int b.mom), ("alive", .bl b.alive), ("lines", .ref (α (.lns n))), ("marks", .ref (α (.mks n)))]
def fHn (n : Int) (h : Hn) (α : Rl → Addr) : List (Str × V) := [("branch", .int h.br), ("moment", .int h.mom), ("drafts", .ref (α (.dr n)))]
def fJg (k : Str) (α : Rl → Addr) : List (Str × V) := [("owners", .ref (α (.ow k))), ("reasons", .ref (α (.rs k)))]
/-- tuples, which never change -/
def Tups (H H' : Hp) : Prop := ∀ a xs, H a = some (.tup xs) → H' a = some (.tup xs)
theorem Tups.refl (H : Hp) : Tups H H := fun _ _ h => h
theorem Tups.trans {H H1 H2 : Hp} (a : Tups H H1) (b : Tups H1 H2) : Tups H H2 := fun c xs h => b c xs (a c xs h)
theorem Tups.of {H H' : Hp} (s : Same H H') : Tups H H' := fun a xs h => s a _ h
def CelAt (H : Hp) (v : V) (c : Cel) : Prop := ∃ t, v = .ref t ∧ H t = some (.tup [.int c.1, optV c.2])
def OwnAt (H : Hp) (v : V) (o : Own) : Prop := ∃ t, v = .ref t ∧ H t = some (.tup [.str o.1, .int o.2])
def RsnAt (H : Hp) (v : V) (r : Rsn) : Prop := ∃ t, v = .ref t ∧ match r.ben with
  | none => ∃ o, H t = some (.tup [o]) ∧ OwnAt H o r.own
  | some b => ∃ o q, H t = some (.tup [o, .ref q]) ∧ OwnAt H o r.own ∧ H q = some (.tup [.int b.1, .str b.2.1, .int b.2.2])
def cellKey (p : Int × Int) : List Key := [.inl p.1, .inl p.2]
def OwRep (H : Hp) : List (List Key × V) → List ((Int × Int) × Own) → Prop := Paired fun e o => e.1 = cellKey o.1 ∧ OwnAt H e.2 o.2
def RsRep (H : Hp) : List (List Key × V) → List ((Int × Int) × Rsn) → Prop := Paired fun e o => e.1 = cellKey o.1 ∧ RsnAt H e.2 o.2
def Cels (H : Hp) : List V → List Cel → Prop := Paired (CelAt H)
theorem CelAt.tups {H H' : Hp} (t : Tups H H') {v : V} {c : Cel} (h : CelAt H v c) : CelAt H' v c := by
  obtain ⟨a, e, q⟩ := h
  exact ⟨a, e, t _ _ q⟩
theorem OwnAt.tups {H H' : Hp} (t : Tups H H') {v : V} {c : Own} (h : OwnAt H v c) : OwnAt H' v c := by
  obtain ⟨a, e, q⟩ := h
  exact ⟨a, e, t _ _ q⟩
theorem RsnAt.tups {H H' : Hp} (t : Tups H H') {v : V} {r : Rsn} (h : RsnAt H v r) : RsnAt H' v r := by
  obtain ⟨a, e, q⟩ := h
  refine ⟨a, e, ?_⟩
  cases hb : r.ben with
  | none =>
    rw [hb] at q
    obtain ⟨o, q1, q2⟩ := q
    exact ⟨o, t _ _ q1, q2.tups t⟩
  | some b =>
    rw [hb] at q
    obtain ⟨o, d, q1, q2, q3⟩ := q
    exact ⟨o, d, t _ _ q1, q2.tups t, t _ _ q3⟩
theorem Cels.tups {H H' : Hp} (t : Tups H H') {vs : List V} {l : List Cel} (h : Cels H vs l) : Cels H' vs l := Paired.mapP h fun _ _ z => z.tups t
theorem OwRep.tups {H H' : Hp} (t : Tups H H') {vs : List (List Key × V)} {l : List ((Int × Int) × Own)} (h : OwRep H vs l) : OwRep H' vs l := Paired.mapP h fun _ _ z => ⟨z.1, z.2.tups t⟩
theorem RsRep.tups {H H' : Hp} (t : Tups H H') {vs : List (List Key × V)} {l : List ((Int × Int) × Rsn)} (h : RsRep H vs l) : RsRep H' vs l := Paired.mapP h fun _ _ z => ⟨z.1, z.2.tups t⟩
def Live (S : Sh) (J : List Str) : Rl → Prop
  | .sh => True
  | .brs => True
  | .hns => True
  | .jd => True
  | .br n => ∃ b, aget S.brs n = some b
  | .lns n => ∃ b, aget S.brs n = some b
  | .mks n => ∃ b, aget S.brs n = some b
  | .ln n k => ∃ b l, aget S.brs n = some b ∧ aget b.lines k = some l
  | .hn n => ∃ h, aget S.hns n = some h
  | .dr n => ∃ h, aget S.hns n = some h
  | .jg k => k ∈ J
  | .ow k => k ∈ J
  | .rs k => k ∈ J
/-- what stands at a role's address -/
def Cont (T : Cs) (S : Sh) (α : Rl → Addr) (δ : Dl) (J : List Str) (G : Jud) (H : Hp) : Rl → HO → Prop
  | .sh, o => o = .ins T.S (δ .sh) (fSh S α)
  | .brs, o => o = .dK (enc .inl (fun n _ => .ref (α (.br n))) S.brs)
  | .hns, o => o = .dK (enc .inl (fun n _ => .ref (α (.hn n))) S.hns)
  | .jd, o => o = .dK (J.map fun k => (.inr k, .ref (α (.jg k))))
  | .br n, o => ∃ b, aget S.brs n = some b ∧ o = .ins T.B (δ (.br n)) (fBr n b α)
  | .lns n, o => ∃ b, aget S.brs n = some b ∧ o = thw (δ.fz n) (.dK (enc .inr (fun k _ => .ref (α (.ln n k))) b.lines))
  | .mks n, o => ∃ b, aget S.brs n = some b ∧ o = .dK (enc .inr (fun _ m => .int m) b.marks)
  | .ln n k, o => ∃ b l rs, aget S.brs n = some b ∧ aget b.lines k = some l ∧ o = .lst rs ∧ Cels H rs l
  | .hn n, o => ∃ h, aget S.hns n = some h ∧ o = .ins T.N (δ (.hn n)) (fHn n h α)
  | .dr n, o => ∃ h, aget S.hns n = some h ∧ o = .dK (enc .inr (fun _ v => optV v) h.drafts)
  | .jg k, o => k ∈ J ∧ o = .ins T.J (δ (.jg k)) (fJg k α)
  | .ow k, o => k ∈ J ∧ ∃ e, o = .dT e ∧ OwRep H e (G k).1
  | .rs k, o => k ∈ J ∧ ∃ e, o = .dT e ∧ RsRep H e (G k).2
theorem Cont.live {T : Cs} {S : Sh} {α : Rl → Addr} {δ : Dl} {J : List Str} {G : Jud} {H : Hp} : ∀ {r : Rl} {o : HO}, Cont T S α δ J G H r o → Live S J r
  | .sh, _, _ => trivial
  | .brs, _, _ => trivial
  | .hns, _, _ => trivial
  | .jd, _, _ => trivial
  | .br _, _, ⟨b, h, _⟩ => ⟨b, h⟩
  | .lns _, _, ⟨b, h, _⟩ => ⟨b, h⟩
  | .mks _, _, ⟨b, h, _⟩ => ⟨b, h⟩
  | .ln _ _, _, ⟨b, l, _, h, h', _⟩ => ⟨b, l, h, h'⟩
  | .hn _, _, ⟨b, h, _⟩ => ⟨b, h⟩
  | .dr _, _, ⟨b, h, _⟩ => ⟨b, h⟩
  | .jg _, _, h => h.1
  | .ow _, _, h => h.1
  | .rs _, _, h => h.1
theorem Cont.tups {T : Cs} {S : Sh} {α : Rl → Addr} {δ : Dl} {J : List Str} {G : Jud} {H H' : Hp} (t : Tups H H') : ∀ {r : Rl} {o : HO}, Cont T S α δ J G H r o → Cont T S α δ J G H' r o
  | .sh, _, h => h
  | .brs, _, h => h
  | .hns, _, h => h
  | .jd, _, h => h
  | .br _, _, h => h
  | .lns _, _, h => h
  | .mks _, _, h => h
  | .ln _ _, _, ⟨b, l, rs, h, h', h2, h3⟩ => ⟨b, l, rs, h, h', h2, h3.tups t⟩
  | .hn _, _, h => h
  | .dr _, _, h => h
  | .jg _, _, h => h
  | .ow _, _, ⟨h, e, h1, h2⟩ => ⟨h, e, h1, h2.tups t⟩
  | .rs _, _, ⟨h, e, h1, h2⟩ => ⟨h, e, h1, h2.tups t⟩
theorem thw_tup {x : Option Obj} {kvs : List (Key × V)} {xs : List V} (h : HO.tup xs = thw x (.dK kvs)) : False := by cases x <;> cases h
theorem thw_tbl {x : Option Obj} {kvs : List (Key × V)} {ps : Array Value} (h : HO.tbl ps = thw x (.dK kvs)) : False := by cases x <;> cases h
theorem Cont.notup {T : Cs} {S : Sh} {α : Rl → Addr} {δ : Dl} {J : List Str} {G : Jud} {H : Hp} {xs : List V} : ∀ {r : Rl}, ¬ Cont T S α δ J G H r (.tup xs)
  | .sh, h => by cases h
  | .brs, h => by cases h
  | .hns, h => by cases h
  | .jd, h => by cases h
  | .br _, ⟨_, _, h⟩ => by cases h
  | .lns _, ⟨_, _, h⟩ => thw_tup h
  | .mks _, ⟨_, _, h⟩ => by cases h
  | .ln _ _, ⟨_, _, _, _, _, h, _⟩ => by cases h
  | .hn _, ⟨_, _, h⟩ => by cases h
  | .dr _, ⟨_, _, h⟩ => by cases h
  | .jg _, ⟨_, h⟩ => by cases h
  | .ow _, ⟨_, _, h, _⟩ => by cases h
  | .rs _, ⟨_, _, h, _⟩ => by cases h
/-- the shelf S stands in H, its parts at α -/
structure Lay (T : Cs) (H : Hp) (S : Sh) (α : Rl → Addr) (δ : Dl) (J : List Str) (G : Jud) : Prop where
  at_ : ∀ r, Live S J r → ∃ o, H (α r) = some o ∧ Cont T S α δ J G H r o
  inj : ∀ r r', Live S J r → Live S J r' → α r = α r' → r = r'
section
variable {T : Cs} {H H' : Hp} {S S' : Sh} {α α' : Rl → Addr} {δ δ' : Dl} {J J' : List Str} {G G' : Jud}
theorem Lay.ne (L : Lay T H S α δ J G) {r r' : Rl} (h : Live S J r) (h' : Live S J r') (n : r ≠ r') : α r ≠ α r' := fun e => n (L.inj r r' h h' e)
theorem Lay.there (L : Lay T H S α δ J G) {r : Rl} (h : Live S J r) : ∃ o, H (α r) = some o := let ⟨o, e, _⟩ := L.at_ r h; ⟨o, e⟩
theorem Lay.sh (L : Lay T H S α δ J G) : H (α .sh) = some (.ins T.S (δ .sh) (fSh S α)) := by
  obtain ⟨o, e, c⟩ := L.at_ .sh trivial
  cases c; exact e
theorem Lay.brs (L : Lay T H S α δ J G) : H (α .brs) = some (.dK (enc .inl (fun n _ => .ref (α (.br n))) S.brs)) := by
  obtain ⟨o, e, c⟩ := L.at_ .brs trivial
  cases c; exact e
theorem Lay.hns (L : Lay T H S α δ J G) : H (α .hns) = some (.dK (enc .inl (fun n _ => .ref (α (.hn n))) S.hns)) := by
  obtain ⟨o, e, c⟩ := L.at_ .hns trivial
  cases c; exact e
theorem Lay.jd (L : Lay T H S α δ J G) : H (α .jd) = some (.dK (J.map fun k => (.inr k, .ref (α (.jg k))))) := by
  obtain ⟨o, e, c⟩ := L.at_ .jd trivial
  cases c; exact e
theorem Lay.br (L : Lay T H S α δ J G) {n : Int} {b : Br} (h : aget S.brs n = some b) : H (α (.br n)) = some (.ins T.B (δ (.br n)) (fBr n b α)) := by
  obtain ⟨o, e, b', h', c⟩ := L.at_ (.br n) ⟨b, h⟩
  rw [h] at h'; cases h'; cases c; exact e
theorem Lay.lns (L : Lay T H S α δ J G) {n : Int} {b : Br} (h : aget S.brs n = some b) : H (α (.lns n)) = some (thw (δ.fz n) (.dK (enc .inr (fun k _ => .ref (α (.ln n k))) b.lines))) := by
  obtain ⟨o, e, b', h', c⟩ := L.at_ (.lns n) ⟨b, h⟩
  rw [h] at h'; cases h'; cases c; exact e
theorem Lay.lnsR (L : Lay T H S α δ J G) {n : Int} {b : Br} (h : aget S.brs n = some b) : Rd H (α (.lns n)) (.dK (enc .inr (fun k _ => .ref (α (.ln n k))) b.lines)) := by
  have := L.lns h
  cases e : δ.fz n with
  | none => rw [e] at this; exact .inl this
  | some o => rw [e] at this; exact .inr ⟨o, this⟩
theorem Lay.lns0 (L : Lay T H S α δ J G) {n : Int} {b : Br} (h : aget S.brs n = some b) (z : δ.fz n = none) : H (α (.lns n)) = some (.dK (enc .inr (fun k _ => .ref (α (.ln n k))) b.lines)) := by
  have := L.lns h
  rw [z] at this; exact this
theorem Lay.mks (L : Lay T H S α δ J G) {n : Int} {b : Br} (h : aget S.brs n = some b) : H (α (.mks n)) = some (.dK (enc .inr (fun _ m => .int m) b.marks)) := by
  obtain ⟨o, e, b', h', c⟩ := L.at_ (.mks n) ⟨b, h⟩
  rw [h] at h'; cases h'; cases c; exact e
theorem Lay.ln (L : Lay T H S α δ J G) {n : Int} {b : Br} {k : Str} {l : List Cel} (h : aget S.brs n = some b) (hk : aget b.lines k = some l) : ∃ rs, H (α (.ln n k)) = some (.lst rs) ∧ Cels H rs l := by
  obtain ⟨o, e, b', l', rs, h', h2, c, d⟩ := L.at_ (.ln n k) ⟨b, l, h, hk⟩
  rw [h] at h'; cases h'; rw [hk] at h2; cases h2; cases c; exact ⟨rs, e, d⟩
theorem Lay.hn (L : Lay T H S α δ J G) {n : Int} {h : Hn} (e : aget S.hns n = some h) : H (α (.hn n)) = some (.ins T.N (δ (.hn n)) (fHn n h α)) := by
  obtain ⟨o, q, b', h', c⟩ := L.at_ (.hn n) ⟨h, e⟩
  rw [e] at h'; cases h'; cases c; exact q
theorem Lay.dr (L : Lay T H S α δ J G) {n : Int} {h : Hn} (e : aget S.hns n = some h) : H (α (.dr n)) = some (.dK (enc .inr (fun _ v => optV v) h.drafts)) := by
  obtain ⟨o, q, b', h', c⟩ := L.at_ (.dr n) ⟨h, e⟩
  rw [e] at h'; cases h'; cases c; exact q
theorem Lay.jg (L : Lay T H S α δ J G) {k : Str} (h : k ∈ J) : H (α (.jg k)) = some (.ins T.J (δ (.jg k)) (fJg k α)) := by
  obtain ⟨o, q, _, c⟩ := L.at_ (.jg k) h
  cases c; exact q
theorem Lay.ow (L : Lay T H S α δ J G) {k : Str} (h : k ∈ J) : ∃ e, H (α (.ow k)) = some (.dT e) ∧ OwRep H e (G k).1 := by
  obtain ⟨o, q, _, e, c, d⟩ := L.at_ (.ow k) h
  cases c; exact ⟨e, q, d⟩
theorem Lay.rs (L : Lay T H S α δ J G) {k : Str} (h : k ∈ J) : ∃ e, H (α (.rs k)) = some (.dT e) ∧ RsRep H e (G k).2 := by
  obtain ⟨o, q, _, e, c, d⟩ := L.at_ (.rs k) h
  cases c; exact ⟨e, q, d⟩
/-- from one heap and state to the next: each role is an old one whose content is kept, or is shown anew -/
theorem Lay.move (L : Lay T H S α δ J G) (ht : Tups H H')
    (hc : ∀ r, Live S' J' r → (Live S J r ∧ α' r = α r ∧ H' (α r) = H (α r) ∧ ∀ o, Cont T S α δ J G H r o → Cont T S' α' δ' J' G' H r o) ∨ ∃ o, H' (α' r) = some o ∧ Cont T S' α' δ' J' G' H' r o)
    (hi : ∀ r r', Live S' J' r → Live S' J' r' → α' r = α' r' → r = r') : Lay T H' S' α' δ' J' G' := by
  refine ⟨fun r hr => ?_, hi⟩
  rcases hc r hr with ⟨h1, h2, h3, h4⟩ | h
  · obtain ⟨o, e, c⟩ := L.at_ r h1
    exact ⟨o, by rw [h2, h3]; exact e, (h4 o c).tups ht⟩
  · exact h
/-- nothing of the shelf is touched -/
theorem Lay.keep (L : Lay T H S α δ J G) (ht : Tups H H') (k : ∀ r, Live S J r → H' (α r) = H (α r)) : Lay T H' S α δ J G :=
  L.move ht (fun r hr => .inl ⟨hr, rfl, k r hr, fun _ c => c⟩) L.inj
theorem Lay.same (L : Lay T H S α δ J G) (s : Same H H') : Lay T H' S α δ J G :=
  L.keep (Tups.of s) fun r hr => by
    obtain ⟨o, e⟩ := L.there hr
    rw [e]; exact s _ _ e
/-! ### footprints -/
def Foot (S : Sh) (α : Rl → Addr) (J : List Str) : Addr → Prop := fun a => ∃ r, Live S J r ∧ α r = a
/-- no code object's table -/
def NT (o : HO) : Prop := ∀ ps, o ≠ .tbl ps
/-- all that stood stands, tables may have grown -/
structure Sm (H H' : Hp) : Prop where
  keep : ∀ b o, H b = some o → NT o → H' b = some o
  tab : ∀ P, GxR.TabG H P → GxR.TabG H' P
  tbl : ∀ b ps, H b = some (.tbl ps) → ∃ qs, H' b = some (.tbl qs)
theorem Sm.refl (H : Hp) : Sm H H := ⟨fun _ _ h _ => h, fun _ h => h, fun _ ps h => ⟨ps, h⟩⟩
theorem Sm.trans {H1 H2 H3 : Hp} (a : Sm H1 H2) (b : Sm H2 H3) : Sm H1 H3 := ⟨fun c o h n => b.keep c o (a.keep c o h n) n, fun P h => b.tab P (a.tab P h), fun c ps h =>
  let ⟨qs, h'⟩ := a.tbl c ps h
  b.tbl c qs h'⟩
theorem Sm.of {H H' : Hp} (s : Same H H') : Sm H H' := ⟨fun b o h _ => s b o h, fun P ⟨ps, h, t⟩ => ⟨ps, s P _ h, t⟩, fun b ps h => ⟨ps, s b _ h⟩⟩
theorem Sm.tups {H H' : Hp} (s : Sm H H') : Tups H H' := fun a xs h => s.keep a _ h (fun _ z => by cases z)
theorem Sm.tabbed {P : Addr} {H H' : Hp} (h : GxR.TabG H P) (t : GxR.Tabbed P H H') : Sm H H' := by
  obtain ⟨ps, hP, _⟩ := h
  refine ⟨fun b o e n => ?_, fun Q hQ => ?_, fun b qs e => ?_⟩
  · rw [t.2 b (fun z => by subst z; rw [hP] at e; exact n ps (Option.some.inj e).symm)]; exact e
  · by_cases z : Q = P
    · rw [z]; exact t.1
    · obtain ⟨qs, e, q⟩ := hQ
      exact ⟨qs, by rw [t.2 Q z]; exact e, q⟩
  · by_cases z : b = P
    · obtain ⟨rs, r, _⟩ := t.1
      exact ⟨rs, by rw [z]; exact r⟩
    · exact ⟨qs, by rw [t.2 b z]; exact e⟩
theorem Sm.new {H : Hp} {p : Addr} {o : HO} (h : H p = none) : Sm H (upd H p o) := Sm.of fun b u e => by rw [upd_ne (ne_of_none e h)]; exact e
theorem Sm.lst {H H' : Hp} (s : Sm H H') {a : Addr} {xs : List V} (h : H a = some (.lst xs)) : H' a = some (.lst xs) := s.keep _ _ h fun _ z => by cases z
theorem Sm.dK {H H' : Hp} (s : Sm H H') {a : Addr} {xs : List (Key × V)} (h : H a = some (.dK xs)) : H' a = some (.dK xs) := s.keep _ _ h fun _ z => by cases z
theorem Sm.dT {H H' : Hp} (s : Sm H H') {a : Addr} {xs : List (List Key × V)} (h : H a = some (.dT xs)) : H' a = some (.dT xs) := s.keep _ _ h fun _ z => by cases z
theorem Sm.ins {H H' : Hp} (s : Sm H H') {a C d : Addr} {xs : List (Str × V)} (h : H a = some (.ins C d xs)) : H' a = some (.ins C d xs) := s.keep _ _ h fun _ z => by cases z
theorem Sm.seq {K : PySem.W.Frag} {H H' : Hp} (s : Sm H H') {a : Addr} {xs : List V} (h : SqL K H a xs) : SqL K H' a xs := by
  rcases h with (h | ⟨o, h⟩) | h
  · exact .inl (.inl (s.lst h))
  · exact .inl (.inr ⟨o, s.keep _ _ h fun _ z => by cases z⟩)
  · exact .inr h
theorem Sm.rd {H H' : Hp} (s : Sm H H') {a : Addr} {xs : List (Key × V)} (h : Rd H a (.dK xs)) : Rd H' a (.dK xs) := by
  rcases h with h | ⟨o, h⟩
  · exact .inl (s.dK h)
  · exact .inr ⟨o, s.keep _ _ h fun _ z => by cases z⟩
theorem Sm.free {H H' : Hp} (s : Sm H H') {p : Addr} (h : H' p = none) : H p = none := by
  cases e : H p with
  | none => rfl
  | some o =>
    by_cases n : NT o
    · rw [s.keep p o e n] at h; cases h
    · have : ∃ ps, o = .tbl ps := Classical.byContradiction fun z => n fun ps y => z ⟨ps, y⟩
      obtain ⟨ps, rfl⟩ := this
      obtain ⟨qs, q⟩ := s.tbl p ps e
      rw [q] at h; cases h
/-- what stood outside the footprint stands as it was, and outside the new one -/
structure Step (H : Hp) (F : Addr → Prop) (H' : Hp) (F' : Addr → Prop) : Prop where
  keep : ∀ a o, H a = some o → NT o → ¬ F a → H' a = some o ∧ ¬ F' a
  tab : ∀ P, GxR.TabG H P → GxR.TabG H' P
  tups : Tups H H'
theorem Step.refl (H : Hp) (F : Addr → Prop) : Step H F H F := ⟨fun _ _ h _ n => ⟨h, n⟩, fun _ h => h, Tups.refl H⟩
theorem Step.trans {H1 H2 H3 : Hp} {F1 F2 F3 : Addr → Prop} (a : Step H1 F1 H2 F2) (b : Step H2 F2 H3 F3) : Step H1 F1 H3 F3 := ⟨fun c o h t n =>
  let ⟨h', n'⟩ := a.keep c o h t n
  b.keep c o h' t n', fun P h => b.tab P (a.tab P h), a.tups.trans b.tups⟩
theorem Step.sm {H H' : Hp} {F : Addr → Prop} (s : Sm H H') : Step H F H' F := ⟨fun a o h t n => ⟨s.keep a o h t, n⟩, s.tab, s.tups⟩
/-- the cache is right -/
def Right (S : Sh) (J : List Str) (G : Jud) : Prop := ∀ k, k ∈ J → G k = (ownersM S k, reasonsM S k)
/-- .. and has judgements only of keys with versions -/
structure RightJ (S : Sh) (J : List Str) (G : Jud) : Prop where
  rt : Right S J G
  nd : J.Nodup
  ink : ∀ k ∈ J, ∃ n b, aget S.brs n = some b ∧ k ∈ b.lines.map (·.1)
theorem RightJ.nil {S : Sh} {G : Jud} : RightJ S [] G := ⟨fun k hk => (by cases hk), List.nodup_nil, fun k hk => (by cases hk)⟩
def ShAt (T : Cs) (H : Hp) (p : Addr) (S : Sh) (F : Addr → Prop) : Prop := ∃ α δ J G, α .sh = p ∧ F = Foot S α J ∧ Lay T H S α δ J G ∧ RightJ S J G ∧ δ.Thaw
theorem Cont.nt {T : Cs} {S : Sh} {α : Rl → Addr} {δ : Dl} {J : List Str} {G : Jud} {H : Hp} {ps : Array Value} : ∀ {r : Rl}, ¬ Cont T S α δ J G H r (.tbl ps)
  | .sh, h => by cases h
  | .brs, h => by cases h
  | .hns, h => by cases h
  | .jd, h => by cases h
  | .br _, ⟨_, _, h⟩ => by cases h
  | .lns _, ⟨_, _, h⟩ => thw_tbl h
  | .mks _, ⟨_, _, h⟩ => by cases h
  | .ln _ _, ⟨_, _, _, _, _, h, _⟩ => by cases h
  | .hn _, ⟨_, _, h⟩ => by cases h
  | .dr _, ⟨_, _, h⟩ => by cases h
  | .jg _, ⟨_, h⟩ => by cases h
  | .ow _, ⟨_, _, h, _⟩ => by cases h
  | .rs _, ⟨_, _, h, _⟩ => by cases h
theorem Lay.sm {T : Cs} {H H' : Hp} {S : Sh} {α : Rl → Addr} {δ : Dl} {J : List Str} {G : Jud} (L : Lay T H S α δ J G) (s : Sm H H') : Lay T H' S α δ J G :=
  L.keep s.tups fun r hr => by
    obtain ⟨o, e, c⟩ := L.at_ r hr
    rw [e]; exact s.keep _ _ e fun ps z => Cont.nt (z ▸ c)
theorem Lay.nofr {T : Cs} {H : Hp} {S : Sh} {α : Rl → Addr} {δ : Dl} {J : List Str} {G : Jud} (L : Lay T H S α δ J G) {p : Addr} (hp : H p = none) {r : Rl} (hr : Live S J r) : α r ≠ p := fun e => by
  obtain ⟨o, q⟩ := L.there hr
  rw [e, hp] at q; cases q
theorem Lay.step {T : Cs} {H H' : Hp} {S S' : Sh} {α α' : Rl → Addr} {δ : Dl} {J J' : List Str} {G : Jud} (L : Lay T H S α δ J G)
    (k : ∀ a o, H a = some o → (∀ r, Live S J r → α r ≠ a) → H' a = some o) (ht : Tups H H')
    (f : ∀ r, Live S' J' r → (Live S J r ∧ α' r = α r) ∨ H (α' r) = none) : Step H (Foot S α J) H' (Foot S' α' J') := by
  refine ⟨fun a o h _ n => ⟨k a o h fun r hr e => n ⟨r, hr, e⟩, fun ⟨r, hr, e⟩ => ?_⟩, fun P ⟨ps, h, t⟩ => ⟨ps, k P _ h fun r hr e => ?_, t⟩, ht⟩
  · rcases f r hr with ⟨h1, h2⟩ | h1
    · exact n ⟨r, h1, h2.symm.trans e⟩
    · rw [e, h] at h1; cases h1
  · obtain ⟨o, e1, c⟩ := L.at_ r hr
    rw [e, h] at e1; cases e1; exact Cont.nt c
/-- new roles at free, different addresses -/
theorem Lay.injOf {T : Cs} {H : Hp} {S S' : Sh} {α α' : Rl → Addr} {δ : Dl} {J J' : List Str} {G : Jud} (L : Lay T H S α δ J G)
    (f : ∀ r, Live S' J' r → (Live S J r ∧ α' r = α r) ∨ (H (α' r) = none ∧ ∀ r', Live S' J' r' → H (α' r') = none → α' r = α' r' → r = r')) :
    ∀ r r', Live S' J' r → Live S' J' r' → α' r = α' r' → r = r' := fun r r' h h' e => by
  rcases f r h with ⟨h1, h2⟩ | ⟨h1, h2⟩
  · rcases f r' h' with ⟨g1, g2⟩ | ⟨g1, g2⟩
    · exact L.inj r r' h1 g1 (by rw [← h2, ← g2]; exact e)
    · obtain ⟨o, q⟩ := L.there h1
      rw [← h2, e, g1] at q; cases q
  · rcases f r' h' with ⟨g1, g2⟩ | ⟨g1, g2⟩
    · obtain ⟨o, q⟩ := L.there g1
      rw [← g2, ← e, h1] at q; cases q
    · exact h2 r' h' g1 e
theorem enc_key {κ β : Type} (f : κ → Key) (g : κ → V) (l : List (κ × β)) : enc f (fun k _ => g k) l = (l.map (·.1)).map fun k => (f k, g k) := by
  unfold enc; rw [List.map_map]; rfl
end
end Vs
/-! ## Lines of cells, in order of birth -/
namespace Vs
open PySem L2
/-- births rise -/
def Rise (l : List Cel) : Prop := l.Pairwise fun a b => a.1 < b.1
def cnt (l : List Cel) (m : Int) : Nat := (l.filter fun c => decide (c.1 ≤ m)).length
theorem cnt_split : ∀ {l : List Cel} {m : Int} {j : Nat}, j ≤ l.length → (∀ i c, l[i]? = some c → i < j → c.1 ≤ m) → (∀ i c, l[i]? = some c → j ≤ i → ¬ c.1 ≤ m) → cnt l m = j
  | [], m, j, h, _, _ => by simp at h; subst h; rfl
  | c :: l, m, 0, h, h1, h2 => by
    unfold cnt
    rw [List.filter_eq_nil_iff.mpr]
    · rfl
    · intro x hx
      obtain ⟨i, hi, e⟩ := List.getElem_of_mem hx
      have := h2 i x (by rw [← e]; exact List.getElem?_eq_getElem hi) (Nat.zero_le _)
      simpa using this
  | c :: l, m, j + 1, h, h1, h2 => by
    have hc := h1 0 c rfl (Nat.zero_lt_succ _)
    unfold cnt
    rw [List.filter_cons, if_pos (by simpa using hc), List.length_cons]
    congr 1
    exact cnt_split (l := l) (j := j) (by simpa using h) (fun i x e hi => h1 (i + 1) x e (by omega)) (fun i x e hi => h2 (i + 1) x e (by omega))
theorem Rise.get {l : List Cel} (r : Rise l) {i j : Nat} {a b : Cel} (ha : l[i]? = some a) (hb : l[j]? = some b) (h : i < j) : a.1 < b.1 := by
  obtain ⟨hi, ei⟩ := List.getElem?_eq_some_iff.mp ha
  obtain ⟨hj, ej⟩ := List.getElem?_eq_some_iff.mp hb
  have := (List.pairwise_iff_getElem.mp r) i j hi hj h
  rw [ei, ej] at this; exact this
theorem cnt_le (l : List Cel) (m : Int) : cnt l m ≤ l.length := List.length_filter_le _ _
/-- the first ones are those born no later -/
theorem filter_take : ∀ {l : List Cel} {m : Int}, Rise l → (l.filter fun c => decide (c.1 ≤ m)) = l.take (cnt l m)
  | [], _, _ => rfl
  | c :: l, m, r => by
    obtain ⟨h1, h2⟩ := List.pairwise_cons.mp r
    by_cases e : c.1 ≤ m
    · unfold cnt
      rw [List.filter_cons, if_pos (by simpa using e), List.length_cons, List.take_succ_cons]
      congr 1
      exact filter_take h2
    · have z : (c :: l).filter (fun c => decide (c.1 ≤ m)) = [] := by
        rw [List.filter_eq_nil_iff]
        intro x hx
        rcases List.mem_cons.mp hx with y | y
        · subst y; simpa using e
        · have := h1 x y
          simp; omega
      unfold cnt
      rw [z]; rfl
theorem newC_none {l : List Cel} {m : Int} : newC l m = none ↔ cnt l m = 0 := by
  unfold newC cnt
  rw [List.getLast?_eq_none_iff]
  exact ⟨fun h => by rw [h]; rfl, fun h => List.length_eq_zero_iff.mp h⟩
theorem newC_at {l : List Cel} {m : Int} (r : Rise l) {j : Nat} (h : cnt l m = j + 1) : ∃ c, l[j]? = some c ∧ newC l m = some c ∧ c.1 ≤ m := by
  have hl := cnt_le l m
  have hj : j < l.length := by omega
  refine ⟨l[j], List.getElem?_eq_getElem hj, ?_, ?_⟩
  · unfold newC
    rw [filter_take r, h, List.getLast?_eq_getElem?, List.getElem?_take, List.length_take]
    have : min (j + 1) l.length - 1 = j := by omega
    rw [this, if_pos (by omega), List.getElem?_eq_getElem hj]
  · have hm : l[j] ∈ l.filter fun c => decide (c.1 ≤ m) := by
      rw [filter_take r, h]
      exact List.mem_of_getElem? (i := j) (by rw [List.getElem?_take, if_pos (by omega), List.getElem?_eq_getElem hj])
    simpa using (List.mem_filter.mp hm).2
end Vs
/-! ## What holds of a shelf between two calls -/
namespace Vs
open PySem L2
def isLow (c : Nat) : Bool := decide (97 ≤ c ∧ c ≤ 122)
def IsKey (k : Str) : Prop := 1 ≤ k.length ∧ k.length ≤ 8 ∧ k.cps.toList.all isLow = true
/-- how much there is at most -/
structure Cap (c : Nat) (S : Sh) : Prop where
  h : S.hns.length ≤ c
  b : S.brs.length ≤ c
  l : ∀ n b k l, aget S.brs n = some b → aget b.lines k = some l → l.length ≤ c
theorem Cap.mono {c d : Nat} {S : Sh} (h : Cap c S) (e : c ≤ d) : Cap d S := ⟨Nat.le_trans h.h e, Nat.le_trans h.b e, fun n b k l h1 h2 => Nat.le_trans (h.l n b k l h1 h2) e⟩
structure WF (Ks : List Str) (S : Sh) : Prop where
  bks : (S.brs.map (·.1)).Pairwise (· < ·)
  b0 : ∃ b, aget S.brs 0 = some b
  root : ∀ n b, aget S.brs n = some b → (b.ben = none ↔ n = 0)
  ben : ∀ n b q, aget S.brs n = some b → b.ben = some q → q < n ∧ ∃ c, aget S.brs q = some c
  bnd : ∀ n b, aget S.brs n = some b → 0 ≤ n ∧ n < S.bm ∧ 0 ≤ b.mom ∧ b.mom ≤ S.now
  lks : ∀ n b, aget S.brs n = some b → (b.lines.map (·.1)).Nodup ∧ ∀ k ∈ b.lines.map (·.1), k ∈ Ks
  ln : ∀ n b k l, aget S.brs n = some b → aget b.lines k = some l → Rise l ∧ l ≠ [] ∧ ∀ c ∈ l, 1 ≤ c.1 ∧ c.1 ≤ S.now
  mks : ∀ n b, aget S.brs n = some b → (b.marks.map (·.1)).Nodup ∧ ∀ k ∈ b.marks.map (·.1), k ∈ Ks
  mkb : ∀ n b k m, aget S.brs n = some b → aget b.marks k = some m → 1 ≤ m ∧ m ≤ S.now
  hks : (S.hns.map (·.1)).Pairwise (· < ·)
  hn : ∀ n h, aget S.hns n = some h → 0 ≤ n ∧ n < S.hm ∧ (∃ b, aget S.brs h.br = some b) ∧ 0 ≤ h.mom ∧ h.mom ≤ S.now
  dks : ∀ n h, aget S.hns n = some h → (h.drafts.map (·.1)).Nodup ∧ ∀ k ∈ h.drafts.map (·.1), k ∈ Ks
  key : ∀ k ∈ Ks, IsKey k
  pool : Ks.length ≤ 60
  sz : 0 ≤ S.now ∧ S.now ≤ 10 ^ 18 ∧ S.bm ≤ 10 ^ 18 ∧ S.hm ≤ 10 ^ 18
  cap : Cap 1000 S
theorem nodup_of_lt {l : List Int} (h : l.Pairwise (· < ·)) : l.Nodup := h.imp fun z => by omega
/-- what one turn of the way down is -/
def under (bs : List (Int × Br)) (k : Str) (n m : Int) (down : Int → Int → Option Ver) : Option Ver := match newC (lineAt bs n k) m with
  | some c => some (n, c.1, c.2)
  | none => match aget bs n with
    | none => none
    | some b => match b.ben with
      | none => none
      | some q => down q b.mom
theorem reach_succ (bs : List (Int × Br)) (k : Str) (f : Nat) (n m : Int) : reach bs k (f + 1) n m = under bs k n m (reach bs k f) := by
  show (match newC (lineAt bs n k) m with | some c => some (n, c.1, c.2) | none => _) = _
  unfold under
  cases newC (lineAt bs n k) m with
  | some c => rfl
  | none =>
    dsimp only
    cases hb : aget bs n with
    | none => rfl
    | some b =>
      cases hq : b.ben <;> simp [hq]
theorem reach_fuel {Ks : List Str} {S : Sh} (W : WF Ks S) (k : Str) : ∀ (f g : Nat) (n m : Int), n.toNat < f → n.toNat < g → reach S.brs k f n m = reach S.brs k g n m
  | 0, _, _, _, h, _ => absurd h (Nat.not_lt_zero _)
  | _ + 1, 0, _, _, _, h => absurd h (Nat.not_lt_zero _)
  | f + 1, g + 1, n, m, hf, hg => by
    rw [reach_succ, reach_succ]
    unfold under
    cases newC (lineAt S.brs n k) m with
    | some c => rfl
    | none =>
      dsimp only
      cases hb : aget S.brs n with
      | none => rfl
      | some b =>
        dsimp only
        cases hq : b.ben with
        | none => rfl
        | some q =>
          have h1 := (W.ben n b q hb hq).1
          obtain ⟨c, hc⟩ := (W.ben n b q hb hq).2
          have h2 := (W.bnd q c hc).1
          exact reach_fuel W k f g q b.mom (by omega) (by omega)
/-- the document's point 5, one step -/
theorem reachS_eq {Ks : List Str} {S : Sh} (W : WF Ks S) (k : Str) (n m : Int) : reachS S.brs k n m = under S.brs k n m (reachS S.brs k) := by
  unfold reachS
  rw [reach_succ]
  unfold under
  cases newC (lineAt S.brs n k) m with
  | some c => rfl
  | none =>
    dsimp only
    cases hb : aget S.brs n with
    | none => rfl
    | some b =>
      dsimp only
      cases hq : b.ben with
      | none => rfl
      | some q =>
        have h1 := (W.ben n b q hb hq).1
        obtain ⟨c, hc⟩ := (W.ben n b q hb hq).2
        have h2 := (W.bnd q c hc).1
        exact reach_fuel W k _ _ q b.mom (by omega) (by omega)
theorem lineAt_of {bs : List (Int × Br)} {n : Int} {b : Br} (h : aget bs n = some b) (k : Str) : lineAt bs n k = b.line k := by unfold lineAt; rw [h]
theorem WF.rise {Ks : List Str} {S : Sh} (W : WF Ks S) {n : Int} {b : Br} (h : aget S.brs n = some b) (k : Str) : Rise (b.line k) := by
  unfold Br.line
  cases e : aget b.lines k with
  | none => exact List.Pairwise.nil
  | some l => exact (W.ln n b k l h e).1
/-- what a view sees -/
def seesM (S : Sh) (k : Str) (n m : Int) : Option Int := (reachS S.brs k n m).bind (·.2.2)
def belowS (S : Sh) (k : Str) (b : Br) : Option Ver := match b.ben with
  | none => none
  | some q => reachS S.brs k q b.mom
theorem reachS_of {Ks : List Str} {S : Sh} (W : WF Ks S) (k : Str) {n : Int} (m : Int) {b : Br} (h : aget S.brs n = some b) : reachS S.brs k n m = match newC (b.line k) m with
    | some c => some (n, c.1, c.2)
    | none => belowS S k b := by
  rw [reachS_eq W, under, lineAt_of h, h]
  rfl
/-! ### the kept ones beneath -/
def belowK1 (bs : List (Int × Br)) (k : Str) (ow : Int → Int → Option Own) (n : Int) (down : Int → Option Ver) : Option Ver := match aget bs n with
  | none => none
  | some b => match b.ben with
    | none => none
    | some q => match newC ((keepL k q (ow q) (down q) (lineAt bs q k)).map (·.1)) b.mom with
      | some c => some (q, c.1, c.2)
      | none => down q
theorem belowK_succ (bs : List (Int × Br)) (k : Str) (ow : Int → Int → Option Own) (f : Nat) (n : Int) : belowK bs k ow (f + 1) n = belowK1 bs k ow n (belowK bs k ow f) := by
  unfold belowK1
  show (match (aget bs n).bind (·.ben), aget bs n with | some q, some b => _ | _, _ => none) = _
  cases hb : aget bs n with
  | none => rfl
  | some b =>
    cases hq : b.ben <;> simp [hq] <;> rfl
theorem belowK_fuel {Ks : List Str} {S : Sh} (W : WF Ks S) (k : Str) (ow : Int → Int → Option Own) : ∀ (f g : Nat) (n : Int), n.toNat < f → n.toNat < g → belowK S.brs k ow f n = belowK S.brs k ow g n
  | 0, _, _, h, _ => absurd h (Nat.not_lt_zero _)
  | _ + 1, 0, _, _, h => absurd h (Nat.not_lt_zero _)
  | f + 1, g + 1, n, hf, hg => by
    rw [belowK_succ, belowK_succ]
    unfold belowK1
    cases hb : aget S.brs n with
    | none => rfl
    | some b =>
      dsimp only
      cases hq : b.ben with
      | none => rfl
      | some q =>
        have h1 := (W.ben n b q hb hq).1
        obtain ⟨c, hc⟩ := (W.ben n b q hb hq).2
        have h2 := (W.bnd q c hc).1
        dsimp only
        rw [belowK_fuel W k ow f g q (by omega) (by omega)]
def belowKS (bs : List (Int × Br)) (k : Str) (os : List ((Int × Int) × Own)) (n : Int) : Option Ver := belowK bs k (owOf os) (n.toNat + 1) n
theorem keptB_eq (bs : List (Int × Br)) (k : Str) (os : List ((Int × Int) × Own)) (n : Int) : keptB bs k os n = keepL k n (owOf os n) (belowKS bs k os n) (lineAt bs n k) := rfl
theorem belowKS_eq {Ks : List Str} {S : Sh} (W : WF Ks S) (k : Str) (os : List ((Int × Int) × Own)) {n : Int} {b : Br} (hb : aget S.brs n = some b) : belowKS S.brs k os n = match b.ben with
    | none => none
    | some q => match newC ((keptB S.brs k os q).map (·.1)) b.mom with
      | some c => some (q, c.1, c.2)
      | none => belowKS S.brs k os q := by
  show belowK _ _ _ _ _ = _
  rw [belowK_succ, belowK1, hb]
  dsimp only
  cases hq : b.ben with
  | none => rfl
  | some q =>
    have h1 := (W.ben n b q hb hq).1
    obtain ⟨c, hc⟩ := (W.ben n b q hb hq).2
    have h2 := (W.bnd q c hc).1
    dsimp only
    rw [belowK_fuel W k (owOf os) n.toNat (q.toNat + 1) q (by omega) (by omega)]
    rfl
end Vs
/-! ## Changes of a shelf that stands in the heap, one store at a time -/
namespace Vs
open PySem L2
section
variable {T : Cs} {H H' : Hp} {S S' : Sh} {α α' : Rl → Addr} {δ δ' : Dl} {J J' : List Str} {G G' : Jud}
/-- behind a change: how the shelf stands, and that nothing else was touched -/
def Mv (T : Cs) (H : Hp) (S : Sh) (α : Rl → Addr) (J : List Str) (H' : Hp) (S' : Sh) (α' : Rl → Addr) (δ' : Dl) (J' : List Str) (G' : Jud) : Prop := Lay T H' S' α' δ' J' G' ∧ Step H (Foot S α J) H' (Foot S' α' J')
theorem Lay.notup (L : Lay T H S α δ J G) {r : Rl} (hr : Live S J r) {a : Addr} {xs : List V} (h : H a = some (.tup xs)) : a ≠ α r := fun e => by
  obtain ⟨o, q, c⟩ := L.at_ r hr
  rw [← e, h] at q; cases q; exact Cont.notup c
theorem Lay.updTups (L : Lay T H S α δ J G) {r : Rl} (hr : Live S J r) (o : HO) : Tups H (upd H (α r) o) := fun a xs h => by rw [upd_ne (L.notup hr h)]; exact h
theorem newTups {p : Addr} (hp : H p = none) (o : HO) : Tups H (upd H p o) := fun a xs h => by rw [upd_ne (ne_of_none h hp)]; exact h
/-- a store into one part -/
theorem Lay.put (L : Lay T H S α δ J G) {r0 : Rl} (l0 : Live S J r0) {o' : HO} (c' : Cont T S' α δ J' G' (upd H (α r0) o') r0 o')
    (ho : ∀ r, r ≠ r0 → Live S' J' r → Live S J r ∧ ∀ o, Cont T S α δ J G H r o → Cont T S' α δ J' G' H r o) : Mv T H S α J (upd H (α r0) o') S' α δ J' G' := by
  have lv : ∀ r, Live S' J' r → Live S J r := fun r hr => by
    by_cases e : r = r0
    · rw [e]; exact l0
    · exact (ho r e hr).1
  refine ⟨L.move (L.updTups l0 o') (fun r hr => ?_) (fun r r' h h' e => L.inj r r' (lv r h) (lv r' h') e), L.step (fun a o h n => ?_) (L.updTups l0 o') fun r hr => .inl ⟨lv r hr, rfl⟩⟩
  · by_cases e : r = r0
    · subst e
      exact .inr ⟨o', upd_same, c'⟩
    · obtain ⟨h1, h2⟩ := ho r e hr
      exact .inl ⟨h1, rfl, upd_ne (L.ne h1 l0 e), h2⟩
  · rw [upd_ne (Ne.symm (n r0 l0))]; exact h
/-- numbers of the shelf itself -/
theorem Lay.setSh (L : Lay T H S α δ J G) (now bm hm : Int) : Mv T H S α J (upd H (α .sh) (.ins T.S (δ .sh) (fSh { S with now := now, bm := bm, hm := hm } α))) { S with now := now, bm := bm, hm := hm } α δ J G := by
  refine L.put (r0 := .sh) trivial rfl fun r hr hl => ?_
  cases r <;> first | exact absurd rfl hr | exact ⟨hl, fun _ c => c⟩
/-- a draft -/
theorem Lay.draft (L : Lay T H S α δ J G) {n : Int} {h : Hn} (e : aget S.hns n = some h) (k : Str) (v : Option Int) :
    Mv T H S α J (upd H (α (.dr n)) (.dK (putK (enc .inr (fun _ v => optV v) h.drafts) (.inr k) (optV v)))) { S with hns := aput S.hns n { h with drafts := aput h.drafts k v } } α δ J G := by
  rw [putK_enc (g' := fun _ v => optV v) inr_inj h.drafts k v (optV v) rfl (fun _ _ _ => rfl)]
  have e' : aget (aput S.hns n { h with drafts := aput h.drafts k v }) n = some { h with drafts := aput h.drafts k v } := aget_put_same _ _ _
  refine L.put (r0 := .dr n) ⟨h, e⟩ ⟨_, e', rfl⟩ fun r hr hl => ?_
  cases r with
  | hns =>
    refine ⟨trivial, fun o c => ?_⟩
    rw [show o = _ from c]
    show HO.dK _ = HO.dK _
    rw [enc_key, enc_key, keys_aput_old _ e]
  | hn m =>
    obtain ⟨h', z⟩ := hl
    by_cases q : m = n
    · subst q
      rw [e'] at z; cases z
      exact ⟨⟨h, e⟩, fun o ⟨h2, e2, c⟩ => by rw [e] at e2; cases e2; exact ⟨_, e', c⟩⟩
    · rw [aget_put_ne q] at z
      exact ⟨⟨h', z⟩, fun o ⟨h2, e2, c⟩ => ⟨h2, by rw [aget_put_ne q]; exact e2, c⟩⟩
  | dr m =>
    obtain ⟨h', z⟩ := hl
    have q : m ≠ n := fun q => hr (by rw [q])
    rw [aget_put_ne q] at z
    exact ⟨⟨h', z⟩, fun o ⟨h2, e2, c⟩ => ⟨h2, by rw [aget_put_ne q]; exact e2, c⟩⟩
  | sh => exact ⟨hl, fun _ c => c⟩
  | brs => exact ⟨hl, fun _ c => c⟩
  | jd => exact ⟨hl, fun _ c => c⟩
  | br m => exact ⟨hl, fun _ c => c⟩
  | lns m => exact ⟨hl, fun _ c => c⟩
  | mks m => exact ⟨hl, fun _ c => c⟩
  | ln m k => exact ⟨hl, fun _ c => c⟩
  | jg k => exact ⟨hl, fun _ c => c⟩
  | ow k => exact ⟨hl, fun _ c => c⟩
  | rs k => exact ⟨hl, fun _ c => c⟩
/-- a hand lets go -/
theorem Lay.delHand (L : Lay T H S α δ J G) (n : Int) :
    Mv T H S α J (upd H (α .hns) (.dK (dropK (enc .inl (fun n _ => .ref (α (.hn n))) S.hns) (.inl n)))) { S with hns := adel S.hns n } α δ J G := by
  rw [dropK_enc inl_inj]
  have old : ∀ m h, aget (adel S.hns n) m = some h → aget S.hns m = some h := fun m h z => by
    rw [aget_del] at z
    by_cases q : m = n
    · rw [if_pos q] at z; cases z
    · rw [if_neg q] at z; exact z
  refine L.put (r0 := .hns) trivial rfl fun r hr hl => ?_
  cases r with
  | hns => exact absurd rfl hr
  | hn m =>
    obtain ⟨h', z⟩ := hl
    exact ⟨⟨h', old m h' z⟩, fun o ⟨h2, e2, c⟩ => ⟨h', z, by rw [old m h' z] at e2; cases e2; exact c⟩⟩
  | dr m =>
    obtain ⟨h', z⟩ := hl
    exact ⟨⟨h', old m h' z⟩, fun o ⟨h2, e2, c⟩ => ⟨h', z, by rw [old m h' z] at e2; cases e2; exact c⟩⟩
  | sh => exact ⟨hl, fun _ c => c⟩
  | brs => exact ⟨hl, fun _ c => c⟩
  | jd => exact ⟨hl, fun _ c => c⟩
  | br m => exact ⟨hl, fun _ c => c⟩
  | lns m => exact ⟨hl, fun _ c => c⟩
  | mks m => exact ⟨hl, fun _ c => c⟩
  | ln m k => exact ⟨hl, fun _ c => c⟩
  | jg k => exact ⟨hl, fun _ c => c⟩
  | ow k => exact ⟨hl, fun _ c => c⟩
  | rs k => exact ⟨hl, fun _ c => c⟩
/-- the judgements are void: a new empty dict -/
def aJd (α : Rl → Addr) (j : Addr) : Rl → Addr
  | .jd => j
  | r => α r
theorem Lay.void (L : Lay T H S α δ J G) {j : Addr} (hj : H j = none) :
    Mv T H S α J (upd (upd H j (.dK [])) (α .sh) (.ins T.S (δ .sh) (fSh S (aJd α j)))) S (aJd α j) δ [] G := by
  have nj : ∀ r, Live S J r → α r ≠ j := fun r hr => L.nofr hj hr
  have tp : Tups H (upd (upd H j (.dK [])) (α .sh) (.ins T.S (δ .sh) (fSh S (aJd α j)))) := fun a xs h => by
    rw [upd_ne (L.notup (r := .sh) trivial h), upd_ne (ne_of_none h hj)]; exact h
  have lv : ∀ r, Live S [] r → Live S J r := fun r hr => by cases r <;> first | exact hr | cases hr
  have old : ∀ r, Live S [] r → r ≠ .jd → aJd α j r = α r := fun r _ n => by cases r <;> first | rfl | exact absurd rfl n
  refine ⟨L.move tp (fun r hr => ?_) (L.injOf fun r hr => ?_), L.step (fun a o h n => ?_) tp fun r hr => ?_⟩
  · by_cases e1 : r = .jd
    · subst e1
      exact .inr ⟨_, by show upd _ _ _ j = _; rw [upd_ne (Ne.symm (nj .sh trivial)), upd_same]; rfl, rfl⟩
    · by_cases e2 : r = .sh
      · subst e2
        exact .inr ⟨_, upd_same, rfl⟩
      · refine .inl ⟨lv r hr, old r hr e1, ?_, fun o c => ?_⟩
        · rw [upd_ne (L.ne (r' := .sh) (lv r hr) trivial e2), upd_ne (nj r (lv r hr))]
        · cases r <;> first | exact absurd rfl e1 | exact absurd rfl e2 | exact c | cases hr
  · by_cases e1 : r = .jd
    · subst e1
      refine .inr ⟨hj, fun r' hr' h0 _ => ?_⟩
      by_cases e3 : r' = .jd
      · exact e3.symm
      · rw [old r' hr' e3] at h0
        obtain ⟨o, q⟩ := L.there (lv r' hr')
        rw [q] at h0; cases h0
    · exact .inl ⟨lv r hr, old r hr e1⟩
  · rw [upd_ne (Ne.symm (n .sh trivial)), upd_ne (ne_of_none h hj)]; exact h
  · by_cases e1 : r = .jd
    · subst e1; exact .inr hj
    · exact .inl ⟨lv r hr, old r hr e1⟩
/-- a new hand -/
def aHn (α : Rl → Addr) (n : Int) (x d : Addr) : Rl → Addr
  | .hn m => if m = n then x else α (.hn m)
  | .dr m => if m = n then d else α (.dr m)
  | r => α r
theorem Lay.newHand (L : Lay T H S α δ J G) {n br mom : Int} (hn : aget S.hns n = none) {x dx d : Addr} (hx : H x = none) (hd : H d = none) (nxd : x ≠ d) {H1 : Hp}
    (k1 : ∀ b o, H b = some o → H1 b = some o) (h1 : H1 x = some (.ins T.N dx [("branch", .int br), ("moment", .int mom), ("drafts", .ref d)])) (h2 : H1 d = some (.dK [])) :
    Mv T H S α J (upd H1 (α .hns) (.dK (putK (enc .inl (fun n _ => .ref (α (.hn n))) S.hns) (.inl n) (.ref x)))) { S with hns := S.hns ++ [(n, ⟨br, mom, []⟩)] } (aHn α n x d) ⟨fun r => if r = .hn n then dx else δ r, δ.fz⟩ J G := by
  have nf : ∀ r p, Live S J r → H p = none → α r ≠ p := fun r p hr hp => L.nofr hp hr
  have tp : Tups H (upd H1 (α .hns) (.dK (putK (enc .inl (fun n _ => .ref (α (.hn n))) S.hns) (.inl n) (.ref x)))) := fun a xs h => by
    rw [upd_ne (L.notup (r := .hns) trivial h)]; exact k1 _ _ h
  have got : ∀ m h, aget (S.hns ++ [(n, (⟨br, mom, []⟩ : Hn))]) m = some h → (m = n ∧ h = ⟨br, mom, []⟩) ∨ (m ≠ n ∧ aget S.hns m = some h) := fun m h z => by
    rw [aget_append, aget_cons, aget_nil] at z
    by_cases q : m = n
    · subst q
      rw [hn] at z
      simp at z
      exact .inl ⟨rfl, z.symm⟩
    · rw [if_neg (fun y => q y.symm)] at z
      refine .inr ⟨q, ?_⟩
      cases w : aget S.hns m with
      | none => rw [w] at z; cases z
      | some y => rw [w] at z; exact z
  have new : aget (S.hns ++ [(n, (⟨br, mom, []⟩ : Hn))]) n = some ⟨br, mom, []⟩ := by rw [← aput_new _ hn]; exact aget_put_same _ _ _
  have keep : ∀ m h, m ≠ n → aget S.hns m = some h → aget (S.hns ++ [(n, (⟨br, mom, []⟩ : Hn))]) m = some h := fun m h q z => by rw [← aput_new _ hn, aget_put_ne q]; exact z
  -- each role: a new one, or an old one at its place
  have cl : ∀ r, Live { S with hns := S.hns ++ [(n, ⟨br, mom, []⟩)] } J r → (r = .hn n ∨ r = .dr n) ∨ (Live S J r ∧ aHn α n x d r = α r) := fun r hr => by
    cases r with
    | hn m =>
      obtain ⟨h, z⟩ := hr
      rcases got m h z with ⟨q, _⟩ | ⟨q, z'⟩
      · exact .inl (.inl (by rw [q]))
      · exact .inr ⟨⟨h, z'⟩, if_neg q⟩
    | dr m =>
      obtain ⟨h, z⟩ := hr
      rcases got m h z with ⟨q, _⟩ | ⟨q, z'⟩
      · exact .inl (.inr (by rw [q]))
      · exact .inr ⟨⟨h, z'⟩, if_neg q⟩
    | sh => exact .inr ⟨hr, rfl⟩
    | brs => exact .inr ⟨hr, rfl⟩
    | hns => exact .inr ⟨hr, rfl⟩
    | jd => exact .inr ⟨hr, rfl⟩
    | br m => exact .inr ⟨hr, rfl⟩
    | lns m => exact .inr ⟨hr, rfl⟩
    | mks m => exact .inr ⟨hr, rfl⟩
    | ln m k => exact .inr ⟨hr, rfl⟩
    | jg k => exact .inr ⟨hr, rfl⟩
    | ow k => exact .inr ⟨hr, rfl⟩
    | rs k => exact .inr ⟨hr, rfl⟩
  have ex : aHn α n x d (.hn n) = x := if_pos rfl
  have ed : aHn α n x d (.dr n) = d := if_pos rfl
  refine ⟨L.move tp (fun r hr => ?_) (L.injOf fun r hr => ?_), L.step (fun a o h nn => ?_) tp fun r hr => ?_⟩
  · rcases cl r hr with (e | e) | ⟨h0, e⟩
    · subst e
      refine .inr ⟨.ins T.N dx [("branch", .int br), ("moment", .int mom), ("drafts", .ref d)], by rw [ex, upd_ne (Ne.symm (nf .hns x trivial hx))]; exact h1, ⟨_, new, ?_⟩⟩
      show HO.ins _ _ _ = HO.ins _ _ (fHn n _ _)
      unfold fHn
      rw [ed]
      simp
    · subst e
      exact .inr ⟨_, by rw [ed, upd_ne (Ne.symm (nf .hns d trivial hd))]; exact h2, ⟨_, new, rfl⟩⟩
    · by_cases eh : r = .hns
      · subst eh
        refine .inr ⟨_, upd_same, ?_⟩
        show HO.dK _ = HO.dK _
        rw [putK_enc (g' := fun m _ => .ref (aHn α n x d (.hn m))) inl_inj S.hns n ⟨br, mom, []⟩ (.ref x) (by rw [ex]) (fun p _ hp => by show V.ref (if p.1 = n then _ else _) = _; rw [if_neg hp]), aput_new _ hn]
      · refine .inl ⟨h0, e, ?_, fun o c => ?_⟩
        · obtain ⟨o, q⟩ := L.there h0
          rw [upd_ne (L.ne (r' := .hns) h0 trivial eh), q]; exact k1 _ _ q
        · cases r with
          | hns => exact absurd rfl eh
          | hn m =>
            obtain ⟨h, z, c⟩ := c
            have q : m ≠ n := fun q => by rw [q, hn] at z; cases z
            refine ⟨h, keep m h q z, ?_⟩
            rw [c]
            show HO.ins _ _ (fHn m h α) = HO.ins _ (if Rl.hn m = Rl.hn n then dx else δ (.hn m)) (fHn m h (aHn α n x d))
            rw [if_neg (fun y => q (Rl.hn.inj y))]
            unfold fHn
            show _ = HO.ins _ _ [_, _, (_, V.ref (if m = n then d else α (.dr m)))]
            rw [if_neg q]
          | dr m =>
            obtain ⟨h, z, c⟩ := c
            have q : m ≠ n := fun q => by rw [q, hn] at z; cases z
            exact ⟨h, keep m h q z, c⟩
          | sh => exact c
          | brs => exact c
          | jd => exact c
          | br m => exact c
          | lns m => exact c
          | mks m => exact c
          | ln m k => exact c
          | jg k => exact c
          | ow k => exact c
          | rs k => exact c
  · rcases cl r hr with (e | e) | h0
    · subst e
      refine .inr ⟨by rw [ex]; exact hx, fun r' hr' z e' => ?_⟩
      rcases cl r' hr' with (e2 | e2) | ⟨h2, e2⟩
      · exact e2.symm
      · rw [e2, ex, ed] at e'; exact absurd e' nxd
      · obtain ⟨o, q⟩ := L.there h2
        rw [e2, q] at z; cases z
    · subst e
      refine .inr ⟨by rw [ed]; exact hd, fun r' hr' z e' => ?_⟩
      rcases cl r' hr' with (e2 | e2) | ⟨h2, e2⟩
      · rw [e2, ex, ed] at e'; exact absurd e'.symm nxd
      · exact e2.symm
      · obtain ⟨o, q⟩ := L.there h2
        rw [e2, q] at z; cases z
    · exact .inl h0
  · rw [upd_ne (Ne.symm (nn .hns trivial))]; exact k1 _ _ h
  · rcases cl r hr with (e | e) | h0
    · subst e; exact .inr (by rw [ex]; exact hx)
    · subst e; exact .inr (by rw [ed]; exact hd)
    · exact .inl h0
end
end Vs
/-! ## Texts in order -/
namespace Vs
open PySem L2 PyProof.Rows
def leS (a b : Str) : Bool := decide (a.cps.toList ≤ b.cps.toList)
theorem leS_trans (a b c : Str) (h : leS a b = true) (h' : leS b c = true) : leS a c = true := by
  unfold leS at *
  simp only [decide_eq_true_eq] at *
  exact List.le_trans h h'
theorem leS_total (a b : Str) : (leS a b || leS b a) = true := by
  unfold leS
  rcases List.le_total a.cps.toList b.cps.toList with h | h
  · simp [h]
  · simp [h]
theorem leS_anti {a b : Str} (h : leS a b = true) (h' : leS b a = true) : a = b := by
  unfold leS at *
  simp only [decide_eq_true_eq] at *
  have e := List.le_antisymm h h'
  cases a; cases b
  simp only [Array.toList_inj] at e
  rw [e]
def sortK (l : List Str) : List Str := l.mergeSort leS
theorem sortK_perm (l : List Str) : (sortK l).Perm l := List.mergeSort_perm _ _
theorem sortK_pw (l : List Str) : (sortK l).Pairwise fun a b => leS a b = true := List.pairwise_mergeSort leS_trans leS_total l
theorem mem_sortK {l : List Str} {k : Str} : k ∈ sortK l ↔ k ∈ l := (sortK_perm l).mem_iff
theorem pw_unique {l : List Str} : ∀ {m : List Str}, l.Pairwise (fun a b => leS a b = true) → m.Pairwise (fun a b => leS a b = true) → l.Perm m → l = m := by
  induction l with
  | nil => intro m _ _ p; exact (List.nil_perm.mp p).symm
  | cons a l ih =>
    intro m h1 h2 p
    cases m with
    | nil => exact absurd p.length_eq (by simp)
    | cons b m =>
      obtain ⟨p1, q1⟩ := List.pairwise_cons.mp h1
      obtain ⟨p2, q2⟩ := List.pairwise_cons.mp h2
      have e : a = b := by
        have ha : a ∈ b :: m := p.mem_iff.mp List.mem_cons_self
        have hb : b ∈ a :: l := p.mem_iff.mpr List.mem_cons_self
        rcases List.mem_cons.mp ha with z | z
        · exact z
        · rcases List.mem_cons.mp hb with y | y
          · exact y.symm
          · exact leS_anti (p1 b y) (p2 a z)
      subst e
      rw [ih q1 q2 (List.Perm.cons_inv p)]
theorem sortK_eq {l ys : List Str} (p : ys.Perm l) (h : ys.Pairwise fun a b => leS a b = true) : ys = sortK l := pw_unique h (sortK_pw l) (p.trans (sortK_perm l).symm)
theorem rising_pw : ∀ (x : Str) (r : List Str), risingS x r = true → (x :: r).Pairwise fun a b => leS a b = true
  | x, [], _ => List.pairwise_singleton _ _
  | x, y :: r, h => by
    have h0 : (!Spec.ltCps y.cps.toList x.cps.toList && risingS y r) = true := h
    rw [Bool.and_eq_true] at h0
    have ih := rising_pw y r h0.2
    have hxy : leS x y = true := by
      have h1 := h0.1
      rw [ltCps_eq] at h1
      unfold leS
      have h2 : ¬ y.cps.toList < x.cps.toList := by simpa using h1
      exact decide_eq_true (List.not_lt.mp h2)
    refine List.pairwise_cons.mpr ⟨fun z hz => ?_, ih⟩
    rcases List.mem_cons.mp hz with e | e
    · rw [e]; exact hxy
    · exact leS_trans _ _ _ hxy ((List.pairwise_cons.mp ih).1 z e)
theorem sortedS_pw : ∀ {l : List Str}, sortedS l = true → l.Pairwise fun a b => leS a b = true
  | [], _ => List.Pairwise.nil
  | x :: r, h => rising_pw x r h
theorem sortedS_eq {l ys : List Str} (p : ys.Perm l) (h : sortedS ys = true) : ys = sortK l := sortK_eq p (sortedS_pw h)
theorem sortK_length (l : List Str) : (sortK l).length = l.length := (sortK_perm l).length_eq
theorem sortK_nodup {l : List Str} (h : l.Nodup) : (sortK l).Nodup := (sortK_perm l).symm.nodup h
end Vs
/-! ## sorted(d), the keys of d whole numbers that rise already, however many -/
namespace Vs
open PySem PySem.Spec PyProof.Rows L2
theorem ints_unique : ∀ {l m : List Int}, l.Pairwise (· ≤ ·) → m.Pairwise (· < ·) → l.Perm m → l = m
  | [], m, _, _, p => (List.nil_perm.mp p).symm
  | a :: l, [], _, _, p => absurd p.length_eq (by simp)
  | a :: l, b :: m, h1, h2, p => by
    obtain ⟨p1, q1⟩ := List.pairwise_cons.mp h1
    obtain ⟨p2, q2⟩ := List.pairwise_cons.mp h2
    have e : a = b := by
      have ha : a ∈ b :: m := p.mem_iff.mp List.mem_cons_self
      have hb : b ∈ a :: l := p.mem_iff.mpr List.mem_cons_self
      rcases List.mem_cons.mp ha with z | z
      · exact z
      · rcases List.mem_cons.mp hb with y | y
        · exact y.symm
        · have := p1 b y; have := p2 a z; omega
    subst e
    rw [ints_unique q1 q2 (List.Perm.cons_inv p)]
section
variable {X : Cx}
theorem cr_dI (calm : X.calm = true) : CallR X (.builtin "sorted") (fun vs H Q => ∃ (d : Addr) (kvs : List (Key × V)) (ks : List Int), vs = [.ref d] ∧ Rd H d (.dK kvs) ∧ kvs.map (·.1) = ks.map Sum.inl ∧ ks.Pairwise (· < ·) ∧
    ∀ p, H p = none → Q (.ref p) (upd H p (.lst (ks.map V.int)))) := by
  intro pins z σ H vs us Q I rel pre
  obtain ⟨d, kvs, ks, rfl, rd, keys, rise, post⟩ := pre
  obtain ⟨u, eu, ru⟩ := vals1 rel
  subst eu; cases ru
  obtain ⟨size, low, ws, kv, dict⟩ := dk_rd I.hok rd
  obtain ⟨ep, raw⟩ := dict.dictAt
  have wk : ws.map (·.1) = ks.map Sum.inl := kv.keys.symm.trans keys
  have wl : ws.length = ks.length := by
    have e := congrArg List.length wk
    simpa using e
  have kl : ks.length ≤ sizeLine := by
    have e := congrArg List.length keys
    rw [List.length_map, List.length_map] at e
    omega
  refine Calls.call_function_entry kind_sorted plain_sorted entry_sorted (args_sorted1 _) ?_
  unfold Builtin.«sorted»
  refine wpAny_bind (m := checkCount "sorted" 1 1 _) (wpAny_pure ?_)
  refine wpAny_bind (PySem.W.kdu_collect (A := X.A.in1) (PySem.W.kdl_dict (knd := mixKind X.prog X.w) (kvs := ws) (ep := ep) low) (I.ok.hd calm) raw (by omega) fun g tk acc keep got => ?_)
  have al : acc.toList.length = ks.length := by rw [Array.length_toList, got.1, wl]
  have ia : IntsAre acc.toList ks := ints_each al fun j v e => by
    obtain ⟨k, x, e1, e2⟩ := got.2 j v (by rw [← Array.getElem?_toList]; exact e)
    have e3 : (ws.map (·.1))[j]? = some k := by rw [List.getElem?_map, e1]; rfl
    rw [wk, List.getElem?_map] at e3
    cases e4 : ks[j]? with
    | none => rw [e4] at e3; cases e3
    | some y =>
      rw [e4] at e3
      obtain rfl : Sum.inl y = k := Option.some.inj e3
      rcases keyIs_shape (show keyIs (Sum.inl y) v = true from e2) with ⟨i, t, ek, ev⟩ | ⟨i, t, ek, ev⟩
      · cases ek; exact ⟨y, t, rfl, ev⟩
      · cases ek
  have J : Inv X pins σ H { z with heap := g, toks := tk } := I.kept keep
  refine wpAny_bind (wpAny_newList ?_ (by rw [al]; exact kl))
  have at0 : (g.push (seqObj "list" acc.toList.toArray 0)).get? g.objs.size = some (seqObj "list" acc.toList.toArray 0) := Heap.get?_push_size _ rfl
  show wpAny _ _ _ _ _ { z with heap := g.push (seqObj "list" acc.toList.toArray 0), toks := tk }
  refine wpAny_bind (wpAny_holding (wpAny_call_entry slot_list_sort ⟨_, at0, rfl⟩ entry_list_sort
    (SrtO.list_sort_ord (s := { z with heap := g.push (seqObj "list" acc.toList.toArray 0), toks := tk }) SrtO.swo_int at0 (by rw [al]; exact kl) (fun two => SrtO.ints_sortable ia two) fun out o1 o2 => ⟨_, rfl, ?_⟩) (args_list_sort _)))
  obtain ⟨i1, i2, i3⟩ := SrtO.ints_out ia o1 o2
  have io : out.map SrtO.iv = ks := ints_unique i3 rise i2
  obtain ⟨ep', at1⟩ := sortedHeap_at (vs := acc.toList) (out := out.toArray) at0
  rw [io] at i1
  refine wpAny_pure ⟨_, rfl, .ref g.objs.size, upd H g.objs.size (.lst (ks.map V.int)), J.laid (t' := tk) (fun b o e => ?_) (Nat.le_refl _)
    (show ObjOk X.prog X.w _ _ _ (.lst (ks.map V.int)) from ⟨by rw [List.length_map]; exact kl, out, ep', vals_of_ints i1, at1⟩), rfl, post _ (J.hok.fresh (Nat.le_refl _))⟩
  have lt : b < g.objs.size := Heap.lt_size e
  rw [sortedHeap_old (Nat.ne_of_lt lt) (by rw [size_push']; exact Nat.lt_succ_of_lt lt)]
  exact Heap.get?_push_of_some _ e
end
end Vs
/-! ## Changes of a branch -/
namespace Vs
open PySem L2
section
variable {T : Cs} {H H' : Hp} {S S' : Sh} {α α' : Rl → Addr} {δ δ' : Dl} {J J' : List Str} {G G' : Jud}
def Sh.setBr (S : Sh) (n : Int) (b : Br) : Sh := { S with brs := aput S.brs n b }
theorem setBr_get (S : Sh) (n : Int) (b : Br) (m : Int) : aget (S.setBr n b).brs m = if m = n then some b else aget S.brs m := aget_put _ _ _ _
/-- what a change of branch n leaves of all roles but its own parts -/
theorem Lay.putBr (L : Lay T H S α δ J G) {n : Int} {b b' : Br} (hb : aget S.brs n = some b) {r0 : Rl} (l0 : Live S J r0) {o' : HO} (c' : Cont T (S.setBr n b') α δ J G (upd H (α r0) o') r0 o')
    (hbr : fBr n b' α = fBr n b α ∨ r0 = .br n) (hlns : enc Sum.inr (fun k _ => V.ref (α (.ln n k))) b'.lines = enc Sum.inr (fun k _ => V.ref (α (.ln n k))) b.lines ∨ r0 = .lns n)
    (hmks : b'.marks = b.marks ∨ r0 = .mks n) (hln : ∀ k l', aget b'.lines k = some l' → r0 = .ln n k ∨ aget b.lines k = some l') : Mv T H S α J (upd H (α r0) o') (S.setBr n b') α δ J G := by
  have at_n : aget (S.setBr n b').brs n = some b' := by rw [setBr_get, if_pos rfl]
  have off : ∀ m, m ≠ n → aget (S.setBr n b').brs m = aget S.brs m := fun m q => by rw [setBr_get, if_neg q]
  refine L.put l0 c' fun r hr hl => ?_
  cases r with
  | sh => exact ⟨hl, fun _ c => c⟩
  | hns => exact ⟨hl, fun _ c => c⟩
  | jd => exact ⟨hl, fun _ c => c⟩
  | hn m => exact ⟨hl, fun _ c => c⟩
  | dr m => exact ⟨hl, fun _ c => c⟩
  | jg k => exact ⟨hl, fun _ c => c⟩
  | ow k => exact ⟨hl, fun _ c => c⟩
  | rs k => exact ⟨hl, fun _ c => c⟩
  | brs =>
    refine ⟨trivial, fun o c => ?_⟩
    rw [show o = _ from c]
    show HO.dK _ = HO.dK (enc _ _ (aput S.brs n b'))
    rw [enc_key, enc_key, keys_aput_old _ hb]
  | br m =>
    by_cases q : m = n
    · subst q
      refine ⟨⟨b, hb⟩, fun o ⟨x, e, c⟩ => ⟨b', at_n, ?_⟩⟩
      rw [hb] at e; cases e
      rcases hbr with z | z
      · rw [c, z]
      · exact absurd z.symm hr
    · obtain ⟨x, e⟩ := hl
      rw [off m q] at e
      exact ⟨⟨x, e⟩, fun o ⟨y, e', c⟩ => ⟨y, by rw [off m q]; exact e', c⟩⟩
  | lns m =>
    by_cases q : m = n
    · subst q
      refine ⟨⟨b, hb⟩, fun o ⟨x, e, c⟩ => ⟨b', at_n, ?_⟩⟩
      rw [hb] at e; cases e
      rcases hlns with z | z
      · rw [c, z]
      · exact absurd z.symm hr
    · obtain ⟨x, e⟩ := hl
      rw [off m q] at e
      exact ⟨⟨x, e⟩, fun o ⟨y, e', c⟩ => ⟨y, by rw [off m q]; exact e', c⟩⟩
  | mks m =>
    by_cases q : m = n
    · subst q
      refine ⟨⟨b, hb⟩, fun o ⟨x, e, c⟩ => ⟨b', at_n, ?_⟩⟩
      rw [hb] at e; cases e
      rcases hmks with z | z
      · rw [c, z]
      · exact absurd z.symm hr
    · obtain ⟨x, e⟩ := hl
      rw [off m q] at e
      exact ⟨⟨x, e⟩, fun o ⟨y, e', c⟩ => ⟨y, by rw [off m q]; exact e', c⟩⟩
  | ln m k =>
    obtain ⟨x, l, e, el⟩ := hl
    by_cases q : m = n
    · subst q
      rw [at_n] at e; cases e
      rcases hln k l el with z | z
      · exact absurd z.symm hr
      · refine ⟨⟨b, l, hb, z⟩, fun o ⟨y, l2, rs, e2, e3, c1, c2⟩ => ⟨b', l, rs, at_n, el, c1, ?_⟩⟩
        rw [hb] at e2; cases e2; rw [z] at e3; cases e3; exact c2
    · rw [off m q] at e
      exact ⟨⟨x, l, e, el⟩, fun o ⟨y, l2, rs, e2, e3, c⟩ => ⟨y, l2, rs, by rw [off m q]; exact e2, e3, c⟩⟩
/-- a line has other cells -/
theorem Lay.setLine (L : Lay T H S α δ J G) {n : Int} {b : Br} (hb : aget S.brs n = some b) {k : Str} {l l' : List Cel} (hk : aget b.lines k = some l) {rs : List V} (hc : Cels H rs l') :
    Mv T H S α J (upd H (α (.ln n k)) (.lst rs)) (S.setBr n { b with lines := aput b.lines k l' }) α δ J G := by
  refine L.putBr hb (r0 := .ln n k) ⟨b, l, hb, hk⟩ ⟨_, l', rs, by rw [setBr_get, if_pos rfl], aget_put_same _ _ _, rfl, hc.tups (L.updTups (r := .ln n k) ⟨b, l, hb, hk⟩ _)⟩ (.inl rfl) (.inl ?_) (.inl rfl) fun k' l2 e => ?_
  · show enc _ _ (aput b.lines k l') = _
    rw [enc_key, enc_key, keys_aput_old _ hk]
  · by_cases q : k' = k
    · exact .inl (by rw [q])
    · rw [show aget (aput b.lines k l') k' = _ from aget_put_ne q] at e
      exact .inr e
/-- other marks, in the same dict -/
theorem Lay.setMarks (L : Lay T H S α δ J G) {n : Int} {b : Br} (hb : aget S.brs n = some b) (ms : List (Str × Int)) :
    Mv T H S α J (upd H (α (.mks n)) (.dK (enc .inr (fun _ m => .int m) ms))) (S.setBr n { b with marks := ms }) α δ J G :=
  L.putBr hb (r0 := .mks n) ⟨b, hb⟩ ⟨_, by rw [setBr_get, if_pos rfl], rfl⟩ (.inl rfl) (.inl rfl) (.inr rfl) fun k l e => .inr e
/-- dropped -/
theorem Lay.setAlive (L : Lay T H S α δ J G) {n : Int} {b : Br} (hb : aget S.brs n = some b) (x : Bool) :
    Mv T H S α J (upd H (α (.br n)) (.ins T.B (δ (.br n)) (fBr n { b with alive := x } α))) (S.setBr n { b with alive := x }) α δ J G :=
  L.putBr hb (r0 := .br n) ⟨b, hb⟩ ⟨_, by rw [setBr_get, if_pos rfl], rfl⟩ (.inr rfl) (.inl rfl) (.inl rfl) fun k l e => .inr e
/-- a line less -/
theorem Lay.delLine (L : Lay T H S α δ J G) {n : Int} {b : Br} (hb : aget S.brs n = some b) (hf : δ.fz n = none) (k : Str) :
    Mv T H S α J (upd H (α (.lns n)) (.dK (dropK (enc .inr (fun k _ => .ref (α (.ln n k))) b.lines) (.inr k)))) (S.setBr n { b with lines := adel b.lines k }) α δ J G := by
  rw [dropK_enc inr_inj]
  refine L.putBr hb (r0 := .lns n) ⟨b, hb⟩ ⟨_, by rw [setBr_get, if_pos rfl], by rw [hf]; rfl⟩ (.inl rfl) (.inr rfl) (.inl rfl) fun k' l e => .inr ?_
  rw [show aget (adel b.lines k) k' = _ from aget_del _ _ _] at e
  by_cases q : k' = k
  · rw [if_pos q] at e; cases e
  · rw [if_neg q] at e; exact e
/-- a new, empty line -/
def aLn (α : Rl → Addr) (n : Int) (k : Str) (z : Addr) : Rl → Addr
  | .ln m j => if m = n ∧ j = k then z else α (.ln m j)
  | r => α r
theorem Lay.newLine (L : Lay T H S α δ J G) {n : Int} {b : Br} (hb : aget S.brs n = some b) (hf : δ.fz n = none) {k : Str} (hk : aget b.lines k = none) {z : Addr} (hz : H z = none) {H1 : Hp} (k1 : ∀ b o, H b = some o → H1 b = some o) (h1 : H1 z = some (.lst [])) :
    Mv T H S α J (upd H1 (α (.lns n)) (.dK (putK (enc .inr (fun k _ => .ref (α (.ln n k))) b.lines) (.inr k) (.ref z)))) (S.setBr n { b with lines := b.lines ++ [(k, [])] }) (aLn α n k z) δ J G := by
  have at_n : aget (S.setBr n { b with lines := b.lines ++ [(k, [])] }).brs n = some { b with lines := b.lines ++ [(k, [])] } := by rw [setBr_get, if_pos rfl]
  have off : ∀ m, m ≠ n → aget (S.setBr n { b with lines := b.lines ++ [(k, [])] }).brs m = aget S.brs m := fun m q => by rw [setBr_get, if_neg q]
  have new : aget (b.lines ++ [(k, ([] : List Cel))]) k = some [] := by rw [← aput_new _ hk]; exact aget_put_same _ _ _
  have old : ∀ j, j ≠ k → aget (b.lines ++ [(k, ([] : List Cel))]) j = aget b.lines j := fun j q => by rw [← aput_new _ hk]; exact aget_put_ne q
  have llns : Live S J (.lns n) := ⟨b, hb⟩
  have tp : Tups H (upd H1 (α (.lns n)) (.dK (putK (enc .inr (fun k _ => .ref (α (.ln n k))) b.lines) (.inr k) (.ref z)))) := fun a xs h => by
    rw [upd_ne (L.notup llns h)]; exact k1 _ _ h
  have ez : aLn α n k z (.ln n k) = z := if_pos ⟨rfl, rfl⟩
  have cl : ∀ r, Live (S.setBr n { b with lines := b.lines ++ [(k, [])] }) J r → r = .ln n k ∨ (Live S J r ∧ aLn α n k z r = α r) := fun r hr => by
    cases r with
    | ln m j =>
      by_cases q : m = n ∧ j = k
      · exact .inl (by rw [q.1, q.2])
      · obtain ⟨x, l, e, el⟩ := hr
        refine .inr ⟨?_, if_neg q⟩
        by_cases qm : m = n
        · subst qm
          rw [at_n] at e; cases e
          have qj : j ≠ k := fun y => q ⟨rfl, y⟩
          rw [show aget (b.lines ++ [(k, [])]) j = _ from old j qj] at el
          exact ⟨b, l, hb, el⟩
        · rw [off m qm] at e; exact ⟨x, l, e, el⟩
    | sh => exact .inr ⟨hr, rfl⟩
    | brs => exact .inr ⟨hr, rfl⟩
    | hns => exact .inr ⟨hr, rfl⟩
    | jd => exact .inr ⟨hr, rfl⟩
    | hn m => exact .inr ⟨hr, rfl⟩
    | dr m => exact .inr ⟨hr, rfl⟩
    | jg k => exact .inr ⟨hr, rfl⟩
    | ow k => exact .inr ⟨hr, rfl⟩
    | rs k => exact .inr ⟨hr, rfl⟩
    | br m =>
      obtain ⟨x, e⟩ := hr
      by_cases qm : m = n
      · subst qm; exact .inr ⟨⟨b, hb⟩, rfl⟩
      · rw [off m qm] at e; exact .inr ⟨⟨x, e⟩, rfl⟩
    | lns m =>
      obtain ⟨x, e⟩ := hr
      by_cases qm : m = n
      · subst qm; exact .inr ⟨⟨b, hb⟩, rfl⟩
      · rw [off m qm] at e; exact .inr ⟨⟨x, e⟩, rfl⟩
    | mks m =>
      obtain ⟨x, e⟩ := hr
      by_cases qm : m = n
      · subst qm; exact .inr ⟨⟨b, hb⟩, rfl⟩
      · rw [off m qm] at e; exact .inr ⟨⟨x, e⟩, rfl⟩
  refine ⟨L.move tp (fun r hr => ?_) (L.injOf fun r hr => ?_), L.step (fun a o h nn => ?_) tp fun r hr => ?_⟩
  · rcases cl r hr with e | ⟨h0, e⟩
    · subst e
      exact .inr ⟨_, by rw [ez, upd_ne (Ne.symm (L.nofr hz llns))]; exact h1, ⟨_, [], [], at_n, new, rfl, .nil⟩⟩
    · by_cases er : r = .lns n
      · subst er
        refine .inr ⟨_, upd_same, ⟨_, at_n, ?_⟩⟩
        rw [hf]
        show HO.dK _ = HO.dK (enc _ _ (b.lines ++ [(k, [])]))
        rw [putK_enc (g' := fun j _ => .ref (aLn α n k z (.ln n j))) inr_inj b.lines k [] (.ref z) (by rw [ez]) (fun p _ hp => by show V.ref (if n = n ∧ p.1 = k then _ else _) = _; rw [if_neg (fun y => hp y.2)]), aput_new _ hk]
      · refine .inl ⟨h0, e, ?_, fun o c => ?_⟩
        · obtain ⟨o, q⟩ := L.there h0
          rw [upd_ne (L.ne h0 llns er), q]; exact k1 _ _ q
        · cases r with
          | sh => exact c
          | hns => exact c
          | jd => exact c
          | hn m => exact c
          | dr m => exact c
          | jg k => exact c
          | ow k => exact c
          | rs k => exact c
          | brs =>
            rw [show o = _ from c]
            show HO.dK _ = HO.dK (enc _ _ (aput S.brs n _))
            rw [enc_key, enc_key, keys_aput_old _ hb]; rfl
          | br m =>
            obtain ⟨x, ex, c⟩ := c
            by_cases qm : m = n
            · subst qm; rw [hb] at ex; cases ex; exact ⟨_, at_n, c⟩
            · exact ⟨x, by rw [off m qm]; exact ex, c⟩
          | mks m =>
            obtain ⟨x, ex, c⟩ := c
            by_cases qm : m = n
            · subst qm; rw [hb] at ex; cases ex; exact ⟨_, at_n, c⟩
            · exact ⟨x, by rw [off m qm]; exact ex, c⟩
          | lns m =>
            obtain ⟨x, ex, c⟩ := c
            have qm : m ≠ n := fun y => er (by rw [y])
            refine ⟨x, by rw [off m qm]; exact ex, ?_⟩
            rw [c]
            show thw (δ.fz m) (HO.dK _) = thw (δ.fz m) (HO.dK _)
            congr 2
            exact enc_congr fun p _ => by show _ = V.ref (if m = n ∧ p.1 = k then _ else _); rw [if_neg (fun y => qm y.1)]
          | ln m j =>
            obtain ⟨x, l, rs, ex, el, c⟩ := c
            by_cases qm : m = n
            · subst qm
              rw [hb] at ex; cases ex
              have qj : j ≠ k := fun y => by rw [y, hk] at el; cases el
              exact ⟨_, l, rs, at_n, (old j qj).trans el, c⟩
            · exact ⟨x, l, rs, by rw [off m qm]; exact ex, el, c⟩
  · rcases cl r hr with e | h0
    · subst e
      refine .inr ⟨by rw [ez]; exact hz, fun r' hr' y e' => ?_⟩
      rcases cl r' hr' with e2 | ⟨h2, e2⟩
      · exact e2.symm
      · obtain ⟨o, q⟩ := L.there h2
        rw [e2, q] at y; cases y
    · exact .inl h0
  · rw [upd_ne (Ne.symm (nn (.lns n) llns))]; exact k1 _ _ h
  · rcases cl r hr with e | h0
    · subst e; exact .inr (by rw [ez]; exact hz)
    · exact .inl h0
end
end Vs
/-! ## What the judgements hang on; what drafts change -/
namespace Vs
open PySem L2
theorem ownersM_same {S S' : Sh} (hb : S'.brs = S.brs) (hv : viewsM S' = viewsM S) (k : Str) : ownersM S' k = ownersM S k := by
  unfold ownersM; rw [hv, hb]
theorem reasonsM_same {S S' : Sh} (hb : S'.brs = S.brs) (hv : viewsM S' = viewsM S) (k : Str) : reasonsM S' k = reasonsM S k := by
  unfold reasonsM; rw [ownersM_same hb hv, hb]
theorem Right.same {S S' : Sh} {J : List Str} {G : Jud} (h : Right S J G) (hb : S'.brs = S.brs) (hv : viewsM S' = viewsM S) : Right S' J G := fun k hk => by
  rw [h k hk, ownersM_same hb hv, reasonsM_same hb hv]
theorem RightJ.same {S S' : Sh} {J : List Str} {G : Jud} (h : RightJ S J G) (hb : S'.brs = S.brs) (hv : viewsM S' = viewsM S) : RightJ S' J G := ⟨h.rt.same hb hv, h.nd, fun k hk => by rw [hb]; exact h.ink k hk⟩
theorem map_aput {κ β γ : Type} [DecidableEq κ] {l : List (κ × β)} {k : κ} {x y : β} {f : κ × β → γ} (hn : (l.map (·.1)).Nodup) (e : aget l k = some y) (hf : f (k, x) = f (k, y)) : (aput l k x).map f = l.map f := by
  unfold aput
  rw [e, if_pos (by rfl), List.map_map]
  apply List.map_congr_left
  intro p hp
  simp only [Function.comp]
  by_cases q : p.1 = k
  · rw [if_pos q]
    have : aget l k = some p.2 := aget_of_mem hn (by rw [← q]; exact hp)
    rw [e] at this
    cases this
    have q' := q.symm
    subst q'
    exact hf
  · rw [if_neg q]
def Sh.write (S : Sh) (n : Int) (h : Hn) (k : Str) (v : Option Int) : Sh := { S with hns := aput S.hns n { h with drafts := aput h.drafts k v } }
theorem viewsM_write {Ks : List Str} {S : Sh} (W : WF Ks S) {n : Int} {h : Hn} (e : aget S.hns n = some h) (k : Str) (v : Option Int) : viewsM (S.write n h k v) = viewsM S := by
  unfold viewsM
  congr 1
  exact map_aput (nodup_of_lt W.hks) e rfl
theorem nodup_aput {κ β : Type} [DecidableEq κ] {l : List (κ × β)} {k : κ} {x : β} (hn : (l.map (·.1)).Nodup) : ((aput l k x).map (·.1)).Nodup := by
  cases e : aget l k with
  | some y => rw [keys_aput_old x e]; exact hn
  | none =>
    rw [aput_new x e, List.map_append]
    refine nd_snoc hn fun z => ?_
    obtain ⟨y, hy⟩ := aget_of_key z
    rw [e] at hy; cases hy
theorem mem_keys_aput {κ β : Type} [DecidableEq κ] {l : List (κ × β)} {k j : κ} {x : β} (h : j ∈ (aput l k x).map (·.1)) : j = k ∨ j ∈ l.map (·.1) := by
  cases e : aget l k with
  | some y => rw [keys_aput_old x e] at h; exact .inr h
  | none =>
    rw [aput_new x e, List.map_append] at h
    rcases List.mem_append.mp h with z | z
    · exact .inr z
    · exact .inl (by simpa using z)
theorem WF.write {Ks : List Str} {S : Sh} (W : WF Ks S) {n : Int} {h : Hn} (e : aget S.hns n = some h) {k : Str} (hk : k ∈ Ks) (v : Option Int) : WF Ks (S.write n h k v) where
  bks := W.bks
  b0 := W.b0
  root := W.root
  ben := W.ben
  bnd := W.bnd
  lks := W.lks
  ln := W.ln
  mks := W.mks
  mkb := W.mkb
  hks := by show ((aput S.hns n _).map (·.1)).Pairwise _; rw [keys_aput_old _ e]; exact W.hks
  hn := fun m x z => by
    have z : aget (aput S.hns n _) m = some x := z
    rw [aget_put] at z
    by_cases q : m = n
    · rw [if_pos q] at z; cases z; subst q; exact W.hn m h e
    · rw [if_neg q] at z; exact W.hn m x z
  dks := fun m x z => by
    have z : aget (aput S.hns n _) m = some x := z
    rw [aget_put] at z
    by_cases q : m = n
    · rw [if_pos q] at z; cases z
      refine ⟨nodup_aput (W.dks n h e).1, fun j hj => ?_⟩
      rcases mem_keys_aput hj with y | y
      · rw [y]; exact hk
      · exact (W.dks n h e).2 j y
    · rw [if_neg q] at z; exact W.dks m x z
  key := W.key
  pool := W.pool
  sz := W.sz
  cap := ⟨by rw [show (S.write n h k v).hns = aput S.hns n _ from rfl, ← List.length_map (f := (·.1)), keys_aput_old _ e, List.length_map]; exact W.cap.h, W.cap.b, W.cap.l⟩
theorem len_le_pool {l Ks : List Str} (hn : l.Nodup) (hs : ∀ k ∈ l, k ∈ Ks) : l.length ≤ Ks.length := by
  induction l generalizing Ks with
  | nil => exact Nat.zero_le _
  | cons a l ih =>
    obtain ⟨h1, h2⟩ := List.nodup_cons.mp hn
    have ha := hs a List.mem_cons_self
    have := ih (Ks := Ks.erase a) h2 fun k hk => (List.mem_erase_of_ne (fun z => h1 (by rw [← z]; exact hk))).mpr (hs k (List.mem_cons_of_mem _ hk))
    rw [List.length_erase_of_mem ha] at this
    have : 0 < Ks.length := List.length_pos_of_mem ha
    rw [List.length_cons]; omega
end Vs
namespace Vs
open PySem L2
theorem aput_old {κ β : Type} [DecidableEq κ] {l : List (κ × β)} {k : κ} {y : β} (x : β) (h : aget l k = some y) : aput l k x = l.map (fun p => if p.1 = k then (p.1, x) else p) := by
  unfold aput; rw [h]; rfl
theorem aput_aput {κ β : Type} [DecidableEq κ] (l : List (κ × β)) (k : κ) (x y : β) : aput (aput l k x) k y = aput l k y := by
  rw [aput_old y (aget_put_same l k x)]
  cases h : aget l k with
  | some z =>
    rw [aput_old x h, aput_old y h, List.map_map]
    apply List.map_congr_left
    intro p _
    simp only [Function.comp]
    by_cases q : p.1 = k
    · simp [q]
    · simp [q]
  | none =>
    rw [aput_new x h, aput_new y h, List.map_append]
    congr 1
    · rw [List.map_congr_left (g := id), List.map_id]
      intro p hp
      rw [if_neg]; rfl
      intro q
      obtain ⟨z, hz⟩ := aget_of_key (l := l) (k := k) (by rw [← q]; exact List.mem_map.mpr ⟨p, hp, rfl⟩)
      rw [h] at hz; cases hz
    · simp
theorem setBr_setBr (S : Sh) (n : Int) (b c : Br) : (S.setBr n b).setBr n c = S.setBr n c := by
  unfold Sh.setBr
  rw [show ({ S with brs := aput S.brs n b } : Sh).brs = aput S.brs n b from rfl, aput_aput]
/-- one draft becomes a version -/
def addC (now : Int) (h : Hn) (b : Br) (k : Str) : Br := { b with lines := aput b.lines k (b.line k ++ [(now, (aget h.drafts k).getD none)]), marks := aput b.marks k now }
def addS (q : Int) (h : Hn) (S : Sh) (k : Str) : Sh := match aget S.brs q with
  | none => S
  | some b => S.setBr q (addC S.now h b k)
def Sh.settle (S : Sh) (q : Int) (h : Hn) : Sh := (sortK (h.drafts.map (·.1))).foldl (addS q h) { S with now := S.now + 1 }
def clashM (b : Br) (h : Hn) : Option Str := (sortK (h.drafts.map (·.1))).find? fun k => decide (h.mom < (aget b.marks k).getD 0)
section
variable {T : Cs} {H : Hp} {S : Sh} {α : Rl → Addr} {δ : Dl} {J : List Str} {G : Jud}
/-- the way of an append: a cell more in the line at α -/
theorem Lay.addCell (L : Lay T H S α δ J G) {n : Int} {b : Br} (hb : aget S.brs n = some b) {k : Str} {l : List Cel} (hk : aget b.lines k = some l) {t : Addr} {c : Cel} (ht : H t = some (.tup [.int c.1, optV c.2])) :
    ∃ rs, H (α (.ln n k)) = some (.lst rs) ∧ rs.length = l.length ∧ Mv T H S α J (upd H (α (.ln n k)) (.lst (rs ++ [.ref t]))) (S.setBr n { b with lines := aput b.lines k (l ++ [c]) }) α δ J G := by
  obtain ⟨rs, h1, h2⟩ := L.ln hb hk
  exact ⟨rs, h1, Paired.length h2, L.setLine hb hk (Paired.snoc h2 ⟨t, rfl, ht⟩)⟩
end
end Vs
/-! ## d.setdefault(t, x), the keys of d tuples -/
namespace Vs
open PySem PySem.Spec PyProof.Rows L2
def tSetdT (td ty tx : TE) : TE := fun σ H Q => td σ H fun x H1 => ∃ a, x = .ref a ∧ IsD H1 a ∧ ty σ H1 fun y H2 => tx σ H2 fun z H3 => ∃ (kvs : List (List Key × V)) (k : List Key) (b : Addr), H3 a = some (.dT kvs) ∧ y = .ref b ∧ H3 b = some (.tup (k.map kV)) ∧
  kvs.length < sizeLine ∧ (∀ v, valV kvs k = some v → Q v H3) ∧ (valV kvs k = none → Q z (upd H3 a (.dT (putK kvs k z))))
section
variable {X : Cx}
theorem setd_tup {pins : List (Addr × Obj)} {σ : L2.St} {H : Hp} {z : Shared} {a b : Addr} {r : Value} {d : V} {k : List Key} {A : Around} {E : Value → Shared → Prop} {kvs : List (List Key × V)} {Q : Value → Shared → Prop} (hu : A.units + 1 < cLine) (I : Inv X pins σ H z)
    (at_ : H a = some (.dT kvs)) (key : H b = some (.tup (k.map kV))) (rd : RelV d r) (small : kvs.length < sizeLine) (there : ∀ v, valV kvs k = some v → ∀ (u : Value) (y : Shared), Inv X pins σ H y → RelV v u → Q u y)
    (gone : valV kvs k = none → ∀ (u : Value) (y : Shared), Inv X pins σ (upd H a (.dT (putK kvs k d))) y → RelV d u → Q u y) : wpAny (model X.prog X.w) A (call (.builtin "dict.setdefault") [.ref a, .ref b, r]) Q E z := by
  obtain ⟨size, low, xs, rel, dict⟩ := dt_of I.hok at_
  have val := rel.val k
  refine call_setdefault_heap (hsz := by rw [← Paired.length rel]; exact size) (tupleKind_room_in1 hu) (key_of I.hok key) low dict (fun p hp => ?_) fun hn h' new same => ?_
  · rw [hp] at val
    cases q : valV kvs k with
    | none => rw [q] at val; exact (show False from val).elim
    | some v => rw [q] at val; exact there v q _ _ (I.tok _) val
  · rw [hn] at val
    cases q : valV kvs k with
    | some v => rw [q] at val; exact (show False from val).elim
    | none =>
      have len : (putK kvs k d).length ≤ sizeLine := by rw [putK_new d q, List.length_append]; exact small
      obtain ⟨o, es, ep, e1, e2, e3, e4, e5, e6⟩ := new
      refine gone q _ _ (d_write I (by rw [at_]; exact True.intro) same ⟨o, e1⟩ ⟨len, low, _, (rel.put k key rd).keeps fun c ys ec => ?_, o, es, ep, e1, e2, e3, e4, e6⟩) rd
      rw [upd_ne (ne_of ec at_ (by intro y; cases y))]; exact ec
theorem pe_setdT {o e f : Expr} {td ty tx : TE} {apos cpos : Pos} (hu : X.A.units + 1 < cLine) (ho : PE X o td) (he : PE X e ty) (hf : PE X f tx) (m : M2 X o "setdefault" apos e f cpos) : PE X (.Call (.Attribute o "setdefault" apos) [e, f] [] cpos) (tSetdT td ty tx) := by
  constructor
  intro pins z σ H Q I pre
  refine wpAny_Call_method m.base m.few m.line PySem.F.plainAttrs_dict PySem.F.slot_dict_setdefault PySem.F.type_dict_setdefault (thn (ho.run pins z σ H _ I pre) fun u z1 ⟨x, H1, I1, rx, a, ex, d, q1⟩ => ?_)
  subst ex
  obtain rfl : u = Value.ref a := rx
  obtain ⟨t1, t2, _⟩ := isD_at I1 d
  refine ⟨t1, t2, ?_⟩
  rw [m.trees]
  refine Calls.callWith_builtin rfl (Calls.evalArgs_plain (Calls.spliced_cons (thn (he.run pins z1 σ H1 _ I1 q1) fun v z2 ⟨y, H2, I2, ry, q2⟩ =>
    Calls.spliced_cons (thn (hf.run pins z2 σ H2 _ I2 q2) fun u z3 ⟨r, H3, I3, rr, kvs, k, b, ea, ey, eb, small, q3, q4⟩ => Calls.spliced_nil ?_))))
  subst ey
  cases (show v = Value.ref b from ry)
  exact setd_tup hu I3 ea eb rr small (fun g hg w' z4 I4 r4 => ⟨g, _, I4, r4, q3 g hg⟩) fun hg w' z4 I4 r4 => ⟨r, _, I4, r4, q4 hg⟩
end
end Vs
/-! ## The kept cells of a line, cell by cell -/
namespace Vs
open PySem L2
def lastB (n : Int) (be : Option Ver) (l : List (Cel × Rsn)) : Option Ver := match l.getLast? with
  | none => be
  | some c => some (n, c.1.1, c.1.2)
theorem keepL_snoc (k : Str) (n : Int) (ow : Int → Option Own) : ∀ (l : List Cel) (be : Option Ver) (c : Cel), keepL k n ow be (l ++ [c]) = keepL k n ow be l ++ (match reasonM k c.2 (ow c.1) (lastB n be (keepL k n ow be l)) with
    | none => []
    | some y => [(c, y)])
  | [], be, c => by
    show keepL k n ow be [c] = _
    unfold keepL
    show (match reasonM k c.2 (ow c.1) be with | none => _ | some y => _) = _
    cases h : reasonM k c.2 (ow c.1) be with
    | none => simp [keepL, lastB, h]
    | some y => simp [keepL, lastB, h]
  | a :: l, be, c => by
    show keepL k n ow be (a :: (l ++ [c])) = _
    unfold keepL
    cases h : reasonM k a.2 (ow a.1) be with
    | none =>
      dsimp only
      exact keepL_snoc k n ow l be c
    | some y =>
      dsimp only
      rw [keepL_snoc k n ow l (some (n, a.1, a.2)) c, List.cons_append]
      congr 2
      have e : lastB n be ((a, y) :: keepL k n ow (some (n, a.1, a.2)) l) = lastB n (some (n, a.1, a.2)) (keepL k n ow (some (n, a.1, a.2)) l) := by
        unfold lastB
        rw [List.getLast?_cons]
        cases (keepL k n ow (some (n, a.1, a.2)) l).getLast? with
        | none => rfl
        | some z => rfl
      rw [e]
theorem keepL_sub (k : Str) (n : Int) (ow : Int → Option Own) : ∀ (l : List Cel) (be : Option Ver), ((keepL k n ow be l).map (·.1)).Sublist l
  | [], _ => List.Sublist.slnil
  | a :: l, be => by
    unfold keepL
    cases reasonM k a.2 (ow a.1) be with
    | none => exact (keepL_sub k n ow l be).cons a
    | some y => exact (keepL_sub k n ow l (some (n, a.1, a.2))).cons₂ a
theorem rise_sub {l m : List Cel} (h : l.Sublist m) (r : Rise m) : Rise l := List.Pairwise.sublist h r
theorem lineAt_rise {Ks : List Str} {S : Sh} (W : WF Ks S) (n : Int) (k : Str) : Rise (lineAt S.brs n k) := by
  unfold lineAt
  cases e : aget S.brs n with
  | none => exact List.Pairwise.nil
  | some b => exact W.rise e k
theorem kept_rise {Ks : List Str} {S : Sh} (W : WF Ks S) (k : Str) (os : List ((Int × Int) × Own)) (n : Int) : Rise ((keptB S.brs k os n).map (·.1)) :=
  rise_sub (keepL_sub k n _ _ _) (lineAt_rise W n k)
theorem kept_len {Ks : List Str} {S : Sh} (W : WF Ks S) (k : Str) (n : Int) (ow : Int → Option Own) (be : Option Ver) (j : Nat) {b : Br} (hb : aget S.brs n = some b) : (keepL k n ow be ((b.line k).take j)).length ≤ 1000 := by
  have h1 := (keepL_sub k n ow ((b.line k).take j) be).length_le
  rw [List.length_map, List.length_take] at h1
  unfold Br.line at h1
  cases e : aget b.lines k with
  | none => rw [e] at h1; simp at h1; unfold Br.line; rw [e]; simp [keepL]
  | some l =>
    rw [e] at h1
    have := W.cap.l n b k l hb e
    have h2 : (keepL k n ow be ((b.line k).take j)).length ≤ min j l.length := by
      unfold Br.line; rw [e]; exact h1
    omega
def rowsR (n : Int) (l : List (Cel × Rsn)) : List ((Int × Int) × Rsn) := l.map fun c => ((n, c.1.1), c.2)
def reasonsTo (bs : List (Int × Br)) (k : Str) (os : List ((Int × Int) × Own)) (i : Nat) : List ((Int × Int) × Rsn) := (bs.take i).flatMap fun p => rowsR p.1 (keptB bs k os p.1)
theorem reasonsTo_all (bs : List (Int × Br)) (k : Str) (os : List ((Int × Int) × Own)) : reasonsTo bs k os bs.length = reasonsO bs k os := by
  unfold reasonsTo; rw [List.take_length]; rfl
theorem reasonsTo_succ {bs : List (Int × Br)} {k : Str} {os : List ((Int × Int) × Own)} {i : Nat} {n : Int} {b : Br} (h : bs[i]? = some (n, b)) : reasonsTo bs k os (i + 1) = reasonsTo bs k os i ++ rowsR n (keptB bs k os n) := by
  unfold reasonsTo; rw [List.take_add_one, h, List.flatMap_append]; simp
/-- such a row is not there yet -/
theorem row_new {Ks : List Str} {S : Sh} (W : WF Ks S) {k : Str} {os : List ((Int × Int) × Own)} {i j : Nat} {n : Int} {b : Br} {be : Option Ver} {ow : Int → Option Own} {c : Cel} (hi : S.brs[i]? = some (n, b)) (hb : aget S.brs n = some b) (hc : (b.line k)[j]? = some c) :
    aget (reasonsTo S.brs k os i ++ rowsR n (keepL k n ow be ((b.line k).take j))) (n, c.1) = none := by
  refine aget_none_of fun hm => ?_
  rw [List.map_append] at hm
  rcases List.mem_append.mp hm with z | z
  · obtain ⟨p, hp, ep⟩ := List.mem_map.mp z
    unfold reasonsTo at hp
    obtain ⟨q, hq, hp⟩ := List.mem_flatMap.mp hp
    obtain ⟨x, hx, rfl⟩ := List.mem_map.mp hp
    have en : q.1 = n := congrArg Prod.fst ep
    obtain ⟨j', hj', ej⟩ := List.getElem_of_mem hq
    rw [List.length_take] at hj'
    rw [List.getElem_take] at ej
    have pw := List.pairwise_iff_getElem.mp W.bks
    obtain ⟨hi', ei⟩ := List.getElem?_eq_some_iff.mp hi
    have := pw j' i (by simp; omega) (by simpa using hi') (by omega)
    simp only [List.getElem_map, ej, ei] at this
    omega
  · obtain ⟨p, hp, ep⟩ := List.mem_map.mp z
    obtain ⟨x, hx, rfl⟩ := List.mem_map.mp hp
    have e1 : x.1.1 = c.1 := congrArg Prod.snd ep
    have hm : x.1 ∈ (b.line k).take j := (keepL_sub k n ow _ be).subset (List.mem_map.mpr ⟨x, hx, rfl⟩)
    obtain ⟨j', hj', ej⟩ := List.getElem_of_mem hm
    rw [List.length_take] at hj'
    rw [List.getElem_take] at ej
    have := (W.rise hb k).get (i := j') (j := j) (a := x.1) (b := c) (by rw [List.getElem?_eq_getElem (by omega), ej]) hc (by omega)
    omega
theorem reasonsTo_len {Ks : List Str} {S : Sh} (W : WF Ks S) (k : Str) (os : List ((Int × Int) × Own)) (i : Nat) : (reasonsTo S.brs k os i).length ≤ i * 1000 := by
  induction i with
  | zero => simp [reasonsTo]
  | succ i ih =>
    cases h : S.brs[i]? with
    | none =>
      have : reasonsTo S.brs k os (i + 1) = reasonsTo S.brs k os i := by unfold reasonsTo; rw [List.take_add_one, h]; simp
      rw [this]; omega
    | some p =>
      rw [reasonsTo_succ (n := p.1) (b := p.2) h, List.length_append]
      have hb : aget S.brs p.1 = some p.2 := aget_of_mem (nodup_of_lt W.bks) (List.mem_of_getElem? h)
      have := kept_len W k p.1 (owOf os p.1) (belowKS S.brs k os p.1) (p.2.line k).length hb
      rw [List.take_length] at this
      have e : (rowsR p.1 (keptB S.brs k os p.1)).length = (keepL k p.1 (owOf os p.1) (belowKS S.brs k os p.1) (p.2.line k)).length := by
        unfold rowsR; rw [List.length_map, keptB_eq, lineAt_of hb]
      omega
end Vs
/-! ## A judgement more -/
namespace Vs
open PySem L2
section
variable {T : Cs} {H H1 : Hp} {S S' : Sh} {α α' : Rl → Addr} {δ δ' : Dl} {J J' : List Str} {G G' : Jud}
theorem valJ (J : List Str) (g : Str → V) (k : Str) : valV (J.map fun j => ((Sum.inr j : Key), g j)) (.inr k) = if k ∈ J then some (g k) else none := by
  induction J with
  | nil => rfl
  | cons j J ih =>
    rw [List.map_cons]
    by_cases e : j = k
    · subst e
      rw [valV_pos rfl, if_pos List.mem_cons_self]
    · rw [valV_neg (fun z => e (Sum.inr.inj z)), ih]
      by_cases m : k ∈ J
      · rw [if_pos m, if_pos (List.mem_cons_of_mem _ m)]
      · rw [if_neg m, if_neg (fun z => (List.mem_cons.mp z).elim (fun y => e y.symm) m)]
theorem Lay.gJd (L : Lay T H S α δ J G) (k : Str) : DGet H (α .jd) (.str k) (if k ∈ J then some (.ref (α (.jg k))) else none) := by
  rw [← valJ J (fun k => .ref (α (.jg k))) k]; exact DGet.k (k := Sum.inr k) L.jd
theorem Lay.stepS (L : Lay T H S α δ J G) (s : Sm H H1) {r0 : Rl} (l0 : Live S J r0) (o : HO) (f : ∀ r, Live S' J' r → (Live S J r ∧ α' r = α r) ∨ H (α' r) = none) : Step H (Foot S α J) (upd H1 (α r0) o) (Foot S' α' J') := by
  obtain ⟨o0, e0, c0⟩ := L.at_ r0 l0
  have n0 : NT o0 := fun ps z => Cont.nt (z ▸ c0)
  have e1 := s.keep _ _ e0 n0
  refine ⟨fun a x h t n => ⟨?_, fun ⟨r, hr, e⟩ => ?_⟩, fun P hP => ?_, fun a xs h => ?_⟩
  · rw [upd_ne (fun z => n ⟨r0, l0, z.symm⟩)]; exact s.keep a x h t
  · rcases f r hr with ⟨h1, h2⟩ | h1
    · exact n ⟨r, h1, h2.symm.trans e⟩
    · rw [e, h] at h1; cases h1
  · obtain ⟨ps, e, t⟩ := s.tab P hP
    exact ⟨ps, by rw [upd_ne (ne_of e e1 (fun z => n0 ps z.symm))]; exact e, t⟩
  · rw [upd_ne (L.notup l0 h)]; exact s.tups _ _ h
def aJg (α : Rl → Addr) (k : Str) (x po pr : Addr) : Rl → Addr
  | .jg j => if j = k then x else α (.jg j)
  | .ow j => if j = k then po else α (.ow j)
  | .rs j => if j = k then pr else α (.rs j)
  | r => α r
def OffJg (α α' : Rl → Addr) : Prop := ∀ r, (∀ k, r ≠ .jg k ∧ r ≠ .ow k ∧ r ≠ .rs k) → α' r = α r
theorem Lay.newJg (L : Lay T H S α δ J G) {k : Str} (hk : k ∉ J) {x dx po pr : Addr} (hx : H x = none) (hpo : H po = none) (hpr : H pr = none) (n1 : x ≠ po) (n2 : x ≠ pr) (n3 : po ≠ pr) (s : Sm H H1)
    (h1 : H1 x = some (.ins T.J dx [("owners", .ref po), ("reasons", .ref pr)])) {eo er : List (List Key × V)} {o1 : List ((Int × Int) × Own)} {r1 : List ((Int × Int) × Rsn)} (h2 : H1 po = some (.dT eo)) (h2' : OwRep H1 eo o1) (h3 : H1 pr = some (.dT er)) (h3' : RsRep H1 er r1) :
    Mv T H S α J (upd H1 (α .jd) (.dK (putK (J.map fun k => (.inr k, .ref (α (.jg k)))) (.inr k) (.ref x)))) S (aJg α k x po pr) ⟨fun r => if r = .jg k then dx else δ r, δ.fz⟩ (J ++ [k]) (fun j => if j = k then (o1, r1) else G j) := by
  have jd1 := s.dK L.jd
  have tp : Tups H1 (upd H1 (α .jd) (.dK (putK (J.map fun k => (.inr k, .ref (α (.jg k)))) (.inr k) (.ref x)))) := fun a xs h => by rw [upd_ne (ne_of h jd1 (by intro z; cases z))]; exact h
  have ex : aJg α k x po pr (.jg k) = x := if_pos rfl
  have eo' : aJg α k x po pr (.ow k) = po := if_pos rfl
  have er' : aJg α k x po pr (.rs k) = pr := if_pos rfl
  have mem : ∀ j, j ∈ J ++ [k] → j = k ∨ (j ∈ J ∧ j ≠ k) := fun j h => by
    rcases List.mem_append.mp h with z | z
    · exact .inr ⟨z, fun y => hk (y ▸ z)⟩
    · exact .inl (by simpa using z)
  have cl : ∀ r, Live S (J ++ [k]) r → (r = .jg k ∨ r = .ow k ∨ r = .rs k) ∨ (Live S J r ∧ aJg α k x po pr r = α r) := fun r hr => by
    cases r with
    | jg j =>
      rcases mem j hr with z | ⟨z, y⟩
      · exact .inl (.inl (by rw [z]))
      · exact .inr ⟨z, if_neg y⟩
    | ow j =>
      rcases mem j hr with z | ⟨z, y⟩
      · exact .inl (.inr (.inl (by rw [z])))
      · exact .inr ⟨z, if_neg y⟩
    | rs j =>
      rcases mem j hr with z | ⟨z, y⟩
      · exact .inl (.inr (.inr (by rw [z])))
      · exact .inr ⟨z, if_neg y⟩
    | sh => exact .inr ⟨hr, rfl⟩
    | brs => exact .inr ⟨hr, rfl⟩
    | hns => exact .inr ⟨hr, rfl⟩
    | jd => exact .inr ⟨hr, rfl⟩
    | br m => exact .inr ⟨hr, rfl⟩
    | lns m => exact .inr ⟨hr, rfl⟩
    | mks m => exact .inr ⟨hr, rfl⟩
    | ln m j => exact .inr ⟨hr, rfl⟩
    | hn m => exact .inr ⟨hr, rfl⟩
    | dr m => exact .inr ⟨hr, rfl⟩
  have kin : k ∈ J ++ [k] := List.mem_append.mpr (.inr (by simp))
  have at1 : ∀ {a : Addr} {o : HO}, H1 a = some o → H a = none → upd H1 (α .jd) (.dK (putK (J.map fun k => (.inr k, .ref (α (.jg k)))) (.inr k) (.ref x))) a = some o := fun {a o} e z => by
    rw [upd_ne (Ne.symm (L.nofr z (r := .jd) trivial))]; exact e
  have fr : ∀ r, Live S (J ++ [k]) r → (Live S J r ∧ aJg α k x po pr r = α r) ∨ H (aJg α k x po pr r) = none := fun r hr => by
    rcases cl r hr with (z | z | z) | z
    · subst z; exact .inr (by rw [ex]; exact hx)
    · subst z; exact .inr (by rw [eo']; exact hpo)
    · subst z; exact .inr (by rw [er']; exact hpr)
    · exact .inl z
  refine ⟨L.move (s.tups.trans tp) (fun r hr => ?_) (L.injOf fun r hr => ?_), L.stepS s (r0 := .jd) trivial _ fr⟩
  · rcases cl r hr with (z | z | z) | ⟨h0, e⟩
    · subst z
      refine .inr ⟨_, by rw [ex]; exact at1 h1 hx, kin, ?_⟩
      show _ = HO.ins _ (if Rl.jg k = Rl.jg k then dx else δ (.jg k)) (fJg k _)
      rw [if_pos rfl]
      unfold fJg
      rw [eo', er']
    · subst z
      refine .inr ⟨_, by rw [eo']; exact at1 h2 hpo, kin, eo, rfl, ?_⟩
      dsimp only
      rw [if_pos rfl]
      exact OwRep.tups tp h2'
    · subst z
      refine .inr ⟨_, by rw [er']; exact at1 h3 hpr, kin, er, rfl, ?_⟩
      dsimp only
      rw [if_pos rfl]
      exact RsRep.tups tp h3'
    · by_cases ej : r = .jd
      · subst ej
        refine .inr ⟨_, upd_same, ?_⟩
        show HO.dK _ = HO.dK _
        rw [putK_new _ (by rw [valJ J (fun k => .ref (α (.jg k))) k, if_neg hk]), List.map_append]
        congr 1
        congr 1
        · apply List.map_congr_left
          intro j hj
          show _ = ((Sum.inr j : Key), V.ref (if j = k then x else α (.jg j)))
          have nj : j ≠ k := fun y => hk (y ▸ hj)
          rw [if_neg nj]
        · show _ = [((Sum.inr k : Key), V.ref (if k = k then x else α (.jg k)))]
          rw [if_pos rfl]
      · refine .inl ⟨h0, e, ?_, fun o c => ?_⟩
        · obtain ⟨o, q, c⟩ := L.at_ r h0
          rw [upd_ne (L.ne (r' := .jd) h0 trivial ej), q]
          exact s.keep _ _ q fun ps z => Cont.nt (z ▸ c)
        · cases r with
          | jd => exact absurd rfl ej
          | jg j =>
            obtain ⟨c1, c2⟩ := c
            have nj : j ≠ k := fun y => hk (y ▸ c1)
            refine ⟨List.mem_append.mpr (.inl c1), ?_⟩
            rw [c2]
            show _ = HO.ins _ (if Rl.jg j = Rl.jg k then dx else δ (.jg j)) [(_, V.ref (if j = k then po else α (.ow j))), (_, V.ref (if j = k then pr else α (.rs j)))]
            rw [if_neg (fun y => nj (Rl.jg.inj y)), if_neg nj, if_neg nj]
            rfl
          | ow j =>
            obtain ⟨c1, c2⟩ := c
            have nj : j ≠ k := fun y => hk (y ▸ c1)
            refine ⟨List.mem_append.mpr (.inl c1), ?_⟩
            dsimp only
            rw [if_neg nj]
            exact c2
          | rs j =>
            obtain ⟨c1, c2⟩ := c
            have nj : j ≠ k := fun y => hk (y ▸ c1)
            refine ⟨List.mem_append.mpr (.inl c1), ?_⟩
            dsimp only
            rw [if_neg nj]
            exact c2
          | sh => exact c
          | brs => exact c
          | hns => exact c
          | br m => exact c
          | lns m => exact c
          | mks m => exact c
          | ln m j => exact c
          | hn m => exact c
          | dr m => exact c
  · rcases cl r hr with (z | z | z) | h0
    · subst z
      refine .inr ⟨by rw [ex]; exact hx, fun r' hr' y e' => ?_⟩
      rcases cl r' hr' with (z | z | z) | ⟨h2, e2⟩
      · exact z.symm
      · rw [z, ex, eo'] at e'; exact absurd e' n1
      · rw [z, ex, er'] at e'; exact absurd e' n2
      · obtain ⟨o, q⟩ := L.there h2
        rw [e2, q] at y; cases y
    · subst z
      refine .inr ⟨by rw [eo']; exact hpo, fun r' hr' y e' => ?_⟩
      rcases cl r' hr' with (z | z | z) | ⟨h2, e2⟩
      · rw [z, ex, eo'] at e'; exact absurd e'.symm n1
      · exact z.symm
      · rw [z, eo', er'] at e'; exact absurd e' n3
      · obtain ⟨o, q⟩ := L.there h2
        rw [e2, q] at y; cases y
    · subst z
      refine .inr ⟨by rw [er']; exact hpr, fun r' hr' y e' => ?_⟩
      rcases cl r' hr' with (z | z | z) | ⟨h2, e2⟩
      · rw [z, ex, er'] at e'; exact absurd e'.symm n2
      · rw [z, eo', er'] at e'; exact absurd e'.symm n3
      · exact z.symm
      · obtain ⟨o, q⟩ := L.there h2
        rw [e2, q] at y; cases y
    · exact .inl h0
end
end Vs
/-! ## list(d.values()) -/
namespace Vs
open PySem PySem.Spec PyProof.Rows L2
def tListVals (te : TE) : TE := fun σ H Q => te σ H fun x H1 => ∃ (d : Addr) (kvs : List (Key × V)), x = .ref d ∧ Rd H1 d (.dK kvs) ∧ ∀ p, H1 p = none → Q (.ref p) (upd H1 p (.lst (kvs.map (·.2))))
theorem vals_by : ∀ {kvs : List (Key × V)} {ws : List (Key × Value)} {us : List Value}, KV kvs ws → us.length = ws.length → (∀ (j : Nat) (k : Key) (v : Value), ws[j]? = some (k, v) → us[j]? = some v) → Vals (kvs.map (·.2)) us
  | _, _, us, .nil, hl, _ => by
    cases us with
    | nil => exact .nil
    | cons a us => cases hl
  | _, _, us, @Paired.cons _ _ _ a b kvs ws h t, hl, f => by
    cases us with
    | nil => cases hl
    | cons u us =>
      have e : u = b.2 := by
        have := f 0 b.1 b.2 rfl
        simpa using this
      subst e
      exact .cons h.2 (vals_by t (Nat.succ.inj hl) fun j k v q => by simpa using f (j + 1) k v q)
section
variable {X : Cx} {e : Expr} {te : TE} {p apos cpos pos : Pos}
theorem pe_listVals (calm : X.calm = true) (he : PE X e te) (hg : Gl X "list") (hm : X.mg "list" = none) (hv : bootBuiltins "list" = some (.type "list")) (hbase : attributeBase e "values" X.env (eval e X.env) = eval e X.env := by rfl)
    (hline : (apos.endLine == cpos.line) = true := by rfl)
    (hs : starEach [.Call (.Attribute e "values" apos) [] [] cpos] X.env = (false, eval (.Call (.Attribute e "values" apos) [] [] cpos) X.env) :: starEach [] X.env := by rfl) :
    PE X (.Call (.Name "list" p) [.Call (.Attribute e "values" apos) [] [] cpos] [] pos) (tListVals te) := by
  constructor
  intro pins z σ H Q I pre
  refine wpAny_Call_Name_kw (ld_blt I hg hm hv (PyProof.Rows.callWith_type1 ?_ hs rfl))
  rw [hs]
  refine Calls.spliced_cons (wpAny_Call_method (T := "dict") (id := "dict.values") hbase rfl hline F.plainAttrs_dict F.slot_dict_values F.type_dict_values (thn (he.run pins z σ H _ I pre) fun u z1 ⟨x, H1, I1, rx, d, kvs, ex, hd, q⟩ => ?_))
  subst ex
  obtain rfl : u = Value.ref d := rx
  obtain ⟨size, low, ws, kv, dict⟩ := dk_rd I1.hok hd
  obtain ⟨es, ep, raw, len, ent⟩ := dict.raw
  have I2 : Inv X pins σ H1 { z1 with heap := z1.heap.push { cls := .type "dict_values", data := .fields #[.ref d] } } := I1.kept (t' := z1.toks) fun b o y => Heap.get?_push_of_some _ y
  refine ⟨dict.typeIs, dict.mapOf.noDict, ?_⟩
  show wpAny _ _ (callWith cpos (.builtin "dict.values") [.ref d] [] []) _ X.xe z1
  refine method_meetsIn F.slot_dict_values F.entry_dict_values rfl (PySem.evalArgs_none ⟨rfl, dict.typeIs, F.args_dict_values_1 _, _, meets_dict_values (mixKind X.prog X.w) d low, ⟨ws, dict⟩, ?_⟩)
  refine Calls.spliced_nil ?_
  refine PySem.W.kdl_call (PySem.KdlSrc.rawValues (es := es) (ep := ep)) (I1.ok.hd calm) ⟨⟨_, Heap.get?_push_size _ rfl, rfl, rfl⟩, raw.push _⟩ (by rw [len, ← Paired.length kv]; exact size) fun h' tk acc c hk hD got => ?_
  have al : acc.toList.length = ws.length := by rw [Array.length_toList, got.1, len]
  have vals : Vals (kvs.map (·.2)) acc.toList := vals_by kv al fun j k v y => by
    have jl : j < ws.length := (List.getElem?_eq_some_iff.mp y).1
    have ja : j < acc.toList.length := by omega
    have g := got.2 j (acc.toList[j]) (by rw [← Array.getElem?_toList]; exact List.getElem?_eq_getElem ja)
    obtain ⟨hi, ev⟩ := g
    rw [List.getElem?_eq_getElem ja, ev, (ent j hi k v y).2]
  exact ⟨.ref _, upd H1 _ (.lst (kvs.map (·.2))), I2.laid (t' := tk) hk (Nat.le_refl _) (show ObjOk X.prog X.w _ _ _ (.lst (kvs.map (·.2))) from ⟨by rw [List.length_map]; exact size, acc.toList, c, vals, by rw [Array.toArray_toList]; exact hD⟩), rfl,
    q _ (I2.hok.fresh (Nat.le_refl _))⟩
end
end Vs
/-! ## all(x in NAME for x in text), where NAME is a text of the module -/
namespace Vs
open PySem PySem.Spec PyProof.Rows L2 GxR
/-- the element's test reads its own name and the module's names -/
def EltM (prog : Program) (w : World) (mg : Str → Option Value) (scope : Scope) (x : Str) (elt : Expr) (pb : Nat → Bool) : Prop :=
  ∀ (ce : Env) (B : Around) (R : Value → Shared → Prop) (c : Nat) (t : Tok) (z : Shared) (m : Str → Option Value), ce.scope = scope → ce.globals = mainGlobals → z.heap.Ns mainGlobals mg → z.heap.Ns ce.locals m →
    m x = some (.str ⟨#[c]⟩ t) → wpAny (model prog w) B (eval elt ce) (fun y z' => y = .bool (pb c) ∧ Keeps z z') R z
theorem eltM_in {prog : Program} {w : World} {mg : Str → Option Value} {scope : Scope} {x g z : Str} {p1 p2 p3 : Pos} {tz : Tok} (hk : scope.kind = .function) (hl : scope.names.lookup x = some .local)
    (hg : scope.names.lookup g = some .globalImplicit) (hm : mg g = some (.str z tz)) (hd : (x == ("__debug__" : Str)) = false := by decide) (hd2 : (g == ("__debug__" : Str)) = false := by decide) (nb : behindInMarks .In (.Name g p2) = false := by rfl) :
    EltM prog w mg scope x (.Compare (.Name x p1) [.In] [.Name g p2] p3) (fun c => decide (c ∈ z.cps.toList)) := by
  intro ce B R c t s m hs hgl hmn hn hx
  refine wpAny_Compare1 (hm := nb) ?_
  refine wpAny_Name (wpAny_loadName_local (by rw [hs, hk]) (show ce.scope.names.lookup x = some .local by rw [hs, hl]) hn hx ?_) hd
  refine Calls.Name_function_global (by rw [hs, hk]) (show ce.scope.names.lookup g = some .globalImplicit by rw [hs, hg]) (Calls.loadGlobal_global (by rw [hgl]; exact hmn) hm ?_) hd2
  refine PyProof.Rows.in_str ?_
  refine ⟨?_, keeps_refl _⟩
  rw [PySem.StrLaws.found_one z c]
section
variable {X : Cx} {pins : List (Addr × Obj)} {σ : L2.St} {H : Hp} {s : Shared}
theorem ns_at {h h' : Heap} {a : Addr} {m : Str → Option Value} (n : h.Ns a m) (k : ∀ o, h.get? a = some o → h'.get? a = some o) : h'.Ns a m := by
  obtain ⟨o, es, ep, e, r⟩ := n
  exact ⟨o, es, ep, k o e, r⟩
theorem gen_in {c P : Addr} {elt iter : Expr} {x : Str} {px gpos : Pos} {scope : Scope} {pb : Nat → Bool} {te : TE} {k : Nat} {Y : Value → Shared → Prop} {R : Str → Hp → Prop}
    (room : Room k X.A) (tb : TabB X.base X.mg c P) (code : X.env.code = .ref c) (gs : GenS X.env scope x) (it : PE X iter te) (el : EltM X.prog X.w X.mg scope x elt pb)
    (fold : ∀ v, genFold iter X.env v = pure v) (I : Inv X pins σ H s) (pre : te σ H fun v H1 => ∃ a : Str, v = .str a ∧ TabG H1 P ∧ R a H1)
    (post : ∀ a H1 g z, R a H1 → Ready X pins σ H1 P a pb g z → Y (.ref g) z) :
    wpAny (model X.prog X.w) X.A (eval (.GeneratorExp elt [⟨.Name x px, iter, [], 0⟩] scope gpos) X.env) Y X.xe s := by
  refine wpAny_GeneratorExp_walksQ room.hd gs.co (closure_ok gs.free) gs.cell gs.dot gs.loc gs.kind (by have d := room.dp; omega) ?_ fold
  refine thn (it.run pins s σ H _ I pre) fun xv z1 ⟨v, H1, J1, rv, q⟩ => ?_
  obtain ⟨a, rfl, ⟨ps, tP, tO⟩, q⟩ := q
  obtain ⟨tk0, rfl⟩ := _root_.id rv
  refine wpAny_pyIter_str fun ob Stt Wk st0 => ?_
  have p1 : z1.heap.get? P = some { cls := .none, data := .fields ps } := J1.hok P _ tP
  have pl : P < z1.heap.objs.size := Heap.lt_size p1
  have p2 : (z1.heap.push ob).get? P = some { cls := .none, data := .fields ps } := Heap.get?_push_of_some _ p1
  have hd2 : PySem.W.CodeHd (z1.heap.push ob) c P := tb.code.keeps fun b u e => Heap.get?_push_of_some _ (J1.bk b u e)
  have nl : (z1.heap.push ob).NoLimit := J1.nolimit.push ob
  have gl : mainGlobals < z1.heap.objs.size := let ⟨_, _, _, e, _⟩ := J1.mod.glob.keeps J1.bk; Heap.lt_size e
  refine ⟨nl, ?_⟩
  have first : wpAny (model X.prog X.w) X.A (genexprCode X.env gpos (X.env.qual ++ Str.ofString "<genexpr>") scope) (fun _ z => ∃ (h3 : Heap) (tk : Nat) (qs : Array Value), z = { z1 with heap := h3, toks := tk } ∧
      Heap.ExtBut P (z1.heap.push ob) h3 ∧ (z1.heap.push ob).objs.size ≤ h3.objs.size ∧ h3.get? P = some { cls := .none, data := .fields qs } ∧ (∃ more, qs = ps ++ more) ∧ TriplesOk qs.toList) X.xe { z1 with heap := z1.heap.push ob } := by
    cases hf : codeAmong gpos ps.toList with
    | none =>
      refine wpAny_genexprCodeX code (hd2.code p2 tO) (hd2.tab p2) hf fun c' h' tk ext ge lt co _ tab' _ => ?_
      obtain ⟨_, _, _, _, _, _, _, _, _, _, _, _, _, _, _, _, _, _, _, tr, _⟩ := co
      exact ⟨h', tk, _, rfl, ext, Nat.le_trans ge (Nat.le_of_lt lt), tab'.2, ⟨_, rfl⟩, tr⟩
    | some cv => exact wpAny_genexprCode_hit code (hd2.code p2 tO) hf ⟨z1.heap.push ob, z1.toks, ps, rfl, Heap.ExtBut.refl _ _, Nat.le_refl _, p2, ⟨#[], by simp⟩, tO⟩
  refine wpAny_mono first (fun cv z3 hz => ?_) fun _ _ e => e
  · obtain ⟨h3, tk, qs, rfl, ext, big, p3, grown, tO3⟩ := hz
    obtain ⟨bm, ob', b1, b2, b3, b4, b5, b6, b7, b8⟩ := tb.bm
    have cP : cStatics ≠ P := fun e => by
      obtain ⟨_, ns, _⟩ := J1.nolimit
      obtain ⟨o', es, ep, h1, h2, _⟩ := ns
      rw [e, p1] at h1
      cases h1; cases h2
    have cl : cStatics < z1.heap.objs.size := let ⟨_, ns, _⟩ := J1.nolimit; ns.lt
    have kp : ∀ b u, b ≠ P → z1.heap.get? b = some u → h3.get? b = some u := fun b u nb e => ext b u nb (Heap.get?_push_of_some _ e)
    have mgl : h3.Ns mainGlobals X.mg := ns_at (J1.mod.glob.keeps J1.bk) fun o e => kp _ _ tb.gP e
    have sp : (z1.heap.push ob).objs.size = z1.heap.objs.size + 1 := Heap.size_push ..
    refine wpAny_builtinsFor (m := X.mg) (by rw [J1.ok.glob]; exact mgl) b1 b2 (kp _ _ b4 (J1.bk _ _ b5)) b6 b7 b8 ?_
    refine ⟨z1.heap.objs.size, [z1.heap.objs.size], [z1.heap.objs.size], a.cps.size, SignAt a, Stt, (fun _ => true), (fun i y => ∃ d, a.cps[i]? = some d ∧ y = .bool (pb d)), rfl, Wk, ?_, ?_, nl.extBut ext cP, ?_, ?_, ?_⟩
    · exact (Wk X.A room.hd).frame _ _ _ st0 fun b hb u e => ext b u (fun z => by
        have hbz : @Eq Nat b z1.heap.objs.size := by simpa using hb
        exact Nat.ne_of_lt pl (z.symm.trans hbz)) e
    · intro b hb
      have hbz : @Eq Nat b z1.heap.objs.size := by simpa using hb
      have l2 : z1.heap.objs.size + 1 ≤ h3.objs.size := sp ▸ big
      exact Nat.lt_of_lt_of_le (hbz ▸ Nat.lt_succ_self _) l2
    · intro z
      have hz : @Eq Nat cStatics z1.heap.objs.size := by simpa using z
      exact Nat.ne_of_lt cl hz
    · intro hr ex
      refine ⟨fun B E' i v z m hB hv hn hm hk => ?_, fun B E' i v z m hB hv hp hn hm hk => ?_⟩
      · simp only [List.forIn_nil]
        exact wpAny_pure ⟨rfl, keeps_refl _⟩
      · obtain ⟨d, u, e, rfl⟩ := hv
        have g3 : mainGlobals < h3.objs.size := by
          have l2 : z1.heap.objs.size + 1 ≤ h3.objs.size := sp ▸ big
          exact Nat.lt_of_lt_of_le gl (Nat.le_trans (Nat.le_succ _) l2)
        have gz : z.heap.Ns mainGlobals X.mg := ns_at mgl fun o e' => hk mainGlobals (List.mem_range.mpr g3) (fun z' => by
          have hz : @Eq Nat mainGlobals z1.heap.objs.size := by simpa using z'
          exact Nat.ne_of_lt gl hz) o (ex _ _ e')
        exact wpAny_mono (el _ B E' d u z m rfl (by show X.env.globals = _; exact J1.ok.glob) gz hn hm) (fun y z' r => ⟨⟨d, e, r.1⟩, r.2⟩) fun _ _ e' => e'
    · intro g h5 tk5 gst bare gt sz5 k5 W5 gat
      simp only [GxR.passing_true, List.length_range] at W5
      refine post a H1 g _ q ⟨_, _, _, _, _, W5.in4_1, gat, ?_, fun z' mv => ?_⟩
      · intro j y sj Qj Ej hy hQ
        obtain ⟨i, hi, d, e, rfl⟩ := hy
        obtain ⟨_, ej⟩ := List.getElem?_eq_some_iff.mp hi
        rw [List.getElem_range] at ej
        subst ej
        have e9 : a.cps.toList[j]? = some d := by rw [Array.getElem?_toList]; exact e
        have hQ2 : Qj (trF pb a.cps.toList j) sj := hQ
        rw [trF_some e9] at hQ2
        exact wpAny_truthy_bool hQ2
      · obtain ⟨more, em⟩ := grown
        have off : ∀ b u, z1.heap.get? b = some u → b ∉ h3.objs.size :: [z1.heap.objs.size] := fun b u e hb => by
          have l1 := Heap.lt_size e
          have l2 : z1.heap.objs.size + 1 ≤ h3.objs.size := sp ▸ big
          have hbz : @Eq Nat b h3.objs.size ∨ @Eq Nat b z1.heap.objs.size := by simpa using hb
          rcases hbz with z | z
          · exact Nat.lt_irrefl _ (Nat.lt_of_lt_of_le (z ▸ l1) (Nat.le_trans (Nat.le_succ _) l2))
          · exact Nat.lt_irrefl _ (z ▸ l1)
        have J := inv_tab (more := more) (h' := z'.heap) (g' := z'.gens) (d' := z'.drawn) (t' := z'.toks) J1 tP (fun b u nb e => mv.heap b u (off b u e) (k5 b u (kp b u nb e)))
          (by rw [← em]; exact mv.heap P _ (off P _ p1) (k5 P _ p3)) (AllBare.movedS (J1.bare.push bare) mv)
        rw [sh_eta z1 z' mv.os] at J
        exact ⟨upd H1 P (.tbl (ps ++ more)), ⟨⟨ps ++ more, upd_same, by rw [← em]; exact tO3⟩, fun b nb => upd_ne nb⟩, J⟩
theorem pe_allM {c P : Addr} {elt iter : Expr} {x : Str} {px p pos gpos : Pos} {scope : Scope} {pb : Nat → Bool} {te : TE} {k : Nat}
    (room : Room k X.A) (hg : Gl X "all") (hm : X.mg "all" = none) (hb : bootBuiltins "all" = some (.builtin "all")) (tb : TabB X.base X.mg c P) (code : X.env.code = .ref c) (gs : GenS X.env scope x) (it : PE X iter te)
    (el : EltM X.prog X.w X.mg scope x elt pb) (fold : ∀ v, genFold iter X.env v = pure v)
    (he : starEach [.GeneratorExp elt [⟨.Name x px, iter, [], 0⟩] scope gpos] X.env = (false, eval (.GeneratorExp elt [⟨.Name x px, iter, [], 0⟩] scope gpos) X.env) :: starEach [] X.env := by rfl) :
    PE X (.Call (.Name "all" p) [.GeneratorExp elt [⟨.Name x px, iter, [], 0⟩] scope gpos] [] pos) (tAllS P pb te) := by
  constructor
  intro pins s σ H Q I pre
  refine wpAny_Call_Name_kw (ld_blt I hg hm hb (PyProof.Rows.callWith_builtin1 ?_ he (by rfl)))
  rw [he]
  refine Calls.spliced_cons (gen_in (R := fun a H1 => ∀ H2, Tabbed P H1 H2 → Q (.bl (a.cps.toList.all pb)) H2) room tb code gs it el fold I pre fun a H1 g z hR ready => Calls.spliced_nil ?_)
  obtain ⟨fp, wr, G, F, Stt, Wk, st, tr, go⟩ := ready
  refine call_all_walkS (Wk.self 0 _ _ _ st ⟨g, fp, wr, G, _, F, Stt, _, rfl, Wk, st, tr, fun z' mv => ?_⟩)
  obtain ⟨H2, hT, J⟩ := go z' mv
  exact ⟨.bl _, H2, J, rfl, by rw [all_signs a pb]; exact hR H2 hT⟩
end
end Vs
namespace Vs
open PySem L2
def topS (i : Nat) : Stmt := PySem.Challenge.pw_versionshelf_k14_deep_branches.main.body.getD i (.Pass ⟨0, 0, 0, 0⟩)
abbrev s_newest : Stmt := (topS 2)
abbrev s_seen_value : Stmt := (topS 3)
abbrev s_seen_by_hand : Stmt := (topS 4)
abbrev s_all_seen_by_hand : Stmt := (topS 5)
abbrev s_take_version : Stmt := (topS 7)
abbrev s_first_moments : Stmt := (topS 8)
abbrev s_take_marks : Stmt := (topS 9)
abbrev s_take_branches : Stmt := (topS 10)
abbrev s_Clash___init__ : Stmt := (inClass (topS 17) 0)
abbrev s_Branch___init__ : Stmt := (inClass (topS 20) 0)
abbrev s_Hand___init__ : Stmt := (inClass (topS 21) 0)
abbrev s_Judgement___init__ : Stmt := (inClass (topS 23) 0)
abbrev s_views_of_somebody : Stmt := (topS 24)
abbrev s_reached : Stmt := (topS 25)
abbrev s_reached_beneath : Stmt := (topS 26)
abbrev s_first_owners : Stmt := (topS 27)
abbrev s_reason_to_stay : Stmt := (topS 28)
abbrev s_reasons_to_stay : Stmt := (topS 29)
abbrev s_judge : Stmt := (topS 30)
abbrev s_births_with_next : Stmt := (topS 31)
abbrev s_can_go : Stmt := (topS 32)
abbrev s_is_key : Stmt := (topS 37)
abbrev s_is_value : Stmt := (topS 38)
abbrev s_Shelf___init__ : Stmt := (inClass (topS 40) 0)
abbrev s_Shelf_begin : Stmt := (inClass (topS 40) 1)
abbrev s_Shelf_twin : Stmt := (inClass (topS 40) 2)
abbrev s_Shelf_fork : Stmt := (inClass (topS 40) 3)
abbrev s_Shelf_drop : Stmt := (inClass (topS 40) 4)
abbrev s_Shelf_close : Stmt := (inClass (topS 40) 5)
abbrev s_Shelf_look : Stmt := (inClass (topS 40) 6)
abbrev s_Shelf_keys : Stmt := (inClass (topS 40) 7)
abbrev s_Shelf_differ : Stmt := (inClass (topS 40) 8)
abbrev s_Shelf_write : Stmt := (inClass (topS 40) 9)
abbrev s_Shelf_erase : Stmt := (inClass (topS 40) 10)
abbrev s_Shelf_commit : Stmt := (inClass (topS 40) 11)
abbrev s_Shelf_sweep : Stmt := (inClass (topS 40) 12)
abbrev s_Shelf_cells : Stmt := (inClass (topS 40) 13)
abbrev s_Shelf_reason : Stmt := (inClass (topS 40) 14)
abbrev s_Shelf_marked : Stmt := (inClass (topS 40) 15)
abbrev s_Shelf_standing : Stmt := (inClass (topS 40) 16)
abbrev s_Shelf_branch_there : Stmt := (inClass (topS 40) 17)
abbrev s_Shelf_hand_there : Stmt := (inClass (topS 40) 18)
abbrev s_Shelf_add_hand : Stmt := (inClass (topS 40) 19)
abbrev s_Shelf_let_go : Stmt := (inClass (topS 40) 20)
abbrev s_Shelf_settle : Stmt := (inClass (topS 40) 21)
abbrev s_Shelf_judgement : Stmt := (inClass (topS 40) 22)
abbrev s_check_key : Stmt := (topS 41)
abbrev s__law_taken : Stmt := (topS 43)
abbrev s__law_whole : Stmt := (topS 44)
abbrev s__law_same : Stmt := (topS 45)
abbrev s__law_made : Stmt := (topS 46)
abbrev s__law_seen_by : Stmt := (topS 47)
abbrev s__law_branches : Stmt := (topS 48)
abbrev s__law_left : Stmt := (topS 49)
abbrev s_law : Stmt := (topS 50)
end Vs
namespace Vs
open PySem L2
structure Bt (mg : Str → Option Value) : Prop where
  len : mg "len" = none
  sorted : mg "sorted" = none
  list : mg "list" = none
  zip : mg "zip" = none
  set : mg "set" = none
  min : mg "min" = none
  all : mg "all" = none
  range : mg "range" = none
  isinstance : mg "isinstance" = none
  int : mg "int" = none
section
variable {P : Program} {w : World} {K : PySem.W.Frag} {mg : Str → Option Value} {base : Heap} {T : Cs}
def spNewest (K : PySem.W.Frag) : Sp := fun vs H Q _ => ∃ (a : Addr) (m : Int) (rs : List V) (l : List Cel), vs = [.ref a, .int m] ∧ SqL K H a rs ∧ Cels H rs l ∧ Rise l ∧ Q (.int ((cnt l m : Int) - 1)) H
theorem sc_newest : FnScope ["line", "moment", "low", "high", "middle"] ["line", "moment"] (defScope s_newest) := ⟨rfl, rfl, rfl, by decide +kernel, rfl, by decide +kernel, by decide +kernel⟩
theorem ifT {b : Bool} {A B : Prop} (hb : b = true) (h : A) : if b = true then A else B := by rw [if_pos hb]; exact h
theorem ifF {b : Bool} {A B : Prop} (hb : b = false) (h : B) : if b = true then A else B := by rw [hb]; exact h
theorem vEq {Q : VK} {v v' : V} {H : Hp} (e : v' = v) (h : Q v' H) : Q v H := by rw [← e]; exact h
theorem Cels.get {H : Hp} : ∀ {rs : List V} {l : List Cel}, Cels H rs l → ∀ {i : Nat} {c : Cel}, l[i]? = some c → ∃ t, rs[i]? = some (.ref t) ∧ H t = some (.tup [.int c.1, optV c.2])
  | _, _, .nil, i, c, e => by simp at e
  | _, _, .cons h r, 0, c, e => by
    obtain ⟨t, e1, e2⟩ := h
    simp at e; subst e
    exact ⟨t, by rw [e1]; rfl, e2⟩
  | _, _, .cons h r, i + 1, c, e => by
    obtain ⟨t, e1, e2⟩ := Cels.get r (i := i) (c := c) (by simpa using e)
    exact ⟨t, by simpa using e1, e2⟩
theorem Cels.length {H : Hp} {rs : List V} {l : List Cel} (h : Cels H rs l) : rs.length = l.length := Paired.length h
theorem ok_newest {f : Addr} {fd : FuncData} (F : Fun K "newest" "newest" s_newest f fd) (B : Bt mg) : FnOk P w K mg base CX0 1 f fd ["line", "moment"] (spNewest K) := by
  refine F.ok sc_newest (fun vs H Q E h => ?_) (fun cdv A outer s H vs Q E hr h => ?_)
  · obtain ⟨a, m, rs, l, rfl, _⟩ := h
    rfl
  · obtain ⟨a, m, rs, l, rfl, hS, hC, hR, k⟩ := h
    refine ⟨_, pss_cons (ps_set (i := 2) sc_newest.nd rfl (.inl rfl) pe_int)
      (pss_cons (ps_set (i := 3) sc_newest.nd rfl (.inl rfl) (pe_callB call_len_seq (by rfl) B.len PySem.boot_len (pa_cons (pv 0) pa_nil)))
      (pss_cons (ps_while PassesOwn.never (pt_cmpR op_lt (pv 2) (pv 3) (nomark _))
        (pss_cons (ps_set (i := 4) sc_newest.nd rfl (.inl rfl) (pe_op op_fdiv (pe_op op_add (pv 2) (pv 3)) pe_int))
        (pss_one (ps_if (pt_cmpR op_le (pe_ix ix_tup (pe_ix ix_list (pv 0) (pv 4) (fun _ _ => rfl)) pe_int (fun _ _ => rfl)) (pv 1) (nomark _))
          (pss_one (ps_set (i := 2) sc_newest.nd rfl (.inl rfl) (pe_op op_add (pv 4) pe_int)))
          (pss_one (ps_set (i := 3) sc_newest.nd rfl (.inl rfl) (pv 4)))))))
      (pss_one (ps_ret (pe_op op_sub (pv 2) pe_int))))), ?_⟩
    refine ⟨_, rfl, a, _, rfl, .inl hS, ?_⟩
    have hlen := hC.length
    refine while_by (fun σ H1 => H1 = H ∧ ∃ (lo hi : Nat) (x : Option V), σ = [some (.ref a), some (.int m), some (.int lo), some (.int hi), x] ∧ lo ≤ hi ∧ hi ≤ l.length ∧
        (∀ i c, l[i]? = some c → i < lo → c.1 ≤ m) ∧ (∀ i c, l[i]? = some c → hi ≤ i → ¬ c.1 ≤ m))
      (fun σ _ => match σ with | [_, _, some (.int lo), some (.int hi), _] => (hi - lo).toNat | _ => 0)
      ⟨rfl, 0, l.length, none, by rw [hlen]; rfl, Nat.zero_le _, Nat.le_refl _, fun i c _ h => absurd h (Nat.not_lt_zero _), fun i c e h => by
        have := (List.getElem?_eq_some_iff.mp e).1; omega⟩ ?_ ?_
    · rintro σ H1 ⟨rfl, lo, hi, x, rfl, h1, h2, h3, h4⟩
      refine ⟨_, rfl, _, rfl, _, _, rfl, rfl, _, rfl, ?_⟩
      by_cases hlt : lo < hi
      · refine ifT (decide_eq_true (by omega)) ?_
        refine ⟨_, rfl, _, rfl, _, _, rfl, rfl, _, _, rfl, rfl, ⟨by decide, by decide⟩, ?_⟩
        have hmid : ((lo : Int) + (hi : Int)) / 2 = (((lo + hi) / 2 : Nat) : Int) := by omega
        obtain ⟨mid, hm⟩ : ∃ mid, mid = (lo + hi) / 2 := ⟨_, rfl⟩
        dsimp only
        rw [hmid, ← hm]
        have hmid1 : lo ≤ mid ∧ mid < hi := by omega
        have hmlt : mid < l.length := by omega
        obtain ⟨t, ht1, ht2⟩ := hC.get (i := mid) (c := l[mid]) (List.getElem?_eq_getElem hmlt)
        refine ⟨_, rfl, _, rfl, a, _, _, _, rfl, rfl, hS, atI_nat ht1, t, _, _, _, rfl, rfl, SqT.of ht2, rfl, _, rfl, _, _, rfl, rfl, _, rfl, ?_⟩
        refine ite2 (fun c => ?_) (fun c => ?_)
        · have c' : l[mid].1 ≤ m := by simpa using c
          refine ⟨_, rfl, _, _, rfl, rfl, ⟨rfl, mid + 1, hi, _, rfl, by omega, h2, fun i x e hi' => ?_, h4⟩, ?_⟩
          · by_cases z : i = mid
            · subst z; rw [List.getElem?_eq_getElem hmlt] at e; cases e; exact c'
            · have := hR.get e (List.getElem?_eq_getElem hmlt) (by omega); omega
          · show ((hi : Int) - ((mid : Int) + 1)).toNat < ((hi : Int) - (lo : Int)).toNat
            omega
        · have c' : ¬ l[mid].1 ≤ m := by simpa using c
          refine ⟨_, rfl, ⟨rfl, lo, mid, _, rfl, by omega, by omega, h3, fun i x e hi' => ?_⟩, ?_⟩
          · by_cases z : i = mid
            · subst z; rw [List.getElem?_eq_getElem hmlt] at e; cases e; exact c'
            · have := hR.get (List.getElem?_eq_getElem hmlt) e (by omega); omega
          · show ((mid : Int) - (lo : Int)).toNat < ((hi : Int) - (lo : Int)).toNat
            omega
      · refine ifF (decide_eq_false (by omega)) ?_
        have e : cnt l m = lo := cnt_split (by omega) h3 (fun i c e hi' => h4 i c e (by omega))
        refine ⟨_, rfl, _, _, rfl, rfl, ?_⟩
        rw [← e]; exact k
    · rintro σ H1 Q1 Q2 hq ⟨v, e, v', e', i, j, h5, h6, b, h7, h8⟩
      exact ⟨v, e, v', e', i, j, h5, h6, b, h7, hq _ _ h8⟩
end
end Vs
namespace Vs
open PySem L2
structure Cf (K : PySem.W.Frag) (T : Cs) : Prop where
  S : Cls K T.S
  B : Cls K T.B
  N : Cls K T.N
  J : Cls K T.J
  sNow : NoAttr K T.S "now"
  sBrs : NoAttr K T.S "branches"
  sBm : NoAttr K T.S "branches_made"
  sHns : NoAttr K T.S "hands"
  sHm : NoAttr K T.S "hands_made"
  sJd : NoAttr K T.S "judged"
  bBen : NoAttr K T.B "beneath"
  bMom : NoAttr K T.B "moment"
  bAl : NoAttr K T.B "alive"
  bLn : NoAttr K T.B "lines"
  bMk : NoAttr K T.B "marks"
  nBr : NoAttr K T.N "branch"
  nMom : NoAttr K T.N "moment"
  nDr : NoAttr K T.N "drafts"
  jOw : NoAttr K T.J "owners"
  jRs : NoAttr K T.J "reasons"
/-- where a def stands: its function, its arguments -/
structure At (K : PySem.W.Frag) (mg : Str → Option Value) (x : Str) (st : Stmt) (ps : List Str) (f : Addr) (fd : FuncData) : Prop where
  F : Fun K x x st f fd
  g : mg x = some (.ref f)
  k : PySem.W.keepIn K (.ref f) = true
  b : Binds K fd ps []
section
variable {P : Program} {w : World} {K : PySem.W.Frag} {mg : Str → Option Value} {base : Heap} {T : Cs}
theorem le1000000 {n : Nat} (h : n ≤ 1000000) : n < sizeLine := Nat.lt_of_le_of_lt h (by rw [sizeLine_eq]; decide)
/-- d.get(k, x) of a branch's lines: the line or what was given -/
theorem Lay.getLine {H : Hp} {S : Sh} {α : Rl → Addr} {δ : Dl} {J : List Str} {G : Jud} (L : Lay T H S α δ J G) {n : Int} {b : Br} (hb : aget S.brs n = some b) (k : Str) {H' : Hp} (s : Sm H H') {z : Addr} (hz : H' z = some (.lst [])) :
    ∃ o rs a, DGet H' (α (.lns n)) (.str k) o ∧ o.getD (.ref z) = .ref a ∧ H' a = some (.lst rs) ∧ Cels H' rs (b.line k) ∧ (a = z ∨ (Live S J (.ln n k) ∧ a = α (.ln n k))) := by
  have h := s.rd (L.lnsR hb)
  refine ⟨valV (enc Sum.inr (fun k _ => V.ref (α (.ln n k))) b.lines) (Sum.inr k), ?_⟩
  cases e : aget b.lines k with
  | none =>
    refine ⟨[], z, (.inl ⟨_, Sum.inr k, h, rfl, rfl⟩), ?_, hz, ?_⟩
    · rw [valV_enc inr_inj, e]; rfl
    · unfold Br.line; rw [e]; exact ⟨.nil, .inl rfl⟩
  | some l =>
    obtain ⟨rs, h1, h2⟩ := L.ln hb e
    refine ⟨rs, α (.ln n k), (.inl ⟨_, Sum.inr k, h, rfl, rfl⟩), ?_, s.lst h1, ?_⟩
    · rw [valV_enc inr_inj, e]; rfl
    · unfold Br.line; rw [e]; exact ⟨h2.tups s.tups, .inr ⟨⟨b, l, hb, e⟩, rfl⟩⟩
theorem Lay.gBr {H : Hp} {S : Sh} {α : Rl → Addr} {δ : Dl} {J : List Str} {G : Jud} (L : Lay T H S α δ J G) (n : Int) : DGet H (α .brs) (.int n) ((aget S.brs n).map fun _ => .ref (α (.br n))) := by
  rw [← valV_enc inl_inj S.brs n (g := fun n _ => V.ref (α (.br n)))]; exact DGet.k (k := Sum.inl n) L.brs
theorem Lay.gBr1 {H : Hp} {S : Sh} {α : Rl → Addr} {δ : Dl} {J : List Str} {G : Jud} (L : Lay T H S α δ J G) {n : Int} {b : Br} (h : aget S.brs n = some b) : DGet H (α .brs) (.int n) (some (.ref (α (.br n)))) := by
  have := L.gBr n; rw [h] at this; exact this
theorem Lay.gHn {H : Hp} {S : Sh} {α : Rl → Addr} {δ : Dl} {J : List Str} {G : Jud} (L : Lay T H S α δ J G) (n : Int) : DGet H (α .hns) (.int n) ((aget S.hns n).map fun _ => .ref (α (.hn n))) := by
  rw [← valV_enc inl_inj S.hns n (g := fun n _ => V.ref (α (.hn n)))]; exact DGet.k (k := Sum.inl n) L.hns
theorem Lay.gHn1 {H : Hp} {S : Sh} {α : Rl → Addr} {δ : Dl} {J : List Str} {G : Jud} (L : Lay T H S α δ J G) {n : Int} {h : Hn} (e : aget S.hns n = some h) : DGet H (α .hns) (.int n) (some (.ref (α (.hn n)))) := by
  have := L.gHn n; rw [e] at this; exact this
theorem Lay.gDr {H : Hp} {S : Sh} {α : Rl → Addr} {δ : Dl} {J : List Str} {G : Jud} (L : Lay T H S α δ J G) {n : Int} {h : Hn} (e : aget S.hns n = some h) (k : Str) : DGet H (α (.dr n)) (.str k) ((aget h.drafts k).map optV) := by
  rw [← valV_enc inr_inj h.drafts k (g := fun _ v => optV v)]; exact DGet.k (k := Sum.inr k) (L.dr e)
theorem Lay.gMk {H : Hp} {S : Sh} {α : Rl → Addr} {δ : Dl} {J : List Str} {G : Jud} (L : Lay T H S α δ J G) {n : Int} {b : Br} (e : aget S.brs n = some b) (k : Str) : DGet H (α (.mks n)) (.str k) ((aget b.marks k).map V.int) := by
  rw [← valV_enc inr_inj b.marks k (g := fun _ v => V.int v)]; exact DGet.k (k := Sum.inr k) (L.mks e)
def spSeen (T : Cs) : Sp := fun vs H Q _ => ∃ (Ks : List Str) (S : Sh) (α : Rl → Addr) (δ : Dl) (J : List Str) (G : Jud) (n m : Int) (k : Str), vs = [.ref (α .brs), .int n, .int m, .str k] ∧ Lay T H S α δ J G ∧ WF Ks S ∧
  (∃ b, aget S.brs n = some b) ∧ ∀ H', Sm H H' → Q (optV (seesM S k n m)) H'
theorem sc_seen_value : FnScope ["branches", "number", "moment", "key", "branch", "line", "place"] ["branches", "number", "moment", "key"] (defScope s_seen_value) := ⟨rfl, rfl, rfl, by decide +kernel, rfl, by decide +kernel, by decide +kernel⟩
theorem ok_seen_value {f : Addr} {fd : FuncData} (F : Fun K "seen_value" "seen_value" s_seen_value f fd) (B : Bt mg) (C : Cf K T) {f1 : Addr} {fd1 : FuncData} (A1 : At K mg "newest" s_newest ["line", "moment"] f1 fd1) :
    FnOk P w K mg base CX0 2 f fd ["branches", "number", "moment", "key"] (spSeen T) := by
  have G1 : FnOk P w K mg base CX0 1 f1 fd1 ["line", "moment"] (spNewest K) := ok_newest A1.F B
  refine F.ok sc_seen_value (fun vs H Q E h => ?_) (fun cdv A outer s H vs Q E hr h => ?_)
  · obtain ⟨Ks, S, α, δ, J, G, n, m, k, rfl, _⟩ := h
    rfl
  · obtain ⟨Ks, S, α, δ, J, G, n, m, k, rfl, L, W, ⟨b0, hb0⟩, kq⟩ := h
    have hu := hu_of hr
    refine ⟨_, pss_cons (ps_while PassesOwn.never (pt_cmpR op_notN (pv 1) pe_non (nomark _))
        (pss_cons (ps_set (i := 4) sc_seen_value.nd rfl (.inl rfl) (pe_dget hu (pv 0) (pv 1) (fun _ _ => rfl)))
        (pss_cons (ps_set (i := 5) sc_seen_value.nd rfl (.inl rfl) (pe_dget2 hu (pe_fld (pv 4) rfl) (pv 3) (pe_lst pa_nil) ⟨rfl, rfl, rfl, rfl⟩))
        (pss_cons (ps_set (i := 6) sc_seen_value.nd rfl (.inl rfl) (pe_call G1 hr rfl A1.g A1.k A1.b .nil pass0 (pa_cons (pv 5) (pa_cons (pv 2) pa_nil))))
        (pss_cons (ps_if (pt_cmpR op_ge (pv 6) pe_int (nomark _)) (pss_one (ps_ret (pe_ix ix_tup (pe_ix ix_list (pv 5) (pv 6) (fun _ _ => rfl)) pe_int (fun _ _ => rfl)))) pss_nil)
        (pss_cons (ps_set (i := 1) sc_seen_value.nd rfl (.inl rfl) (pe_fld (pv 4) rfl))
        (pss_one (ps_set (i := 2) sc_seen_value.nd rfl (.inl rfl) (pe_fld (pv 4) rfl)))))))))
      (pss_one (ps_ret pe_non)), ?_⟩
    refine while_by (fun σ H1 => Sm H H1 ∧ ∃ (x y z : Option V) (num : Option Int) (mo : Int), σ = [some (.ref (α .brs)), some (optV num), some (.int mo), some (.str k), x, y, z] ∧
        match num with
        | none => seesM S k n m = none
        | some q => (∃ b, aget S.brs q = some b) ∧ seesM S k n m = seesM S k q mo)
      (fun σ _ => match σ with | [_, some (.int q), _, _, _, _, _] => q.toNat + 1 | _ => 0)
      ⟨Sm.refl H, none, none, none, some n, m, rfl, ⟨b0, hb0⟩, rfl⟩ ?_ ?_
    · rintro σ H1 ⟨s1, x, y, z, num, mo, rfl, hn⟩
      cases num with
      | none =>
        refine ⟨_, rfl, rfl, _, rfl, ifF rfl ?_⟩
        have := kq H1 s1
        rw [show seesM S k n m = none from hn] at this
        exact this
      | some q =>
        obtain ⟨⟨b, hb⟩, he⟩ := hn
        refine ⟨_, rfl, rfl, _, rfl, ifT rfl ?_⟩
        have L1 := L.sm s1
        refine ⟨_, rfl, _, rfl, _, _, rfl, L1.gBr1 hb, ?_⟩
        refine ⟨_, rfl, _, _, _, _, _, rfl, L1.br hb, C.B, C.bLn, rfl, _, rfl, .inl ⟨_, L1.lnsR hb⟩, _, rfl, by show 0 ≤ sizeLine; exact Nat.zero_le _, fun p hp => ?_⟩
        have s2 := Sm.new (o := .lst []) hp
        obtain ⟨o, rs, a, g1, g2, g3, g4, _⟩ := L1.getLine hb k s2 upd_same
        refine ⟨o, g1, ?_⟩
        rw [g2]
        refine ⟨_, rfl, _, rfl, a, mo, rs, b.line k, rfl, SqL.of g3, g4, W.rise hb k, ?_⟩
        have L2 := L1.sm s2
        have hR := reachS_of W k mo hb
        cases hc : cnt (b.line k) mo with
        | zero =>
          rw [newC_none.mpr hc] at hR
          refine ⟨_, rfl, _, _, rfl, rfl, _, rfl, ifF (by rfl) ?_⟩
          refine ⟨_, rfl, _, _, _, _, _, rfl, L2.br hb, C.B, C.bBen, rfl, ?_⟩
          refine ⟨_, rfl, _, _, _, _, _, rfl, L2.br hb, C.B, C.bMom, rfl, ?_⟩
          refine ⟨⟨s1.trans s2, _, _, _, b.ben, b.mom, rfl, ?_⟩, ?_⟩
          · cases hq : b.ben with
            | none =>
              show seesM S k n m = none
              rw [he]; unfold seesM; rw [hR]; unfold belowS; rw [hq]; rfl
            | some q' =>
              refine ⟨(W.ben q b q' hb hq).2, ?_⟩
              rw [he]; unfold seesM; rw [hR]; unfold belowS; rw [hq]
          · cases hq : b.ben with
            | none => exact Nat.succ_pos _
            | some q' =>
              have h1 := (W.ben q b q' hb hq).1
              obtain ⟨c, hc'⟩ := (W.ben q b q' hb hq).2
              have h2 := (W.bnd q' c hc').1
              show q'.toNat + 1 < q.toNat + 1
              omega
        | succ j =>
          obtain ⟨c, c1, c2, c3⟩ := newC_at (W.rise hb k) hc
          rw [c2] at hR
          obtain ⟨t, t1, t2⟩ := g4.get c1
          refine ⟨_, rfl, _, _, rfl, rfl, _, rfl, ifT (decide_eq_true (by omega)) ?_⟩
          refine ⟨_, rfl, _, rfl, a, _, _, _, rfl, rfl, SqL.of g3, (by rw [show (((j + 1 : Nat) : Int) - 1) = (j : Int) by omega]; exact atI_nat t1), t, _, _, _, rfl, rfl, SqT.of t2, rfl, ?_⟩
          have := kq _ (s1.trans s2)
          rw [he] at this
          unfold seesM at this
          rw [hR] at this
          exact this
    · rintro σ H1 Q1 Q2 hq ⟨v, e, h1, b, h2, h3⟩
      exact ⟨v, e, h1, b, h2, hq _ _ h3⟩
end
end Vs
namespace Vs
open PySem L2
def letters : Str := "abcdefghijklmnopqrstuvwxyz"
structure Wd (mg : Str → Option Value) : Prop where
  letters : ∃ t, mg "LETTERS" = some (.str letters t)
  longest : ∃ t, mg "LONGEST_KEY" = some (.int 8 t)
  greatest : ∃ t, mg "GREATEST_VALUE" = some (.int 999999 t)
structure FunC (K : PySem.W.Frag) (x qual : Str) (st : Stmt) (f : Addr) (fd : FuncData) (c : Addr) : Prop where
  ex : ∃ (oc : Value) (od : Option Addr) (kV doc pm : Value) (an : Option Addr) (ct : Value) (osl : Array (Option Value)),
    fd = PySem.W.fnOf x qual (defArgs st) (defBody st) (defScope st) .none kV doc pm an (.ref c) ct ∧ K.lookup f = some ⟨oc, od, .func fd, osl⟩ ∧ PySem.W.codeIn K (.ref c) qual = true
section
variable {P : Program} {w : World} {K : PySem.W.Frag} {mg : Str → Option Value} {base : Heap} {T : Cs}
theorem FunC.ok {x qual : Str} {st : Stmt} {f c : Addr} {fd : FuncData} {N ps : List Str} {k : Nat} {sp : Sp} (F : FunC K x qual st f fd c) (S : FnScope N ps (defScope st)) (len : ∀ vs H Q E, sp vs H Q E → vs.length = ps.length)
    (body : ∀ (A : Around) (outer : List Env) (s : Shared) (H : Hp) (vs : List V) (Q : VK) (E : XK), Room k (A.deeper (PyProof.Rows.envOfC qual (defScope st) s.heap.objs.size f (.ref c))) → sp vs H Q E →
      ∃ t, PSs (cxOf CX0 P w K mg base N qual (defScope st) f (.ref c) A outer s H E).nox (defBody st) t ∧ t { nx := fun _ H' => Q .non H', rt := Q } (start N vs) H) : FnOk P w K mg base CX0 (k + 1) f fd ps sp := by
  obtain ⟨oc, od, kV, doc, pm, an, ct, osl, rfl, lk, cd⟩ := F.ex
  exact fn_of lk cd S len fun A outer s H vs Q E hr h => let ⟨t, h1, h2⟩ := body A outer s H vs Q E hr h; ⟨t, h1.nox, h2⟩
theorem noFree3 {a b c : Str} {R : Str × NameKind → Prop} : ∀ y ∈ [(a, NameKind.local), (b, NameKind.local), (c, NameKind.globalImplicit)], y.2 = NameKind.free → R y := fun y hy e => by
  rcases List.mem_cons.mp hy with h | hy
  · subst h; cases e
  · rcases List.mem_cons.mp hy with h | hy
    · subst h; cases e
    · rcases List.mem_cons.mp hy with h | hy
      · subst h; cases e
      · cases hy
def isKeyB (k : Str) : Bool := decide ((1 : Int) ≤ k.length) && (decide ((k.length : Int) ≤ 8) && k.cps.toList.all fun c => decide (c ∈ letters.cps.toList))
def spIsKey (Pt : Addr) : Sp := fun vs H Q _ => ∃ k : Str, vs = [.str k] ∧ k.length ≤ sizeLine ∧ GxR.TabG H Pt ∧ ∀ H', Sm H H' → Q (.bl (isKeyB k)) H'
theorem sc_is_key : FnScope ["text"] ["text"] (defScope s_is_key) := ⟨rfl, rfl, rfl, by decide +kernel, rfl, by decide +kernel, by decide +kernel⟩
theorem ok_is_key {f c Pt : Addr} {fd : FuncData} (F : FunC K "is_key" "is_key" s_is_key f fd c) (B : Bt mg) (D : Wd mg) (TB : GxR.TabB base mg c Pt) : FnOk P w K mg base CX0 3 f fd ["text"] (spIsKey Pt) := by
  refine F.ok sc_is_key (fun vs H Q E h => ?_) (fun A outer s H vs Q E hr h => ?_)
  · obtain ⟨k, rfl, _⟩ := h
    rfl
  · obtain ⟨k, rfl, hl, hT, kq⟩ := h
    obtain ⟨t1, hL⟩ := D.letters
    obtain ⟨t2, hM⟩ := D.longest
    refine ⟨_, pss_one (ps_ret (pe_and (pe_chain op_le op_le pe_int (pe_callB call_len_str (by rfl) B.len PySem.boot_len (pa_cons (pv 0) pa_nil)) (pe_glob (v := .int 8) rfl hM ⟨_, rfl⟩))
      (pe_one (pe_allM hr (by rfl) B.all (by decide +kernel) TB rfl ⟨rfl, rfl, by decide +kernel, rfl, rfl, noFree3⟩ (pv 0) (eltM_in rfl rfl rfl hL) (fun _ => rfl))))), ?_⟩
    refine ⟨_, rfl, _, rfl, hl, _, _, rfl, rfl, _, rfl, ?_⟩
    by_cases h1 : (1 : Int) ≤ k.length
    · refine ifT (decide_eq_true h1) ⟨_, _, rfl, rfl, _, rfl, ?_⟩
      by_cases h2 : (k.length : Int) ≤ 8
      · refine ifT (decide_eq_true h2) ⟨_, rfl, k, rfl, hT, fun H2 hTb => ?_⟩
        have := kq H2 (Sm.tabbed hT hTb)
        unfold isKeyB at this
        rw [decide_eq_true h1, decide_eq_true h2] at this
        exact this
      · refine ifF (decide_eq_false h2) ?_
        have := kq H (Sm.refl H)
        unfold isKeyB at this
        rw [decide_eq_true h1, decide_eq_false h2] at this
        exact this
    · refine ifF (decide_eq_false h1) ⟨_, rfl, ifF rfl ?_⟩
      have := kq H (Sm.refl H)
      unfold isKeyB at this
      rw [decide_eq_false h1] at this
      exact this
def isVal (v : Int) : Bool := decide (0 ≤ v) && decide (v ≤ 999999)
def spIsVal : Sp := fun vs H Q _ => ∃ v : Int, vs = [.int v] ∧ Q (.bl (isVal v)) H
theorem sc_is_value : FnScope ["number"] ["number"] (defScope s_is_value) := ⟨rfl, rfl, rfl, by decide +kernel, rfl, by decide +kernel, by decide +kernel⟩
theorem ok_is_value {f : Addr} {fd : FuncData} (F : Fun K "is_value" "is_value" s_is_value f fd) (D : Wd mg) : FnOk P w K mg base CX0 1 f fd ["number"] spIsVal := by
  refine F.ok sc_is_value (fun vs H Q E h => ?_) (fun cdv A outer s H vs Q E hr h => ?_)
  · obtain ⟨k, rfl, _⟩ := h
    rfl
  · obtain ⟨v, rfl, kq⟩ := h
    obtain ⟨t2, hM⟩ := D.greatest
    refine ⟨_, pss_one (ps_ret (pe_chain op_le op_le pe_int (pv 0) (pe_glob (v := .int 999999) rfl hM ⟨_, rfl⟩))), ?_⟩
    refine ⟨_, rfl, _, _, rfl, rfl, _, rfl, ?_⟩
    unfold isVal at kq
    by_cases h1 : 0 ≤ v
    · refine ifT (decide_eq_true h1) ⟨_, _, rfl, rfl, ?_⟩
      rw [decide_eq_true h1] at kq
      exact kq
    · refine ifF (decide_eq_false h1) ?_
      rw [decide_eq_false h1] at kq
      exact kq
end
end Vs
namespace Vs
open PySem L2
/-- what the written part says of a refusal's class -/
structure Xc (K : PySem.W.Frag) (mg : Str → Option Value) (x : Str) (C : Addr) : Prop where
  g : mg x = some (.ref C)
  x : PySem.W.excIn K C [.type "ValueError", .type "Exception", .type "BaseException", .type "object"] "ValueError.__new__" = true
  k : PySem.W.keepIn K (.ref C) = true
  b : PySem.W.subIn K (.ref C) (.type "BaseException") = some true
  t : PySem.W.typeIn K (.ref C) = some (.type "type")
structure Es where
  badKey : Addr
  noHand : Addr
  noBranch : Addr
  dropped : Addr
  clash : Addr
  noCell : Addr
structure Ex (K : PySem.W.Frag) (mg : Str → Option Value) (U : Es) : Prop where
  badKey : Xc K mg "BadKey" U.badKey
  noHand : Xc K mg "NoHand" U.noHand
  noBranch : Xc K mg "NoBranch" U.noBranch
  dropped : Xc K mg "Dropped" U.dropped
theorem log2_small {i : Int} (h : i.natAbs < 10 ^ 20) : i.natAbs.log2 < 1920 := by
  by_cases z : i.natAbs = 0
  · rw [z]; decide
  · exact (Nat.log2_lt z).mpr (Nat.lt_trans h (by decide))
theorem text_small {i : Int} (h : i.natAbs < 10 ^ 20) : (Str.ofString (toString i)).length ≤ 21 := by
  rw [ofString_length]; exact int_text_length_le10 (by decide) h
theorem fit2 {a b : Str} {n : Nat} (ha : a.length ≤ n) (hb : b.length ≤ 2000) (hn : n ≤ 100000 := by decide) : (a ++ b).length ≤ n + 2000 ∧ (a ++ b).length ≤ sizeLine := by
  rw [Str.length_append, sizeLine_eq]
  constructor <;> omega
theorem fit1 {b : Str} (hb : b.length ≤ 2000) : (Str.empty ++ b).length ≤ 2000 ∧ (Str.empty ++ b).length ≤ sizeLine := by
  rw [Str.length_append, sizeLine_eq]
  have : Str.empty.length = 0 := rfl
  constructor <;> omega
theorem le2000 {n : Nat} (h : n ≤ 2000) : n ≤ sizeLine := by rw [sizeLine_eq]; omega
section
variable {P : Program} {w : World} {K : PySem.W.Frag} {mg : Str → Option Value} {base : Heap} {T : Cs} {U : Es}
def spCheck (U : Es) (Pt : Addr) : Sp := fun vs H Q E => ∃ k : Str, vs = [.str k] ∧ k.length ≤ 1000 ∧ GxR.TabG H Pt ∧ ∀ H', Sm H H' → (isKeyB k = true → Q .non H') ∧ (isKeyB k = false → E (.ref U.badKey) none H')
theorem sc_check_key : FnScope ["key"] ["key"] (defScope s_check_key) := ⟨rfl, rfl, rfl, by decide +kernel, rfl, by decide +kernel, by decide +kernel⟩
theorem ok_check_key {f : Addr} {fd : FuncData} (F : Fun K "check_key" "check_key" s_check_key f fd) (X : Ex K mg U) {f1 Pt : Addr} {fd1 : FuncData} (g1 : mg "is_key" = some (.ref f1)) (k1 : PySem.W.keepIn K (.ref f1) = true) (b1 : Binds K fd1 ["text"] [])
    (G1 : FnOk P w K mg base CX0 3 f1 fd1 ["text"] (spIsKey Pt)) : FnOk P w K mg base (L2.CX P w) 4 f fd ["key"] (spCheck U Pt) := by
  refine F.okX sc_check_key (fun vs H Q E h => ?_) (fun cdv A outer s H vs Q E hr h => ?_)
  · obtain ⟨k, rfl, _⟩ := h
    rfl
  · obtain ⟨k, rfl, hl, hT, kq⟩ := h
    refine ⟨_, pss_one (ps_if (pt_not (pt_val (pe_call G1 hr rfl g1 k1 b1 .nil pass0 (pa_cons (pv 0) pa_nil))))
      (pss_one (ps_raise rfl (takes_of rfl rfl rfl rfl) (pmk_ownA PySem.F.excBase_ValueError X.badKey.x X.badKey.g X.badKey.k (raises_own X.badKey.b X.badKey.t) rfl (pa_cons (pe_joined (.cons (pe_fmt (pv 0)) (.cons pe_str .nil))) pa_nil)))) pss_nil), ?_⟩
    refine ⟨_, rfl, k, rfl, le2000 (by omega), hT, fun H' hs => ?_⟩
    obtain ⟨q1, q2⟩ := kq H' hs
    cases hk : isKeyB k with
    | true => exact ⟨_, rfl, ifF rfl (q1 hk)⟩
    | false =>
      have f1 := fit1 (b := k) (by omega)
      have f2 := fit2 (b := (" is no key" : Str)) f1.1 (by decide +kernel)
      exact ⟨_, rfl, ifT rfl ⟨_, rfl, .inl ⟨_, rfl, le2000 (by omega), _, rfl, f1.2, _, rfl, f2.2, by show 1 ≤ sizeLine; decide, q2 hk⟩⟩⟩
/-! ### hand_there, branch_there -/
def spHandThere (T : Cs) (U : Es) : Sp := fun vs H Q E => ∃ (S : Sh) (α : Rl → Addr) (δ : Dl) (J : List Str) (G : Jud) (n : Int), vs = [.ref (α .sh), .int n] ∧ Lay T H S α δ J G ∧ n.natAbs < 10 ^ 20 ∧
  (∀ h, aget S.hns n = some h → Q (.ref (α (.hn n))) H) ∧ (aget S.hns n = none → E (.ref U.noHand) none H)
theorem sc_hand_there : FnScope ["self", "hand"] ["self", "hand"] (defScope s_Shelf_hand_there) := ⟨rfl, rfl, rfl, by decide +kernel, rfl, by decide +kernel, by decide +kernel⟩
theorem ok_hand_there {f : Addr} {fd : FuncData} (F : Fun K "hand_there" "Shelf.hand_there" s_Shelf_hand_there f fd) (C : Cf K T) (X : Ex K mg U) : FnOk P w K mg base (L2.CX P w) 1 f fd ["self", "hand"] (spHandThere T U) := by
  refine F.okX sc_hand_there (fun vs H Q E h => ?_) (fun cdv A outer s H vs Q E hr h => ?_)
  · obtain ⟨S, α, δ, J, G, n, rfl, _⟩ := h
    rfl
  · obtain ⟨S, α, δ, J, G, n, rfl, L, hn, q1, q2⟩ := h
    have hu := hu_of hr
    refine ⟨_, pss_cons (ps_if (pt_cmp (pc_dnotin hu (pv 1) (pe_fld (pv 0) rfl)))
      (pss_one (ps_raise rfl (takes_of rfl rfl rfl rfl) (pmk_ownA PySem.F.excBase_ValueError X.noHand.x X.noHand.g X.noHand.k (raises_own X.noHand.b X.noHand.t) rfl (pa_cons (pe_joined (.cons pe_str (.cons (pe_fmt (pv 1)) .nil))) pa_nil)))) pss_nil)
      (pss_one (ps_ret (pe_dget hu (pe_fld (pv 0) rfl) (pv 1) (fun _ _ => rfl)))), ?_⟩
    have hg := L.gHn n
    refine ⟨_, rfl, _, rfl, _, _, _, _, _, rfl, L.sh, C.S, C.sHns, rfl, _, _, rfl, hg, _, rfl, ?_⟩
    cases hh : aget S.hns n with
    | none =>
      have f1 := fit1 (b := ("there is no hand " : Str)) (by decide +kernel)
      have f2 := fit2 (b := Str.ofString (toString n)) f1.1 (by have := text_small hn; omega)
      exact ifT rfl ⟨_, rfl, f1.2, _, rfl, .inr ⟨n, rfl, log2_small hn, _, rfl, f2.2, by show 1 ≤ sizeLine; decide, q2 hh⟩⟩
    | some h =>
      refine ifF rfl ⟨_, rfl, _, _, _, _, _, rfl, L.sh, C.S, C.sHns, rfl, _, rfl, _, _, rfl, L.gHn1 hh, q1 h hh⟩
def spBranchThere (T : Cs) (U : Es) : Sp := fun vs H Q E => ∃ (S : Sh) (α : Rl → Addr) (δ : Dl) (J : List Str) (G : Jud) (n : Int), vs = [.ref (α .sh), .int n] ∧ Lay T H S α δ J G ∧ n.natAbs < 10 ^ 20 ∧
  (∀ b, aget S.brs n = some b → Q (.ref (α (.br n))) H) ∧ (aget S.brs n = none → E (.ref U.noBranch) none H)
theorem sc_branch_there : FnScope ["self", "branch"] ["self", "branch"] (defScope s_Shelf_branch_there) := ⟨rfl, rfl, rfl, by decide +kernel, rfl, by decide +kernel, by decide +kernel⟩
theorem ok_branch_there {f : Addr} {fd : FuncData} (F : Fun K "branch_there" "Shelf.branch_there" s_Shelf_branch_there f fd) (C : Cf K T) (X : Ex K mg U) : FnOk P w K mg base (L2.CX P w) 1 f fd ["self", "branch"] (spBranchThere T U) := by
  refine F.okX sc_branch_there (fun vs H Q E h => ?_) (fun cdv A outer s H vs Q E hr h => ?_)
  · obtain ⟨S, α, δ, J, G, n, rfl, _⟩ := h
    rfl
  · obtain ⟨S, α, δ, J, G, n, rfl, L, hn, q1, q2⟩ := h
    have hu := hu_of hr
    refine ⟨_, pss_cons (ps_if (pt_cmp (pc_dnotin hu (pv 1) (pe_fld (pv 0) rfl)))
      (pss_one (ps_raise rfl (takes_of rfl rfl rfl rfl) (pmk_ownA PySem.F.excBase_ValueError X.noBranch.x X.noBranch.g X.noBranch.k (raises_own X.noBranch.b X.noBranch.t) rfl (pa_cons (pe_joined (.cons pe_str (.cons (pe_fmt (pv 1)) .nil))) pa_nil)))) pss_nil)
      (pss_one (ps_ret (pe_dget hu (pe_fld (pv 0) rfl) (pv 1) (fun _ _ => rfl)))), ?_⟩
    have hg := L.gBr n
    refine ⟨_, rfl, _, rfl, _, _, _, _, _, rfl, L.sh, C.S, C.sBrs, rfl, _, _, rfl, hg, _, rfl, ?_⟩
    cases hh : aget S.brs n with
    | none =>
      have f1 := fit1 (b := ("there is no branch " : Str)) (by decide +kernel)
      have f2 := fit2 (b := Str.ofString (toString n)) f1.1 (by have := text_small hn; omega)
      exact ifT rfl ⟨_, rfl, f1.2, _, rfl, .inr ⟨n, rfl, log2_small hn, _, rfl, f2.2, by show 1 ≤ sizeLine; decide, q2 hh⟩⟩
    | some h =>
      refine ifF rfl ⟨_, rfl, _, _, _, _, _, rfl, L.sh, C.S, C.sBrs, rfl, _, rfl, _, _, rfl, L.gBr1 hh, q1 h hh⟩
end
end Vs
namespace Vs
open PySem L2
def LyAt (T : Cs) (H : Hp) (p : Addr) (S : Sh) (F : Addr → Prop) : Prop := ∃ α δ J G, α .sh = p ∧ F = Foot S α J ∧ Lay T H S α δ J G ∧ δ.Thaw
theorem ShAt.ly {T : Cs} {H : Hp} {p : Addr} {S : Sh} {F : Addr → Prop} (h : ShAt T H p S F) : LyAt T H p S F := by
  obtain ⟨α, δ, J, G, h1, h2, h3, _, h5⟩ := h
  exact ⟨α, δ, J, G, h1, h2, h3, h5⟩
theorem ShAt.sm {T : Cs} {H H' : Hp} {p : Addr} {S : Sh} {F : Addr → Prop} (h : ShAt T H p S F) (s : Sm H H') : ShAt T H' p S F := by
  obtain ⟨α, δ, J, G, h1, h2, h3, h4⟩ := h
  exact ⟨α, δ, J, G, h1, h2, h3.sm s, h4⟩
section
variable (P : Program) (w : World) (K : PySem.W.Frag) (mg : Str → Option Value) (base : Heap)
/-- a def of the module that keeps its promise -/
def Fx (CX : CXT) (x : Str) (k : Nat) (ps : List Str) (sp : Sp) : Prop :=
  ∃ (f : Addr) (fd : FuncData), mg x = some (.ref f) ∧ PySem.W.keepIn K (.ref f) = true ∧ Binds K fd ps [] ∧ FnOk P w K mg base CX k f fd ps sp
/-- a method that keeps its promise -/
def Mx (CX : CXT) (C : Addr) (x : Str) (k : Nat) (ps : List Str) (sp : Sp) : Prop :=
  ∃ (f : Addr) (fd : FuncData), Meth K C x f ∧ Binds K fd ps [] ∧ FnOk P w K mg base CX k f fd ps sp
/-- a class that is made by its __init__ -/
def Kx (x : Str) (C : Addr) (k : Nat) (ps : List Str) (sp : Sp) : Prop :=
  ∃ (f : Addr) (fd : FuncData), mg x = some (.ref C) ∧ Mk K C f ∧ Binds K fd ps [] ∧ FnOk P w K mg base CX0 k f fd ps sp
end
section
variable {P : Program} {w : World} {K : PySem.W.Frag} {mg : Str → Option Value} {base : Heap} {T : Cs} {U : Es} {Pt : Addr}
def lookM (S : Sh) (h : Hn) (k : Str) : Option Int := match aget h.drafts k with
  | some v => v
  | none => seesM S k h.br h.mom
def spSeenHand (T : Cs) : Sp := fun vs H Q _ => ∃ (Ks : List Str) (S : Sh) (α : Rl → Addr) (δ : Dl) (J : List Str) (G : Jud) (n : Int) (h : Hn) (k : Str), vs = [.ref (α .brs), .ref (α (.hn n)), .str k] ∧ Lay T H S α δ J G ∧ WF Ks S ∧
  aget S.hns n = some h ∧ ∀ H', Sm H H' → Q (optV (lookM S h k)) H'
theorem sc_seen_by_hand : FnScope ["branches", "hand", "key"] ["branches", "hand", "key"] (defScope s_seen_by_hand) := ⟨rfl, rfl, rfl, by decide +kernel, rfl, by decide +kernel, by decide +kernel⟩
theorem ok_seen_by_hand {f : Addr} {fd : FuncData} (F : Fun K "seen_by_hand" "seen_by_hand" s_seen_by_hand f fd) (C : Cf K T) (c1 : Fx P w K mg base CX0 "seen_value" 2 ["branches", "number", "moment", "key"] (spSeen T)) :
    FnOk P w K mg base CX0 3 f fd ["branches", "hand", "key"] (spSeenHand T) := by
  obtain ⟨f1, fd1, g1, k1, b1, G1⟩ := c1
  refine F.ok sc_seen_by_hand (fun vs H Q E h => ?_) (fun cdv A outer s H vs Q E hr h => ?_)
  · obtain ⟨Ks, S, α, δ, J, G, n, h, k, rfl, _⟩ := h
    rfl
  · obtain ⟨Ks, S, α, δ, J, G, n, h, k, rfl, L, W, hh, kq⟩ := h
    have hu := hu_of hr
    refine ⟨_, pss_cons (ps_if (pt_cmp (pc_din hu (pv 2) (pe_fld (pv 1) rfl))) (pss_one (ps_ret (pe_dget hu (pe_fld (pv 1) rfl) (pv 2) (fun _ _ => rfl)))) pss_nil)
      (pss_one (ps_ret (pe_call G1 hr rfl g1 k1 b1 .nil pass0 (pa_cons (pv 0) (pa_cons (pe_fld (pv 1) rfl) (pa_cons (pe_fld (pv 1) rfl) (pa_cons (pv 2) pa_nil))))))), ?_⟩
    have hg := L.gDr hh k
    refine ⟨_, rfl, _, rfl, _, _, _, _, _, rfl, L.hn hh, C.N, C.nDr, rfl, _, _, rfl, hg, _, rfl, ?_⟩
    unfold lookM at kq
    cases e : aget h.drafts k with
    | some v =>
      rw [e] at kq hg
      exact ifT rfl ⟨_, rfl, _, _, _, _, _, rfl, L.hn hh, C.N, C.nDr, rfl, _, rfl, _, _, rfl, hg, kq H (Sm.refl H)⟩
    | none =>
      rw [e] at kq
      refine ifF rfl ⟨_, rfl, _, rfl, _, _, _, _, _, rfl, L.hn hh, C.N, C.nBr, rfl, _, rfl, _, _, _, _, _, rfl, L.hn hh, C.N, C.nMom, rfl, _, rfl, ?_⟩
      exact ⟨Ks, S, α, δ, J, G, h.br, h.mom, k, rfl, L, W, (W.hn n h hh).2.2.1, kq⟩
/-! ### look -/
def spLook (T : Cs) (U : Es) (Pt : Addr) : Sp := fun vs H Q E => ∃ (Ks : List Str) (p : Addr) (S : Sh) (F : Addr → Prop) (n : Int) (k : Str), vs = [.ref p, .int n, .str k] ∧ LyAt T H p S F ∧ WF Ks S ∧ GxR.TabG H Pt ∧
  n.natAbs < 10 ^ 20 ∧ k.length ≤ 1000 ∧ ∀ H', Sm H H' →
    (∀ h, aget S.hns n = some h → (isKeyB k = true → Q (optV (lookM S h k)) H') ∧ (isKeyB k = false → E (.ref U.badKey) none H')) ∧ (aget S.hns n = none → E (.ref U.noHand) none H')
theorem sc_look : FnScope ["self", "hand", "key", "held"] ["self", "hand", "key"] (defScope s_Shelf_look) := ⟨rfl, rfl, rfl, by decide +kernel, rfl, by decide +kernel, by decide +kernel⟩
theorem fSh_no {S : Sh} {α : Rl → Addr} {m : Str} (h : (["now", "branches", "branches_made", "hands", "hands_made", "judged"] : List Str).contains m = false := by decide +kernel) : (fSh S α).lookup m = none := by
  unfold fSh
  simp only [List.contains_cons, Bool.or_eq_false_iff] at h
  obtain ⟨h1, h2, h3, h4, h5, h6, _⟩ := h
  simp [List.lookup, h1, h2, h3, h4, h5, h6]
theorem ok_look {f : Addr} {fd : FuncData} (F : Fun K "look" "Shelf.look" s_Shelf_look f fd) (C : Cf K T) (c1 : Mx P w K mg base (L2.CX P w) T.S "hand_there" 1 ["self", "hand"] (spHandThere T U))
    (c2 : Fx P w K mg base (L2.CX P w) "check_key" 4 ["key"] (spCheck U Pt)) (c3 : Fx P w K mg base CX0 "seen_by_hand" 3 ["branches", "hand", "key"] (spSeenHand T)) :
    FnOk P w K mg base (L2.CX P w) 5 f fd ["self", "hand", "key"] (spLook T U Pt) := by
  obtain ⟨f1, fd1, m1, b1, G1⟩ := c1
  obtain ⟨f2, fd2, g2, k2, b2, G2⟩ := c2
  obtain ⟨f3, fd3, g3, k3, b3, G3⟩ := c3
  refine F.okX sc_look (fun vs H Q E h => ?_) (fun cdv A outer s H vs Q E hr h => ?_)
  · obtain ⟨Ks, p, S, F, n, k, rfl, _⟩ := h
    rfl
  · obtain ⟨Ks, p, S, F, n, k, rfl, ⟨α, δ, J, G, rfl, rfl, L, Z⟩, W, hT, hn, hk, kq⟩ := h
    have hu := hu_of hr
    refine ⟨_, pss_cons (ps_set (i := 3) sc_look.nd rfl (.inl rfl) (pe_meth (pv 0) C.S m1 G1 (hr.mono (by decide)) b1 .nil (passes_call (takes_of rfl rfl rfl rfl) (fun _ _ _ _ h => h)) (pa_cons (pv 1) pa_nil)))
      (pss_cons (ps_expr (pe_call G2 hr rfl g2 k2 b2 .nil (passes_call (takes_of rfl rfl rfl rfl) (fun _ _ _ _ h => h)) (pa_cons (pv 2) pa_nil)))
      (pss_one (ps_ret (pe_call G3 (hr.mono (by decide)) rfl g3 k3 b3 .nil pass0 (pa_cons (pe_fld (pv 0) rfl) (pa_cons (pv 3) (pa_cons (pv 2) pa_nil))))))), ?_⟩
    refine ⟨_, rfl, _, _, _, rfl, L.sh, fSh_no, _, rfl, S, α, δ, J, G, n, rfl, L, hn, fun h hh => ?_, fun hh => (kq H (Sm.refl H)).2 hh⟩
    refine ⟨_, rfl, k, rfl, hk, hT, fun H1 s1 => ⟨fun hy => ?_, fun hy => ((kq H1 s1).1 h hh).2 hy⟩⟩
    have L1 := L.sm s1
    refine ⟨_, rfl, _, _, _, _, _, rfl, L1.sh, C.S, C.sBrs, rfl, _, rfl, _, rfl, ?_⟩
    exact ⟨Ks, S, α, δ, J, G, n, h, k, rfl, L1, W, hh, fun H2 s2 => ((kq H2 (s1.trans s2)).1 h hh).1 hy⟩
end
end Vs
namespace Vs
open PySem L2
section
variable {P : Program} {w : World} {K : PySem.W.Frag} {mg : Str → Option Value} {base : Heap} {T : Cs} {U : Es} {Pt : Addr}
/-! ### Hand(branch, moment) -/
def spHandInit (T : Cs) : Sp := fun vs H Q _ => ∃ (x dx : Addr) (br mom : Int), vs = [.ref x, .int br, .int mom] ∧ H x = some (.ins T.N dx []) ∧
  ∀ d H', H d = none → (∀ b o, H b = some o → b ≠ x → H' b = some o) → H' x = some (.ins T.N dx [("branch", .int br), ("moment", .int mom), ("drafts", .ref d)]) → H' d = some (.dK []) → Q .non H'
theorem sc_Hand_init : FnScope ["self", "branch", "moment"] ["self", "branch", "moment"] (defScope s_Hand___init__) := ⟨rfl, rfl, rfl, by decide +kernel, rfl, by decide +kernel, by decide +kernel⟩
theorem ok_Hand_init {f : Addr} {fd : FuncData} (F : Fun K "__init__" "Hand.__init__" s_Hand___init__ f fd) (C : Cf K T) : FnOk P w K mg base CX0 1 f fd ["self", "branch", "moment"] (spHandInit T) := by
  refine F.ok sc_Hand_init (fun vs H Q E h => ?_) (fun cdv A outer s H vs Q E hr h => ?_)
  · obtain ⟨x, dx, br, mom, rfl, _⟩ := h
    rfl
  · obtain ⟨x, dx, br, mom, rfl, hx, kq⟩ := h
    refine ⟨_, pss_cons (ps_fld (pv 0) (pv 1) rfl) (pss_cons (ps_fld (pv 0) (pv 2) rfl) (pss_one (ps_fld (pv 0) pe_dnewK rfl))), ?_⟩
    refine ⟨_, rfl, _, rfl, x, T.N, dx, _, rfl, hx, C.N, C.nBr, by show 0 < 1000; decide, ?_⟩
    refine ⟨_, rfl, _, rfl, x, T.N, dx, _, rfl, upd_same, C.N, C.nMom, by show 1 < 1000; decide, ?_⟩
    rw [upd_upd]
    intro d hd
    have ndx : d ≠ x := fun e => by rw [e, upd_same] at hd; cases hd
    have hd0 : H d = none := by rw [upd_ne ndx] at hd; exact hd
    refine ⟨_, rfl, x, T.N, dx, _, rfl, by rw [upd_ne (Ne.symm ndx)]; exact upd_same, C.N, C.nDr, by show 2 < 1000; decide, ?_⟩
    refine kq d _ hd0 (fun b o e nb => ?_) upd_same (by rw [upd_ne ndx]; exact upd_same)
    rw [upd_ne nb, upd_ne (ne_of_none e hd0), upd_ne nb]; exact e
/-! ### add_hand -/
def Sh.addHand (S : Sh) (br mom : Int) : Sh := { S with hns := S.hns ++ [(S.hm, ⟨br, mom, []⟩)], hm := S.hm + 1 }
def Sh.delHand (S : Sh) (n : Int) : Sh := { S with hns := adel S.hns n }
theorem WF.fresh {Ks : List Str} {S : Sh} (W : WF Ks S) : aget S.hns S.hm = none := by
  cases e : aget S.hns S.hm with
  | none => rfl
  | some h => have := (W.hn _ _ e).2.1; omega
theorem WF.lenH {Ks : List Str} {S : Sh} (W : WF Ks S) : S.hns.length ≤ 1000000 := Nat.le_trans W.cap.h (by decide)
def spAddHand (T : Cs) : Sp := fun vs H Q _ => ∃ (Ks : List Str) (p : Addr) (S : Sh) (F : Addr → Prop) (br mom : Int), vs = [.ref p, .int br, .int mom] ∧ LyAt T H p S F ∧ WF Ks S ∧
  ∀ H' F', ShAt T H' p (S.addHand br mom) F' → Step H F H' F' → Q (.int S.hm) H'
theorem sc_add_hand : FnScope ["self", "branch", "moment", "number"] ["self", "branch", "moment"] (defScope s_Shelf_add_hand) := ⟨rfl, rfl, rfl, by decide +kernel, rfl, by decide +kernel, by decide +kernel⟩
theorem ok_add_hand {f : Addr} {fd : FuncData} (F : Fun K "add_hand" "Shelf.add_hand" s_Shelf_add_hand f fd) (C : Cf K T) (c1 : Kx P w K mg base "Hand" T.N 1 ["self", "branch", "moment"] (spHandInit T)) :
    FnOk P w K mg base CX0 3 f fd ["self", "branch", "moment"] (spAddHand T) := by
  obtain ⟨f1, fd1, g1, m1, b1, G1⟩ := c1
  refine F.ok sc_add_hand (fun vs H Q E h => ?_) (fun cdv A outer s H vs Q E hr h => ?_)
  · obtain ⟨Ks, p, S, F, br, mom, rfl, _⟩ := h
    rfl
  · obtain ⟨Ks, p, S, F, br, mom, rfl, ⟨α, δ, J, G, rfl, rfl, L, Z⟩, W, kq⟩ := h
    have hu := hu_of hr
    refine ⟨_, pss_cons (ps_set (i := 3) sc_add_hand.nd rfl (.inl rfl) (pe_fld (pv 0) rfl))
      (pss_cons (ps_dput hu (pe_fld (pv 0) rfl) (pv 3) (pe_make m1 G1 hr rfl g1 b1 .nil pass0 (pa_cons (pv 1) (pa_cons (pv 2) pa_nil))) rfl)
      (pss_cons (ps_fldaug (pv 0) pe_int in_add)
      (pss_cons (ps_fld (pv 0) pe_dnewK rfl)
      (pss_one (ps_ret (pv 3)))))), ?_⟩
    refine ⟨_, rfl, _, _, _, _, _, rfl, L.sh, C.S, C.sHm, rfl, ?_⟩
    refine ⟨_, rfl, _, rfl, fun x dx hx hdx ndx => ?_⟩
    refine ⟨x, dx, br, mom, rfl, upd_same, fun d H1 hd k1 h1 h2 => ⟨rfl, ?_⟩⟩
    have ndx' : d ≠ x := fun e => by rw [e, upd_same] at hd; cases hd
    have ndd : d ≠ dx := fun e => by rw [e, upd_ne ndx, upd_same] at hd; cases hd
    have hd0 : H d = none := by rw [upd_ne ndx', upd_ne ndd] at hd; exact hd
    have k0 : ∀ b o, H b = some o → H1 b = some o := fun b o e => k1 b o (by rw [upd_ne (ne_of_none e hx), upd_ne (ne_of_none e hdx)]; exact e) (ne_of_none e hx)
    have e1 : H1 (α .sh) = some (.ins T.S (δ .sh) (fSh S α)) := k0 _ _ L.sh
    refine ⟨_, rfl, _, _, _, _, _, rfl, e1, C.S, C.sHns, rfl, _, rfl, _, _, rfl, DPut.k (k := Sum.inl S.hm) (k0 _ _ L.hns) (by rw [enc_length]; exact le1000000 W.lenH), ?_⟩
    obtain ⟨L2, st2⟩ := L.newHand (br := br) (mom := mom) W.fresh hx hd0 (Ne.symm ndx') k0 h1 h2
    refine ⟨_, rfl, _, _, _, _, _, rfl, L2.sh, C.S, C.sHm, rfl, _, _, rfl, rfl, _, _, L2.sh, by show 6 < 1000; decide, ?_⟩
    obtain ⟨L3, st3⟩ := L2.setSh S.now S.bm (S.hm + 1)
    intro j hj
    refine ⟨_, rfl, _, _, _, _, rfl, (upd_ne (ne_of_none L3.sh hj)).trans L3.sh, C.S, C.sJd, by show 6 < 1000; decide, ?_⟩
    obtain ⟨L4, st4⟩ := L3.void hj
    exact ⟨_, rfl, kq _ _ ⟨aJd (aHn α S.hm x d) j, _, [], G, rfl, rfl, L4, RightJ.nil, Z⟩ (st2.trans (st3.trans st4))⟩
/-! ### let_go -/
def spLetGo (T : Cs) : Sp := fun vs H Q _ => ∃ (p : Addr) (S : Sh) (F : Addr → Prop) (n : Int) (h : Hn), vs = [.ref p, .int n] ∧ LyAt T H p S F ∧ aget S.hns n = some h ∧
  ∀ H' F', ShAt T H' p (S.delHand n) F' → Step H F H' F' → Q .non H'
theorem sc_let_go : FnScope ["self", "hand"] ["self", "hand"] (defScope s_Shelf_let_go) := ⟨rfl, rfl, rfl, by decide +kernel, rfl, by decide +kernel, by decide +kernel⟩
theorem ok_let_go {f : Addr} {fd : FuncData} (F : Fun K "let_go" "Shelf.let_go" s_Shelf_let_go f fd) (C : Cf K T) : FnOk P w K mg base CX0 1 f fd ["self", "hand"] (spLetGo T) := by
  refine F.ok sc_let_go (fun vs H Q E h => ?_) (fun cdv A outer s H vs Q E hr h => ?_)
  · obtain ⟨p, S, F, n, h, rfl, _⟩ := h
    rfl
  · obtain ⟨p, S, F, n, h, rfl, ⟨α, δ, J, G, rfl, rfl, L, Z⟩, hh, kq⟩ := h
    refine ⟨_, pss_cons (ps_ddel (pe_fld (pv 0) rfl) (pv 1)) (pss_one (ps_fld (pv 0) pe_dnewK rfl)), ?_⟩
    refine ⟨_, rfl, _, _, _, _, _, rfl, L.sh, C.S, C.sHns, rfl, _, rfl, _, _, Sum.inl n, rfl, L.hns, rfl, by rw [valV_enc inl_inj, hh]; rfl, ?_⟩
    obtain ⟨L1, st1⟩ := L.delHand n
    intro j hj
    refine ⟨_, rfl, _, _, _, _, rfl, (upd_ne (ne_of_none L1.sh hj)).trans L1.sh, C.S, C.sJd, by show 6 < 1000; decide, ?_⟩
    obtain ⟨L2, st2⟩ := L1.void hj
    exact kq _ _ ⟨aJd α j, δ, [], G, rfl, rfl, L2, RightJ.nil, Z⟩ (st1.trans st2)
/-! ### begin, close -/
def spBegin (T : Cs) (U : Es) : Sp := fun vs H Q E => ∃ (Ks : List Str) (p : Addr) (S : Sh) (F : Addr → Prop) (n : Int), vs = [.ref p, .int n] ∧ LyAt T H p S F ∧ WF Ks S ∧ n.natAbs < 10 ^ 20 ∧
  (∀ b, aget S.brs n = some b → (b.alive = true → ∀ H' F', ShAt T H' p (S.addHand n S.now) F' → Step H F H' F' → Q (.int S.hm) H') ∧ (b.alive = false → E (.ref U.dropped) none H)) ∧ (aget S.brs n = none → E (.ref U.noBranch) none H)
theorem sc_begin : FnScope ["self", "branch"] ["self", "branch"] (defScope s_Shelf_begin) := ⟨rfl, rfl, rfl, by decide +kernel, rfl, by decide +kernel, by decide +kernel⟩
theorem ok_begin {f : Addr} {fd : FuncData} (F : Fun K "begin" "Shelf.begin" s_Shelf_begin f fd) (C : Cf K T) (X : Ex K mg U) (c1 : Mx P w K mg base (L2.CX P w) T.S "branch_there" 1 ["self", "branch"] (spBranchThere T U))
    (c2 : Mx P w K mg base CX0 T.S "add_hand" 3 ["self", "branch", "moment"] (spAddHand T)) : FnOk P w K mg base (L2.CX P w) 4 f fd ["self", "branch"] (spBegin T U) := by
  obtain ⟨f1, fd1, m1, b1, G1⟩ := c1
  obtain ⟨f2, fd2, m2, b2, G2⟩ := c2
  refine F.okX sc_begin (fun vs H Q E h => ?_) (fun cdv A outer s H vs Q E hr h => ?_)
  · obtain ⟨Ks, p, S, F, n, rfl, _⟩ := h
    rfl
  · obtain ⟨Ks, p, S, F, n, rfl, ⟨α, δ, J, G, rfl, rfl, L, Z⟩, W, hn, q1, q2⟩ := h
    refine ⟨_, pss_cons (ps_if (pt_not (pt_val (pe_fld (pe_meth (pv 0) C.S m1 G1 (hr.mono (by decide)) b1 .nil (passes_call (takes_of rfl rfl rfl rfl) (fun _ _ _ _ h => h)) (pa_cons (pv 1) pa_nil)) rfl)))
      (pss_one (ps_raise rfl (takes_of rfl rfl rfl rfl) (pmk_ownA PySem.F.excBase_ValueError X.dropped.x X.dropped.g X.dropped.k (raises_own X.dropped.b X.dropped.t) rfl (pa_cons (pe_joined (.cons pe_str (.cons (pe_fmt (pv 1)) (.cons pe_str .nil)))) pa_nil)))) pss_nil)
      (pss_one (ps_ret (pe_meth (pv 0) C.S m2 G2 hr b2 .nil pass0 (pa_cons (pv 1) (pa_cons (pe_fld (pv 0) rfl) pa_nil))))), ?_⟩
    refine ⟨_, rfl, _, _, _, rfl, L.sh, fSh_no, _, rfl, S, α, δ, J, G, n, rfl, L, hn, fun b hb => ?_, q2⟩
    refine ⟨_, _, _, _, _, rfl, L.br hb, C.B, C.bAl, rfl, _, rfl, ?_⟩
    cases hal : b.alive with
    | true =>
      refine ifF rfl ⟨_, rfl, _, _, _, rfl, L.sh, fSh_no, _, rfl, _, rfl, _, _, _, _, _, rfl, L.sh, C.S, C.sNow, rfl, ?_⟩
      exact ⟨Ks, α .sh, S, _, n, S.now, rfl, ⟨α, δ, J, G, rfl, rfl, L, Z⟩, W, (q1 b hb).1 hal⟩
    | false =>
      have f1 := fit1 (b := ("branch " : Str)) (by decide +kernel)
      have f2 := fit2 (b := Str.ofString (toString n)) f1.1 (by have := text_small hn; omega)
      have f3 := fit2 (b := (" was dropped" : Str)) f2.1 (by decide +kernel)
      exact ifT rfl ⟨_, rfl, f1.2, _, rfl, .inr ⟨n, rfl, log2_small hn, _, rfl, f2.2, _, rfl, f3.2, by show 1 ≤ sizeLine; decide, (q1 b hb).2 hal⟩⟩
def spClose (T : Cs) (U : Es) : Sp := fun vs H Q E => ∃ (p : Addr) (S : Sh) (F : Addr → Prop) (n : Int), vs = [.ref p, .int n] ∧ LyAt T H p S F ∧ n.natAbs < 10 ^ 20 ∧
  (∀ h, aget S.hns n = some h → ∀ H' F', ShAt T H' p (S.delHand n) F' → Step H F H' F' → Q .non H') ∧ (aget S.hns n = none → E (.ref U.noHand) none H)
theorem sc_close : FnScope ["self", "hand"] ["self", "hand"] (defScope s_Shelf_close) := ⟨rfl, rfl, rfl, by decide +kernel, rfl, by decide +kernel, by decide +kernel⟩
theorem ok_close {f : Addr} {fd : FuncData} (F : Fun K "close" "Shelf.close" s_Shelf_close f fd) (C : Cf K T) (c1 : Mx P w K mg base (L2.CX P w) T.S "hand_there" 1 ["self", "hand"] (spHandThere T U))
    (c2 : Mx P w K mg base CX0 T.S "let_go" 1 ["self", "hand"] (spLetGo T)) : FnOk P w K mg base (L2.CX P w) 2 f fd ["self", "hand"] (spClose T U) := by
  obtain ⟨f1, fd1, m1, b1, G1⟩ := c1
  obtain ⟨f2, fd2, m2, b2, G2⟩ := c2
  refine F.okX sc_close (fun vs H Q E h => ?_) (fun cdv A outer s H vs Q E hr h => ?_)
  · obtain ⟨p, S, F, n, rfl, _⟩ := h
    rfl
  · obtain ⟨p, S, F, n, rfl, ⟨α, δ, J, G, rfl, rfl, L, Z⟩, hn, q1, q2⟩ := h
    refine ⟨_, pss_cons (ps_expr (pe_meth (pv 0) C.S m1 G1 hr b1 .nil (passes_call (takes_of rfl rfl rfl rfl) (fun _ _ _ _ h => h)) (pa_cons (pv 1) pa_nil)))
      (pss_one (ps_expr (pe_meth (pv 0) C.S m2 G2 hr b2 .nil pass0 (pa_cons (pv 1) pa_nil)))), ?_⟩
    refine ⟨_, rfl, _, _, _, rfl, L.sh, fSh_no, _, rfl, S, α, δ, J, G, n, rfl, L, hn, fun h hh => ?_, q2⟩
    refine ⟨_, rfl, _, _, _, rfl, L.sh, fSh_no, _, rfl, ?_⟩
    exact ⟨α .sh, S, _, n, h, rfl, ⟨α, δ, J, G, rfl, rfl, L, Z⟩, hh, q1 h hh⟩
end
end Vs
namespace Vs
open PySem L2
section
variable {P : Program} {w : World} {K : PySem.W.Frag} {mg : Str → Option Value} {base : Heap} {T : Cs} {U : Es} {Pt : Addr}
theorem Step.sm_then {H1 H2 H3 : Hp} {F F' : Addr → Prop} (a : Sm H1 H2) (b : Step H2 F H3 F') : Step H1 F H3 F' := (Step.sm a).trans b
theorem drafts_le {Ks : List Str} {S : Sh} (W : WF Ks S) {n : Int} {h : Hn} (e : aget S.hns n = some h) : h.drafts.length ≤ 60 := by
  have := len_le_pool (W.dks n h e).1 (W.dks n h e).2
  rw [List.length_map] at this
  exact Nat.le_trans this W.pool
/-! ### write, erase -/
def spWrite (T : Cs) (U : Es) (Pt : Addr) : Sp := fun vs H Q E => ∃ (Ks : List Str) (p : Addr) (S : Sh) (F : Addr → Prop) (n : Int) (k : Str) (v : Int), vs = [.ref p, .int n, .str k, .int v] ∧ ShAt T H p S F ∧ WF Ks S ∧ GxR.TabG H Pt ∧
  n.natAbs < 10 ^ 20 ∧ k.length ≤ 1000 ∧ v.natAbs < 10 ^ 20 ∧
    (∀ h, aget S.hns n = some h → (isKeyB k = true → isVal v = true → ∀ H' F', ShAt T H' p (S.write n h k (some v)) F' → Step H F H' F' → Q .non H') ∧ ((isKeyB k && isVal v) = false → ∀ H', Sm H H' → E (.ref U.badKey) none H')) ∧
    (aget S.hns n = none → E (.ref U.noHand) none H)
theorem sc_write : FnScope ["self", "hand", "key", "value", "held"] ["self", "hand", "key", "value"] (defScope s_Shelf_write) := ⟨rfl, rfl, rfl, by decide +kernel, rfl, by decide +kernel, by decide +kernel⟩
theorem ok_write {f : Addr} {fd : FuncData} (F : Fun K "write" "Shelf.write" s_Shelf_write f fd) (C : Cf K T) (X : Ex K mg U) (c1 : Mx P w K mg base (L2.CX P w) T.S "hand_there" 1 ["self", "hand"] (spHandThere T U))
    (c2 : Fx P w K mg base (L2.CX P w) "check_key" 4 ["key"] (spCheck U Pt)) (c3 : Fx P w K mg base CX0 "is_value" 1 ["number"] spIsVal) :
    FnOk P w K mg base (L2.CX P w) 5 f fd ["self", "hand", "key", "value"] (spWrite T U Pt) := by
  obtain ⟨f1, fd1, m1, b1, G1⟩ := c1
  obtain ⟨f2, fd2, g2, k2, b2, G2⟩ := c2
  obtain ⟨f3, fd3, g3, k3, b3, G3⟩ := c3
  refine F.okX sc_write (fun vs H Q E h => ?_) (fun cdv A outer s H vs Q E hr h => ?_)
  · obtain ⟨Ks, p, S, F, n, k, v, rfl, _⟩ := h
    rfl
  · obtain ⟨Ks, p, S, F, n, k, v, rfl, ⟨α, δ, J, G, rfl, rfl, L, R, Z⟩, W, hT, hn, hk, hv, q1, q2⟩ := h
    have hu := hu_of hr
    refine ⟨_, pss_cons (ps_set (i := 4) sc_write.nd rfl (.inl rfl) (pe_meth (pv 0) C.S m1 G1 (hr.mono (by decide)) b1 .nil (passes_call (takes_of rfl rfl rfl rfl) (fun _ _ _ _ h => h)) (pa_cons (pv 1) pa_nil)))
      (pss_cons (ps_expr (pe_call G2 hr rfl g2 k2 b2 .nil (passes_call (takes_of rfl rfl rfl rfl) (fun _ _ _ _ h => h)) (pa_cons (pv 2) pa_nil)))
      (pss_cons (ps_if (pt_not (pt_val (pe_call G3 (hr.mono (by decide)) rfl g3 k3 b3 .nil pass0 (pa_cons (pv 3) pa_nil))))
        (pss_one (ps_raise rfl (takes_of rfl rfl rfl rfl) (pmk_ownA PySem.F.excBase_ValueError X.badKey.x X.badKey.g X.badKey.k (raises_own X.badKey.b X.badKey.t) rfl (pa_cons (pe_joined (.cons (pe_fmt (pv 3)) (.cons pe_str .nil))) pa_nil)))) pss_nil)
      (pss_one (ps_dput hu (pe_fld (pv 4) rfl) (pv 2) (pv 3) rfl)))), ?_⟩
    refine ⟨_, rfl, _, _, _, rfl, L.sh, fSh_no, _, rfl, S, α, δ, J, G, n, rfl, L, hn, fun h hh => ?_, q2⟩
    obtain ⟨q1, q1'⟩ := q1 h hh
    refine ⟨_, rfl, k, rfl, hk, hT, fun H1 s1 => ⟨fun hy => ?_, fun hy => q1' (by rw [hy]; rfl) H1 s1⟩⟩
    refine ⟨_, rfl, v, rfl, _, rfl, ?_⟩
    cases hw : isVal v with
    | false =>
      have f1 := fit1 (b := Str.ofString (toString v)) (by have := text_small hv; omega)
      have f2 := fit2 (b := (" is no value" : Str)) f1.1 (by decide +kernel)
      exact ifT rfl ⟨_, rfl, .inr ⟨v, rfl, log2_small hv, _, rfl, f1.2, _, rfl, f2.2, by show 1 ≤ sizeLine; decide, q1' (by rw [hy, hw]; rfl) H1 s1⟩⟩
    | true =>
      have L1 := L.sm s1
      refine ifF rfl ⟨_, rfl, _, rfl, _, _, _, _, _, rfl, L1.hn hh, C.N, C.nDr, rfl, _, rfl, _, _, rfl, DPut.k (k := Sum.inr k) (L1.dr hh) (by rw [enc_length]; exact small1000 (by have := drafts_le W hh; omega)), ?_⟩
      obtain ⟨L2, st⟩ := L1.draft hh k (some v)
      exact q1 hy hw _ _ ⟨α, δ, J, G, rfl, rfl, L2, R.same rfl (viewsM_write W hh k (some v)), Z⟩ (Step.sm_then s1 st)
def spErase (T : Cs) (U : Es) (Pt : Addr) : Sp := fun vs H Q E => ∃ (Ks : List Str) (p : Addr) (S : Sh) (F : Addr → Prop) (n : Int) (k : Str), vs = [.ref p, .int n, .str k] ∧ ShAt T H p S F ∧ WF Ks S ∧ GxR.TabG H Pt ∧
  n.natAbs < 10 ^ 20 ∧ k.length ≤ 1000 ∧
    (∀ h, aget S.hns n = some h → (isKeyB k = true → ∀ H' F', ShAt T H' p (S.write n h k none) F' → Step H F H' F' → Q .non H') ∧ (isKeyB k = false → ∀ H', Sm H H' → E (.ref U.badKey) none H')) ∧
    (aget S.hns n = none → E (.ref U.noHand) none H)
theorem sc_erase : FnScope ["self", "hand", "key", "held"] ["self", "hand", "key"] (defScope s_Shelf_erase) := ⟨rfl, rfl, rfl, by decide +kernel, rfl, by decide +kernel, by decide +kernel⟩
theorem ok_erase {f : Addr} {fd : FuncData} (F : Fun K "erase" "Shelf.erase" s_Shelf_erase f fd) (C : Cf K T) (c1 : Mx P w K mg base (L2.CX P w) T.S "hand_there" 1 ["self", "hand"] (spHandThere T U))
    (c2 : Fx P w K mg base (L2.CX P w) "check_key" 4 ["key"] (spCheck U Pt)) : FnOk P w K mg base (L2.CX P w) 5 f fd ["self", "hand", "key"] (spErase T U Pt) := by
  obtain ⟨f1, fd1, m1, b1, G1⟩ := c1
  obtain ⟨f2, fd2, g2, k2, b2, G2⟩ := c2
  refine F.okX sc_erase (fun vs H Q E h => ?_) (fun cdv A outer s H vs Q E hr h => ?_)
  · obtain ⟨Ks, p, S, F, n, k, rfl, _⟩ := h
    rfl
  · obtain ⟨Ks, p, S, F, n, k, rfl, ⟨α, δ, J, G, rfl, rfl, L, R, Z⟩, W, hT, hn, hk, q1, q2⟩ := h
    have hu := hu_of hr
    refine ⟨_, pss_cons (ps_set (i := 3) sc_erase.nd rfl (.inl rfl) (pe_meth (pv 0) C.S m1 G1 (hr.mono (by decide)) b1 .nil (passes_call (takes_of rfl rfl rfl rfl) (fun _ _ _ _ h => h)) (pa_cons (pv 1) pa_nil)))
      (pss_cons (ps_expr (pe_call G2 hr rfl g2 k2 b2 .nil (passes_call (takes_of rfl rfl rfl rfl) (fun _ _ _ _ h => h)) (pa_cons (pv 2) pa_nil)))
      (pss_one (ps_dput hu (pe_fld (pv 3) rfl) (pv 2) pe_non rfl))), ?_⟩
    refine ⟨_, rfl, _, _, _, rfl, L.sh, fSh_no, _, rfl, S, α, δ, J, G, n, rfl, L, hn, fun h hh => ?_, q2⟩
    obtain ⟨q1, q1'⟩ := q1 h hh
    refine ⟨_, rfl, k, rfl, hk, hT, fun H1 s1 => ⟨fun hy => ?_, fun hy => q1' hy H1 s1⟩⟩
    have L1 := L.sm s1
    refine ⟨_, rfl, _, _, _, _, _, rfl, L1.hn hh, C.N, C.nDr, rfl, _, rfl, _, _, rfl, DPut.k (k := Sum.inr k) (L1.dr hh) (by rw [enc_length]; exact small1000 (by have := drafts_le W hh; omega)), ?_⟩
    obtain ⟨L2, st⟩ := L1.draft hh k none
    exact q1 hy _ _ ⟨α, δ, J, G, rfl, rfl, L2, R.same rfl (viewsM_write W hh k none), Z⟩ (Step.sm_then s1 st)
end
end Vs
namespace Vs
open PySem L2
structure Cl (K : PySem.W.Frag) (mg : Str → Option Value) (U : Es) (f : Addr) : Prop where
  g : mg "Clash" = some (.ref U.clash)
  T : OexC K U.clash
  iC : PySem.W.findIn K (.ref U.clash) "__init__" = some (some (.ref f))
  tI : PySem.W.typeIn K (.ref f) = some (.type "function")
  nk : PySem.W.findIn K (.ref U.clash) "key" = some none
section
variable {P : Program} {w : World} {K : PySem.W.Frag} {mg : Str → Option Value} {base : Heap} {T : Cs} {U : Es} {Pt : Addr}
def spClashInit (U : Es) : Sp := fun vs H Q _ => ∃ (a : Addr) (v : V), vs = [.ref a, v] ∧ H a = some (exo a U.clash none) ∧ ∀ dx, H dx = none → dx ≠ a → Q .non (upd (upd H dx (exd dx [("key", v)])) a (exo a U.clash (some dx)))
theorem sc_clash : FnScope ["self", "key"] ["self", "key"] (defScope s_Clash___init__) := ⟨rfl, rfl, rfl, by decide +kernel, rfl, by decide +kernel, by decide +kernel⟩
theorem ok_clash {f : Addr} {fd : FuncData} (F : Fun K "__init__" "Clash.__init__" s_Clash___init__ f fd) {g : Addr} (C : Cl K mg U g) : FnOk P w K mg base CX0 1 f fd ["self", "key"] (spClashInit U) := by
  refine F.ok sc_clash (fun vs H Q E h => ?_) (fun cdv A outer s H vs Q E hr h => ?_)
  · obtain ⟨a, v, rfl, _⟩ := h
    rfl
  · obtain ⟨a, v, rfl, ha, kq⟩ := h
    refine ⟨_, pss_one (ps_ost (pv 0) (pv 1)), ?_⟩
    exact ⟨_, rfl, _, rfl, a, U.clash, rfl, C.T, C.nk, .inl ⟨ha, kq⟩⟩
theorem rise_len : ∀ {l : List Cel} {lo hi : Int}, Rise l → (∀ c ∈ l, lo ≤ c.1 ∧ c.1 ≤ hi) → lo ≤ hi + 1 → (l.length : Int) ≤ hi + 1 - lo
  | [], lo, hi, _, _, h => by simp; omega
  | c :: l, lo, hi, r, hb, h => by
    obtain ⟨h1, h2⟩ := List.pairwise_cons.mp r
    have hc := hb c List.mem_cons_self
    have := rise_len (lo := c.1 + 1) (hi := hi) h2 (fun x hx => ⟨by have := h1 x hx; omega, (hb x (List.mem_cons_of_mem _ hx)).2⟩) (by omega)
    rw [List.length_cons]; omega
theorem WF.lineLen {Ks : List Str} {S : Sh} (W : WF Ks S) {n : Int} {b : Br} (hb : aget S.brs n = some b) {k : Str} {l : List Cel} (hk : aget b.lines k = some l) : l.length ≤ 1000000 := Nat.le_trans (W.cap.l n b k l hb hk) (by decide)
theorem lines_le {Ks : List Str} {S : Sh} (W : WF Ks S) {n : Int} {b : Br} (hb : aget S.brs n = some b) : b.lines.length ≤ 60 := by
  have := len_le_pool (W.lks n b hb).1 (W.lks n b hb).2
  rw [List.length_map] at this
  exact Nat.le_trans this W.pool
theorem marks_le {Ks : List Str} {S : Sh} (W : WF Ks S) {n : Int} {b : Br} (hb : aget S.brs n = some b) : b.marks.length ≤ 60 := by
  have := len_le_pool (W.mks n b hb).1 (W.mks n b hb).2
  rw [List.length_map] at this
  exact Nat.le_trans this W.pool
theorem aput_len {κ β : Type} [DecidableEq κ] (l : List (κ × β)) (k : κ) (x : β) : (aput l k x).length ≤ l.length + 1 := by
  cases e : aget l k with
  | some y => rw [aput_old x e, List.length_map]; omega
  | none => rw [aput_new x e, List.length_append]; exact Nat.le_refl _
theorem take_snoc {α : Type} {l : List α} {i : Nat} {x : α} (h : l[i]? = some x) : l.take (i + 1) = l.take i ++ [x] := by
  rw [List.take_add_one, h]; rfl
/-! ### settle -/
def OffLn (α α' : Rl → Addr) : Prop := ∀ r, (∀ n k, r ≠ .ln n k) → α' r = α r
def spSettle (T : Cs) (U : Es) : Sp := fun vs H Q E => ∃ (Ks : List Str) (S : Sh) (α : Rl → Addr) (δ : Dl) (J : List Str) (G : Jud) (n : Int) (h : Hn) (b : Br), vs = [.ref (α .sh), .ref (α (.hn n))] ∧ Lay T H S α δ J G ∧ δ.Thaw ∧ WF Ks S ∧
  aget S.hns n = some h ∧ aget S.brs h.br = some b ∧
  (b.alive = false → E (.ref U.dropped) none H) ∧
  (b.alive = true → ∀ k, clashM b h = some k → ∀ d H', Sm H H' → H' d = some (.xd [("key", .str k)]) → E (.ref U.clash) (some d) H') ∧
  (b.alive = true → clashM b h = none → ∀ H' α' δ', OffLn α α' → δ'.Thaw → Lay T H' (S.settle h.br h) α' δ' J G → Step H (Foot S α J) H' (Foot (S.settle h.br h) α' J) → Q .non H')
theorem sc_settle : FnScope ["self", "held", "branch", "names", "key"] ["self", "held"] (defScope s_Shelf_settle) := ⟨rfl, rfl, rfl, by decide +kernel, rfl, by decide +kernel, by decide +kernel⟩
theorem ok_settle {f : Addr} {fd : FuncData} (F : Fun K "settle" "Shelf.settle" s_Shelf_settle f fd) (B : Bt mg) (C : Cf K T) (X : Ex K mg U) {f1 : Addr} {fd1 : FuncData} (Cl1 : Cl K mg U f1) (b1 : Binds K fd1 ["self", "key"] [])
    (G1 : FnOk P w K mg base CX0 1 f1 fd1 ["self", "key"] (spClashInit U)) : FnOk P w K mg base (L2.CX P w) 3 f fd ["self", "held"] (spSettle T U) := by
  refine F.okX sc_settle (fun vs H Q E h => ?_) (fun cdv A outer s H vs Q E hr h => ?_)
  · obtain ⟨Ks, S, α, δ, J, G, n, h, b, rfl, _⟩ := h
    rfl
  · obtain ⟨Ks, S, α, δ, J, G, n, h, b, rfl, L, Z, W, hh, hb, q1, q2, q3⟩ := h
    have hu := hu_of hr
    refine ⟨_, pss_cons (ps_set (i := 2) sc_settle.nd rfl (.inl rfl) (pe_dget hu (pe_fld (pv 0) rfl) (pe_fld (pv 1) rfl) (fun _ _ => rfl)))
      (pss_cons (ps_if (pt_not (pt_val (pe_fld (pv 2) rfl)))
        (pss_one (ps_raise rfl (takes_of rfl rfl rfl rfl) (pmk_ownA PySem.F.excBase_ValueError X.dropped.x X.dropped.g X.dropped.k (raises_own X.dropped.b X.dropped.t) rfl (pa_cons (pe_joined (.cons pe_str (.cons (pe_fmt (pe_fld (pv 1) rfl)) (.cons pe_str .nil)))) pa_nil)))) pss_nil)
      (pss_cons (ps_set (i := 3) sc_settle.nd rfl (.inl rfl) (pe_callB (call_sortedD rfl) (by rfl) B.sorted (by decide +kernel) (pa_cons (pe_fld (pv 1) rfl) pa_nil)))
      (pss_cons (ps_for (passes_of rfl) rfl (pi_list (pv 3)) (pg_name (i := 4) sc_settle.nd rfl (.inl rfl))
        (pss_one (ps_if (pt_cmpR op_gt (pe_dget2 hu (pe_fld (pv 2) rfl) (pv 4) pe_int ⟨rfl, rfl, rfl, rfl⟩) (pe_fld (pv 1) rfl) (nomark _))
          (pss_one (ps_raise rfl (takes_of rfl rfl rfl rfl) (pmk_oex Cl1.T Cl1.iC Cl1.tI G1 hr b1 .nil pass0 rfl Cl1.g (pa_cons (pv 4) pa_nil)))) pss_nil)))
      (pss_cons (ps_fldaug (pv 0) pe_int in_add)
      (pss_one (ps_for (passes_of rfl) rfl (pi_list (pv 3)) (pg_name (i := 4) sc_settle.nd rfl (.inl rfl))
        (C8.pss_cut (ps_expr (pe_bm PySem.F.plainAttrs_list PySem.F.slot_list_append PySem.F.type_list_append mt_append (pe_dsetd (pe_fld (pv 2) rfl) (pv 4) (pe_lst pa_nil) ⟨rfl, rfl, rfl, rfl⟩)
          (pa_cons (pe_tup (pa_cons (pe_fld (pv 0) rfl) (pa_cons (pe_dget hu (pe_fld (pv 1) rfl) (pv 4) (fun _ _ => rfl)) pa_nil))) pa_nil)))
        (pss_one (ps_dput hu (pe_fld (pv 2) rfl) (pv 4) (pe_fld (pv 0) rfl) rfl))))))))), ?_⟩
    refine ⟨_, rfl, _, _, _, _, _, rfl, L.sh, C.S, C.sBrs, rfl, _, rfl, _, _, _, _, _, rfl, L.hn hh, C.N, C.nBr, rfl, _, _, rfl, L.gBr1 hb, ?_⟩
    refine ⟨_, rfl, _, _, _, _, _, rfl, L.br hb, C.B, C.bAl, rfl, _, rfl, ?_⟩
    cases hal : b.alive with
    | false =>
      have hq := W.bnd _ _ hb
      have hsz := W.sz
      have hbn : h.br.natAbs < 10 ^ 20 := by omega
      have f1 := fit1 (b := ("branch " : Str)) (by decide +kernel)
      have f2 := fit2 (b := Str.ofString (toString h.br)) f1.1 (by have := text_small hbn; omega)
      have f3 := fit2 (b := (" was dropped" : Str)) f2.1 (by decide +kernel)
      exact ifT rfl ⟨_, rfl, f1.2, _, rfl, _, _, _, _, _, rfl, L.hn hh, C.N, C.nBr, rfl, .inr ⟨h.br, rfl, log2_small hbn, _, rfl, f2.2, _, rfl, f3.2, by show 1 ≤ sizeLine; decide, q1 hal⟩⟩
    | true =>
      refine ifF rfl ?_
      have hdl := drafts_le W hh
      refine ⟨_, rfl, _, _, _, _, _, rfl, L.hn hh, C.N, C.nDr, rfl, _, _, h.drafts.map (·.1), rfl, .inl (L.dr hh), enc_keys _, by rw [List.length_map]; omega, fun ys p perm srt hp => ?_⟩
      obtain rfl := sortedS_eq perm srt
      have s1 : Sm H (upd H p (.lst ((sortK (h.drafts.map (·.1))).map V.str))) := Sm.new hp
      have L1 := L.sm s1
      generalize hH1 : upd H p (.lst ((sortK (h.drafts.map (·.1))).map V.str)) = H1 at s1 L1
      have hpl : H1 p = some (.lst ((sortK (h.drafts.map (·.1))).map V.str)) := by rw [← hH1]; exact upd_same
      have npF : ¬ Foot S α J p := fun ⟨r, hr, e⟩ => L.nofr hp hr e
      generalize hns : sortK (h.drafts.map (·.1)) = names at hpl
      have inN : ∀ k ∈ names, ∃ v, aget h.drafts k = some v := fun k hk => aget_of_key (mem_sortK.mp (hns ▸ hk))
      have ndN : names.Nodup := hns ▸ sortK_nodup (W.dks n h hh).1
      have lnN : names.length ≤ 60 := by rw [← hns, sortK_length, List.length_map]; exact hdl
      have clN : clashM b h = names.find? fun k => decide (h.mom < (aget b.marks k).getD 0) := by unfold clashM; rw [hns]
      -- is there a clash
      refine ⟨_, rfl, p, rfl, ⟨_, SqL.of hpl⟩, for_list (K := K) (a := p) (xs := names.map V.str) (fun i σ H2 => H2 = H1 ∧ (∃ x, σ = [some (.ref (α .sh)), some (.ref (α (.hn n))), some (.ref (α (.br h.br))), some (.ref p), x]) ∧
          ∀ j k, j < i → names[j]? = some k → ¬ h.mom < (aget b.marks k).getD 0)
        ⟨rfl, ⟨none, rfl⟩, fun j k hj => absurd hj (Nat.not_lt_zero _)⟩ (fun i σ H2 _ ⟨e, _⟩ => e ▸ SqL.of hpl) ?_ ?_⟩
      · rintro i y σ H2 hi ⟨rfl, ⟨x, rfl⟩, hbefore⟩
        rw [List.getElem?_map] at hi
        cases hk : names[i]? with
        | none => rw [hk] at hi; cases hi
        | some k =>
          rw [hk] at hi
          obtain rfl : V.str k = y := Option.some.inj hi
          have hg := L1.gMk hb k
          refine ⟨_, rfl, _, _, _, _, _, rfl, L1.br hb, C.B, C.bMk, rfl, _, rfl, .inl ⟨_, .inl (L1.mks hb)⟩, _, rfl, _, hg, _, rfl, _, _, _, _, _, rfl, L1.hn hh, C.N, C.nMom, rfl, (aget b.marks k).getD 0, h.mom, ?_, rfl, _, rfl, ?_⟩
          · cases aget b.marks k <;> rfl
          · refine ite2 (fun c => ?_) (fun c => ?_)
            · have c' : h.mom < (aget b.marks k).getD 0 := of_decide_eq_true c
              have hf : clashM b h = some k := by
                rw [clN]
                obtain ⟨hi', ei⟩ := List.getElem?_eq_some_iff.mp hk
                exact List.find?_eq_some_iff_getElem.mpr ⟨decide_eq_true c', i, hi', ei, fun j hj => by
                  have := hbefore j names[j] hj (List.getElem?_eq_getElem (by omega))
                  simpa using this⟩
              refine ⟨_, rfl, by show 1 ≤ 1000; decide, fun a ha => ⟨a, .str k, rfl, upd_same, fun dx hdx nda => ⟨rfl, dx, [("key", .str k)], upd_same, ?_, ?_, ?_⟩⟩⟩
              · rw [upd_ne nda, upd_same]
              · rw [upd_ne nda] at hdx; exact hdx
              · have hd1 : H2 dx = none := by rw [upd_ne nda] at hdx; exact hdx
                refine q2 hal k hf dx _ (s1.trans (Sm.of fun b' o e => ?_)) upd_same
                rw [upd_ne (ne_of_none e hd1), del_ne (ne_of_none e ha), upd_ne (ne_of_none e ha), upd_ne (ne_of_none e hd1), upd_ne (ne_of_none e ha)]; exact e
            · exact ⟨rfl, ⟨_, rfl⟩, fun j k' hj hk' => by
                by_cases z : j = i
                · subst z; rw [hk] at hk'; cases hk'; exact of_decide_eq_false (by simpa using c)
                · exact hbefore j k' (by omega) hk'⟩
      · rintro σ H2 ⟨rfl, ⟨x, rfl⟩, hall⟩
        rw [List.length_map] at hall
        have hnc : clashM b h = none := by
          rw [clN]
          refine List.find?_eq_none.mpr fun k hk => ?_
          obtain ⟨j, hj, e⟩ := List.getElem_of_mem hk
          have := hall j k hj (by rw [← e]; exact List.getElem?_eq_getElem hj)
          simpa using this
        refine ⟨_, rfl, _, _, _, _, _, rfl, L1.sh, C.S, C.sNow, rfl, _, _, rfl, rfl, _, _, L1.sh, by show 6 < 1000; decide, ?_⟩
        obtain ⟨L2, st2⟩ := L1.setSh (S.now + 1) S.bm S.hm
        generalize hH3 : upd H2 (α .sh) (.ins T.S (δ .sh) (fSh { S with now := S.now + 1, bm := S.bm, hm := S.hm } α)) = H3 at L2 st2
        have hH3' : upd H2 (α .sh) (.ins T.S (δ .sh) (putF "now" (.int (S.now + 1)) (fSh S α))) = H3 := hH3
        have hpl3 : H3 p = some (.lst (names.map V.str)) := (st2.keep p _ hpl (fun _ z => by cases z) npF).1
        dsimp only
        rw [hH3']
        refine ⟨_, rfl, p, rfl, ⟨_, SqL.of hpl3⟩, for_list (K := K) (a := p) (xs := names.map V.str) (fun i σ H4 => ∃ (x : Option V) (α4 : Rl → Addr) (S4 : Sh) (b4 : Br), σ = [some (.ref (α .sh)), some (.ref (α (.hn n))), some (.ref (α (.br h.br))), some (.ref p), x] ∧
            OffLn α α4 ∧ Lay T H4 S4 α4 δ J G ∧ Step H2 (Foot S α J) H4 (Foot S4 α4 J) ∧ S4 = (names.take i).foldl (addS h.br h) { S with now := S.now + 1 } ∧ aget S4.brs h.br = some b4 ∧ S4.hns = S.hns ∧ S4.now = S.now + 1 ∧
            b4.lines.length ≤ 60 + i ∧ b4.marks.length ≤ 60 + i ∧ ∀ k l, aget b4.lines k = some l → l.length ≤ 1000000 + i)
          ⟨x, α, _, b, rfl, fun _ _ => rfl, L2, st2, rfl, hb, rfl, rfl, lines_le W hb, marks_le W hb, fun k l hk => W.lineLen hb hk⟩
          (fun i σ H4 _ ⟨_, _, _, _, _, _, _, st, _⟩ => SqL.of (st.keep p _ hpl (fun _ z => by cases z) npF).1) ?_ ?_⟩
        · rintro i y σ H4 hi ⟨x, α4, S4, b4, rfl, off, L4, st4, e4, hb4, eh4, en4, bl, bk, bll⟩
          have hil : i < names.length := by
            have := (List.getElem?_eq_some_iff.mp hi).1
            rwa [List.length_map] at this
          rw [List.getElem?_map] at hi
          have hk : names[i]? = some names[i] := List.getElem?_eq_getElem hil
          generalize names[i] = k at hk
          rw [hk] at hi
          obtain rfl : V.str k = y := Option.some.inj hi
          obtain ⟨v, hv⟩ := inN k (List.mem_of_getElem? hk)
          have hh4 : aget S4.hns n = some h := by rw [eh4]; exact hh
          have aB : α4 (.br h.br) = α (.br h.br) := off _ (fun _ _ z => by cases z)
          have aS : α4 .sh = α .sh := off _ (fun _ _ z => by cases z)
          have aN : α4 (.hn n) = α (.hn n) := off _ (fun _ _ z => by cases z)
          have hS : ∀ {H5 : Hp} {α5 : Rl → Addr} {S5 : Sh}, Lay T H5 S5 α5 δ J G → OffLn α α5 → H5 (α .sh) = some (.ins T.S (δ .sh) (fSh S5 α5)) := fun L5 o => by
            have := L5.sh; rw [o _ (fun _ _ z => by cases z)] at this; exact this
          have hN : ∀ {H5 : Hp} {α5 : Rl → Addr} {S5 : Sh}, Lay T H5 S5 α5 δ J G → OffLn α α5 → aget S5.hns n = some h → H5 (α (.hn n)) = some (.ins T.N (δ (.hn n)) (fHn n h α5)) := fun L5 o e => by
            have := L5.hn e; rw [o _ (fun _ _ z => by cases z)] at this; exact this
          have hB : ∀ {H5 : Hp} {α5 : Rl → Addr} {S5 : Sh} {b5 : Br}, Lay T H5 S5 α5 δ J G → OffLn α α5 → aget S5.brs h.br = some b5 → H5 (α (.br h.br)) = some (.ins T.B (δ (.br h.br)) (fBr h.br b5 α5)) := fun L5 o e => by
            have := L5.br e; rw [o _ (fun _ _ z => by cases z)] at this; exact this
          -- the draft becomes a version: Mid
          refine ⟨fun σ' H' => σ' = [some (.ref (α .sh)), some (.ref (α (.hn n))), some (.ref (α (.br h.br))), some (.ref p), some (.str k)] ∧ ∃ α5, OffLn α α5 ∧
            Lay T H' (S4.setBr h.br { b4 with lines := aput b4.lines k (b4.line k ++ [(S.now + 1, v)]) }) α5 δ J G ∧ Step H4 (Foot S4 α4 J) H' (Foot (S4.setBr h.br { b4 with lines := aput b4.lines k (b4.line k ++ [(S.now + 1, v)]) }) α5 J), ?_, ?_⟩
          · cases hkl : aget b4.lines k with
            | some l =>
              refine ⟨_, rfl, _, _, _, _, _, rfl, hB L4 off hb4, C.B, C.bLn, rfl, _, rfl, .inl ⟨_, L4.lnsR hb4⟩, _, rfl, by show 0 ≤ sizeLine; exact Nat.zero_le _, fun z hz => ?_⟩
              have s5 : Sm H4 (upd H4 z (.lst [])) := Sm.new hz
              generalize upd H4 z (.lst []) = H5 at s5
              have L5 := L4.sm s5
              refine ⟨_, Sum.inr k, L5.lns0 hb4 (Z _), rfl, by rw [enc_length]; exact small1000 (by omega), fun u hu' => ?_, fun hu' => by rw [valV_enc inr_inj, hkl] at hu'; cases hu'⟩
              rw [valV_enc inr_inj, hkl] at hu'
              obtain rfl : V.ref (α4 (.ln h.br k)) = u := Option.some.inj hu'
              obtain ⟨rs0, g0, _⟩ := L5.ln hb4 hkl
              refine ⟨.inl ⟨rfl, _, SqL.of g0⟩, _, rfl, _, _, _, _, _, rfl, hS L5 off, C.S, C.sNow, rfl, _, rfl, _, _, _, _, _, rfl, hN L5 off hh4, C.N, C.nDr, rfl, _, rfl, _, _, rfl, (by have := L5.gDr hh4 k; rw [hv] at this; exact this), by show 2 ≤ sizeLine; decide, fun t ht => ?_⟩
              have s6 : Sm H5 (upd H5 t (.tup [.int S4.now, optV v])) := Sm.new ht
              have ht6 : upd H5 t (.tup [.int S4.now, optV v]) t = some (.tup [.int S4.now, optV v]) := upd_same
              generalize upd H5 t (.tup [.int S4.now, optV v]) = H6 at s6 ht6
              have L6 := L5.sm s6
              obtain ⟨rs, g1, g2, L7, st7⟩ := L6.addCell hb4 hkl (c := (S4.now, v)) ht6
              refine ⟨_, _, _, rfl, rfl, g1, by rw [g2]; exact Nat.lt_of_le_of_lt (bll k l hkl) (by rw [sizeLine_eq]; omega), rfl, α4, off, ?_, ?_⟩
              · unfold Br.line; rw [hkl, ← en4]; exact L7
              · unfold Br.line; rw [hkl, ← en4]; exact Step.sm_then (s5.trans s6) st7
            | none =>
              refine ⟨_, rfl, _, _, _, _, _, rfl, hB L4 off hb4, C.B, C.bLn, rfl, _, rfl, .inl ⟨_, L4.lnsR hb4⟩, _, rfl, by show 0 ≤ sizeLine; exact Nat.zero_le _, fun z hz => ?_⟩
              have s5 : Sm H4 (upd H4 z (.lst [])) := Sm.new hz
              have L5 := L4.sm s5
              refine ⟨_, Sum.inr k, L5.lns0 hb4 (Z _), rfl, by rw [enc_length]; exact small1000 (by omega), fun u hu' => (by rw [valV_enc inr_inj, hkl] at hu'; cases hu'), fun _ => ?_⟩
              obtain ⟨L6, st6⟩ := L4.newLine hb4 (Z _) hkl hz (H1 := upd H4 z (.lst [])) (fun b' o e => by rw [upd_ne (ne_of_none e hz)]; exact e) upd_same
              generalize upd (upd H4 z (.lst [])) (α4 (.lns h.br)) (.dK (putK (enc .inr (fun k _ => .ref (α4 (.ln h.br k))) b4.lines) (.inr k) (.ref z))) = H6 at L6 st6
              have off6 : OffLn α (aLn α4 h.br k z) := fun r hr => by
                rw [← off r hr]
                cases r <;> first | rfl | exact absurd rfl (hr _ _)
              have hb6 : aget (S4.setBr h.br { b4 with lines := b4.lines ++ [(k, [])] }).brs h.br = some { b4 with lines := b4.lines ++ [(k, [])] } := by rw [setBr_get, if_pos rfl]
              have hk6 : aget (b4.lines ++ [(k, ([] : List Cel))]) k = some [] := by rw [← aput_new _ hkl]; exact aget_put_same _ _ _
              obtain ⟨rs0, g0, _⟩ := L6.ln hb6 hk6
              rw [show aLn α4 h.br k z (.ln h.br k) = z from if_pos ⟨rfl, rfl⟩] at g0
              refine ⟨.inl ⟨rfl, _, SqL.of g0⟩, _, rfl, _, _, _, _, _, rfl, hS L6 off6, C.S, C.sNow, rfl, _, rfl, _, _, _, _, _, rfl, hN L6 off6 hh4, C.N, C.nDr, rfl, _, rfl, _, _, rfl, (by have := L6.gDr (S := S4.setBr h.br { b4 with lines := b4.lines ++ [(k, [])] }) hh4 k; rw [hv] at this; exact this), by show 2 ≤ sizeLine; decide, fun t ht => ?_⟩
              have s7 : Sm H6 (upd H6 t (.tup [.int S4.now, optV v])) := Sm.new ht
              have ht7 : upd H6 t (.tup [.int S4.now, optV v]) t = some (.tup [.int S4.now, optV v]) := upd_same
              have e7 : upd H6 t (.tup [.int (S4.setBr h.br { b4 with lines := b4.lines ++ [(k, [])] }).now, optV v]) = upd H6 t (.tup [.int S4.now, optV v]) := rfl
              rw [e7]
              generalize upd H6 t (.tup [.int S4.now, optV v]) = H7 at s7 ht7
              have L7 := L6.sm s7
              obtain ⟨rs, g1, g2, L8, st8⟩ := L7.addCell hb6 hk6 (c := (S4.now, v)) ht7
              rw [show aLn α4 h.br k z (.ln h.br k) = z from if_pos ⟨rfl, rfl⟩] at g1
              have fin : (S4.setBr h.br { b4 with lines := b4.lines ++ [(k, [])] }).setBr h.br { b4 with lines := aput (b4.lines ++ [(k, [])]) k ([] ++ [(S4.now, v)]) } = S4.setBr h.br { b4 with lines := aput b4.lines k (b4.line k ++ [(S.now + 1, v)]) } := by
                rw [setBr_setBr, ← aput_new _ hkl, aput_aput, en4]
                unfold Br.line; rw [hkl]; rfl
              rw [show (S4.setBr h.br { b4 with lines := b4.lines ++ [(k, [])] }).setBr h.br { ({ b4 with lines := b4.lines ++ [(k, [])] } : Br) with lines := aput (b4.lines ++ [(k, [])]) k ([] ++ [(S4.now, v)]) } = _ from fin] at L8 st8
              rw [show aLn α4 h.br k z (.ln h.br k) = z from if_pos ⟨rfl, rfl⟩] at L8 st8
              exact ⟨_, _, _, rfl, rfl, g1, by rw [g2]; show 0 < sizeLine; decide, rfl, aLn α4 h.br k z, off6, L8, st6.trans (Step.sm_then s7 st8)⟩
          · rintro σ' H5 ⟨rfl, α5, off5, L5, st5⟩
            have hb5 : aget (S4.setBr h.br { b4 with lines := aput b4.lines k (b4.line k ++ [(S.now + 1, v)]) }).brs h.br = some { b4 with lines := aput b4.lines k (b4.line k ++ [(S.now + 1, v)]) } := by rw [setBr_get, if_pos rfl]
            refine ⟨_, rfl, _, _, _, _, _, rfl, hS L5 off5, C.S, C.sNow, rfl, _, rfl, _, _, _, _, _, rfl, hB L5 off5 hb5, C.B, C.bMk, rfl, _, rfl, _, _, rfl, DPut.k (k := Sum.inr k) (L5.mks hb5) (by rw [enc_length]; exact small1000 (by show b4.marks.length ≤ 1000; omega)), ?_⟩
            obtain ⟨L6, st6⟩ := L5.setMarks hb5 (aput b4.marks k (S.now + 1))
            rw [← putK_enc (g := fun _ m => V.int m) (g' := fun _ m => V.int m) inr_inj b4.marks k (S.now + 1) (.int S4.now) (by rw [en4]) (fun _ _ _ => rfl)] at L6 st6
            have fin : (S4.setBr h.br { b4 with lines := aput b4.lines k (b4.line k ++ [(S.now + 1, v)]) }).setBr h.br { b4 with lines := aput b4.lines k (b4.line k ++ [(S.now + 1, v)]), marks := aput b4.marks k (S.now + 1) } = addS h.br h S4 k := by
              rw [setBr_setBr]; unfold addS addC; rw [hb4, hv, en4]; rfl
            rw [show (S4.setBr h.br { b4 with lines := aput b4.lines k (b4.line k ++ [(S.now + 1, v)]) }).setBr h.br { ({ b4 with lines := aput b4.lines k (b4.line k ++ [(S.now + 1, v)]) } : Br) with marks := aput b4.marks k (S.now + 1) } = _ from fin] at L6 st6
            refine ⟨_, α5, addS h.br h S4 k, addC (S.now + 1) h b4 k, rfl, off5, L6, st4.trans (st5.trans st6), ?_, ?_, ?_, ?_, ?_, ?_, ?_⟩
            · rw [take_snoc hk, List.foldl_append, ← e4]; rfl
            · unfold addS; rw [hb4, en4]; show aget (aput S4.brs h.br _) h.br = _; rw [aget_put_same]
            · unfold addS; rw [hb4]; exact eh4
            · unfold addS; rw [hb4]; exact en4
            · have := aput_len b4.lines k (b4.line k ++ [(S.now + 1, (aget h.drafts k).getD none)])
              show (aput b4.lines k _).length ≤ _; omega
            · have := aput_len b4.marks k (S.now + 1)
              show (aput b4.marks k _).length ≤ _; omega
            · intro j l hj
              have hj : aget (aput b4.lines k _) j = some l := hj
              rw [aget_put] at hj
              by_cases z : j = k
              · rw [if_pos z] at hj
                cases hj
                rw [List.length_append]
                unfold Br.line
                cases hkl : aget b4.lines k with
                | none => show 0 + 1 ≤ _; omega
                | some l => have := bll k l hkl; show l.length + 1 ≤ _; omega
              · rw [if_neg z] at hj
                have := bll j l hj; omega
        · rintro σ H4 ⟨x, α4, S4, b4, rfl, off, L4, st4, e4, hb4, eh4, en4, bl, bk, bll⟩
          rw [List.length_map, List.take_length] at e4
          have e5 : S4 = S.settle h.br h := by rw [e4]; unfold Sh.settle; rw [hns]
          subst e5
          exact q3 hal hnc H4 α4 δ off Z L4 (Step.sm_then s1 st4)
end
end Vs
namespace Vs
open PySem L2
section
variable {P : Program} {w : World} {K : PySem.W.Frag} {mg : Str → Option Value} {base : Heap} {T : Cs} {U : Es} {Pt : Addr}
theorem settle_hns (q : Int) (h : Hn) : ∀ (l : List Str) (S : Sh), (l.foldl (addS q h) S).hns = S.hns ∧ (l.foldl (addS q h) S).now = S.now ∧ (l.foldl (addS q h) S).hm = S.hm ∧ (l.foldl (addS q h) S).bm = S.bm
  | [], S => ⟨rfl, rfl, rfl, rfl⟩
  | k :: l, S => by
    obtain ⟨h1, h2, h3, h4⟩ := settle_hns q h l (addS q h S k)
    have e : (addS q h S k).hns = S.hns ∧ (addS q h S k).now = S.now ∧ (addS q h S k).hm = S.hm ∧ (addS q h S k).bm = S.bm := by
      unfold addS
      cases aget S.brs q <;> exact ⟨rfl, rfl, rfl, rfl⟩
    exact ⟨h1.trans e.1, h2.trans e.2.1, h3.trans e.2.2.1, h4.trans e.2.2.2⟩
def spCommit (T : Cs) (U : Es) : Sp := fun vs H Q E => ∃ (Ks : List Str) (p : Addr) (S : Sh) (F : Addr → Prop) (n : Int), vs = [.ref p, .int n] ∧ LyAt T H p S F ∧ WF Ks S ∧ n.natAbs < 10 ^ 20 ∧
  (aget S.hns n = none → E (.ref U.noHand) none H) ∧
  ∀ h, aget S.hns n = some h → (h.drafts = [] → ∀ H' F', ShAt T H' p (S.delHand n) F' → Step H F H' F' → Q (.int S.now) H') ∧
    (h.drafts ≠ [] → ∀ b, aget S.brs h.br = some b → (b.alive = false → E (.ref U.dropped) none H) ∧
      (b.alive = true → ∀ k, clashM b h = some k → ∀ d H', Sm H H' → H' d = some (.xd [("key", .str k)]) → E (.ref U.clash) (some d) H') ∧
      (b.alive = true → clashM b h = none → ∀ H' F', ShAt T H' p ((S.settle h.br h).delHand n) F' → Step H F H' F' → Q (.int (S.now + 1)) H'))
theorem sc_commit : FnScope ["self", "hand", "held"] ["self", "hand"] (defScope s_Shelf_commit) := ⟨rfl, rfl, rfl, by decide +kernel, rfl, by decide +kernel, by decide +kernel⟩
theorem ok_commit {f : Addr} {fd : FuncData} (F : Fun K "commit" "Shelf.commit" s_Shelf_commit f fd) (C : Cf K T) (c1 : Mx P w K mg base (L2.CX P w) T.S "hand_there" 1 ["self", "hand"] (spHandThere T U))
    (c2 : Mx P w K mg base (L2.CX P w) T.S "settle" 3 ["self", "held"] (spSettle T U)) (c3 : Mx P w K mg base CX0 T.S "let_go" 1 ["self", "hand"] (spLetGo T)) :
    FnOk P w K mg base (L2.CX P w) 4 f fd ["self", "hand"] (spCommit T U) := by
  obtain ⟨f1, fd1, m1, b1, G1⟩ := c1
  obtain ⟨f2, fd2, m2, b2, G2⟩ := c2
  obtain ⟨f3, fd3, m3, b3, G3⟩ := c3
  refine F.okX sc_commit (fun vs H Q E h => ?_) (fun cdv A outer s H vs Q E hr h => ?_)
  · obtain ⟨Ks, p, S, F, n, rfl, _⟩ := h
    rfl
  · obtain ⟨Ks, p, S, F, n, rfl, ⟨α, δ, J, G, rfl, rfl, L, Z⟩, W, hn, q0, q1⟩ := h
    refine ⟨_, pss_cons (ps_set (i := 2) sc_commit.nd rfl (.inl rfl) (pe_meth (pv 0) C.S m1 G1 (hr.mono (by decide)) b1 .nil (passes_call (takes_of rfl rfl rfl rfl) (fun _ _ _ _ h => h)) (pa_cons (pv 1) pa_nil)))
      (pss_cons (ps_if (pt_truth (pe_fld (pv 2) rfl) (by intro _; rfl)) (pss_one (ps_expr (pe_meth (pv 0) C.S m2 G2 hr b2 .nil (passes_call (takes_of rfl rfl rfl rfl) (fun _ _ _ _ h => h)) (pa_cons (pv 2) pa_nil)))) pss_nil)
      (pss_cons (ps_expr (pe_meth (pv 0) C.S m3 G3 (hr.mono (by decide)) b3 .nil pass0 (pa_cons (pv 1) pa_nil)))
      (pss_one (ps_ret (pe_fld (pv 0) rfl))))), ?_⟩
    refine ⟨_, rfl, _, _, _, rfl, L.sh, fSh_no, _, rfl, S, α, δ, J, G, n, rfl, L, hn, fun h hh => ?_, q0⟩
    obtain ⟨qa, qb⟩ := q1 h hh
    refine ⟨_, rfl, _, _, _, _, _, rfl, L.hn hh, C.N, C.nDr, rfl, _, .inr (.inr ⟨_, L.dr hh, rfl⟩), ?_⟩
    cases hd : h.drafts with
    | nil =>
      refine ifF rfl ⟨_, rfl, _, _, _, rfl, L.sh, fSh_no, _, rfl, α .sh, S, _, n, h, rfl, ⟨α, δ, J, G, rfl, rfl, L, Z⟩, hh, fun H' F' h1 h2 => ?_⟩
      obtain ⟨α', δ', J', G', e1, e2, L', R'⟩ := id h1
      exact ⟨_, rfl, _, _, _, _, _, rfl, e1 ▸ L'.sh, C.S, C.sNow, rfl, qa hd H' F' h1 h2⟩
    | cons d ds =>
      obtain ⟨b, hb⟩ := (W.hn n h hh).2.2.1
      obtain ⟨qd, qc, qo⟩ := qb (by rw [hd]; intro z; cases z) b hb
      refine ifT rfl ⟨_, rfl, _, _, _, rfl, L.sh, fSh_no, _, rfl, Ks, S, α, δ, J, G, n, h, b, rfl, L, Z, W, hh, hb, qd, qc, fun hal hcl H1 α1 δ1 off Z1 L1 st1 => ?_⟩
      have aS : α1 .sh = α .sh := off _ (fun _ _ z => by cases z)
      have hs := settle_hns h.br h (sortK (h.drafts.map (·.1))) { S with now := S.now + 1 }
      have hh1 : aget (S.settle h.br h).hns n = some h := by unfold Sh.settle; rw [hs.1]; exact hh
      refine ⟨_, rfl, _, _, _, rfl, aS ▸ L1.sh, fSh_no, _, rfl, α .sh, _, _, n, h, rfl, ⟨α1, δ1, J, G, aS, rfl, L1, Z1⟩, hh1, fun H' F' h1 h2 => ?_⟩
      obtain ⟨α', δ', J', G', e1, e2, L', R'⟩ := id h1
      refine ⟨_, rfl, _, _, _, _, _, rfl, e1 ▸ L'.sh, C.S, C.sNow, rfl, ?_⟩
      have en : ((S.settle h.br h).delHand n).now = S.now + 1 := hs.2.1
      rw [en]
      exact qo hal hcl H' F' h1 (st1.trans h2)
end
end Vs
namespace Vs
open PySem L2
section
variable {P : Program} {w : World} {K : PySem.W.Frag} {mg : Str → Option Value} {base : Heap} {T : Cs} {U : Es} {Pt : Addr}
/-! ### Branch(beneath, moment) -/
def spBranchInit (T : Cs) : Sp := fun vs H Q _ => ∃ (x dx : Addr) (be : Option Int) (mom : Int), vs = [.ref x, optV be, .int mom] ∧ H x = some (.ins T.B dx []) ∧
  ∀ l m H', H l = none → H m = none → l ≠ m → (∀ b o, H b = some o → b ≠ x → H' b = some o) →
    H' x = some (.ins T.B dx [("beneath", optV be), ("moment", .int mom), ("alive", .bl true), ("lines", .ref l), ("marks", .ref m)]) → H' l = some (.dK []) → H' m = some (.dK []) → Q .non H'
theorem sc_Branch_init : FnScope ["self", "beneath", "moment"] ["self", "beneath", "moment"] (defScope s_Branch___init__) := ⟨rfl, rfl, rfl, by decide +kernel, rfl, by decide +kernel, by decide +kernel⟩
theorem ok_Branch_init {f : Addr} {fd : FuncData} (F : Fun K "__init__" "Branch.__init__" s_Branch___init__ f fd) (C : Cf K T) : FnOk P w K mg base CX0 1 f fd ["self", "beneath", "moment"] (spBranchInit T) := by
  refine F.ok sc_Branch_init (fun vs H Q E h => ?_) (fun cdv A outer s H vs Q E hr h => ?_)
  · obtain ⟨x, dx, be, mom, rfl, _⟩ := h
    rfl
  · obtain ⟨x, dx, be, mom, rfl, hx, kq⟩ := h
    refine ⟨_, pss_cons (ps_fld (pv 0) (pv 1) rfl) (pss_cons (ps_fld (pv 0) (pv 2) rfl) (pss_cons (ps_fld (pv 0) pe_bl rfl) (pss_cons (ps_fld (pv 0) pe_dnewK rfl) (pss_one (ps_fld (pv 0) pe_dnewK rfl))))), ?_⟩
    refine ⟨_, rfl, _, rfl, x, T.B, dx, _, rfl, hx, C.B, C.bBen, by show 0 < 1000; decide, ?_⟩
    refine ⟨_, rfl, _, rfl, x, T.B, dx, _, rfl, upd_same, C.B, C.bMom, by show 1 < 1000; decide, ?_⟩
    refine ⟨_, rfl, x, T.B, dx, _, rfl, upd_same, C.B, C.bAl, by show 2 < 1000; decide, ?_⟩
    rw [upd_upd, upd_upd]
    intro l hl
    have nlx : l ≠ x := fun e => by rw [e, upd_same] at hl; cases hl
    have hl0 : H l = none := by rw [upd_ne nlx] at hl; exact hl
    refine ⟨_, rfl, x, T.B, dx, _, rfl, by rw [upd_ne (Ne.symm nlx)]; exact upd_same, C.B, C.bLn, by show 3 < 1000; decide, ?_⟩
    intro m hm
    have nmx : m ≠ x := fun e => by rw [e, upd_same] at hm; cases hm
    have nml : m ≠ l := fun e => by rw [e, upd_ne nlx, upd_same] at hm; cases hm
    have hm0 : H m = none := by rw [upd_ne nmx, upd_ne nml, upd_ne nmx] at hm; exact hm
    refine ⟨_, rfl, x, T.B, dx, _, rfl, by rw [upd_ne (Ne.symm nmx)]; exact upd_same, C.B, C.bMk, by show 4 < 1000; decide, ?_⟩
    refine kq l m _ hl0 hm0 (Ne.symm nml) (fun b o e nb => ?_) upd_same ?_ ?_
    · rw [upd_ne nb, upd_ne (ne_of_none e hm0), upd_ne nb, upd_ne (ne_of_none e hl0), upd_ne nb]; exact e
    · rw [upd_ne nlx, upd_ne (Ne.symm nml), upd_ne nlx, upd_same]
    · rw [upd_ne nmx, upd_same]
/-! ### Shelf() -/
def S0 : Sh := ⟨0, [(0, ⟨none, 0, true, [], []⟩)], 1, [], 0⟩
def a0 (x d e j b l m : Addr) : Rl → Addr
  | .sh => x
  | .brs => d
  | .hns => e
  | .jd => j
  | .br _ => b
  | .lns _ => l
  | .mks _ => m
  | _ => x
theorem live0 {r : Rl} (h : Live S0 [] r) : r = .sh ∨ r = .brs ∨ r = .hns ∨ r = .jd ∨ r = .br 0 ∨ r = .lns 0 ∨ r = .mks 0 := by
  have z : ∀ n b, aget S0.brs n = some b → n = 0 := fun n b e => by
    have e : aget [((0 : Int), (⟨none, 0, true, [], []⟩ : Br))] n = some b := e
    rw [aget_cons] at e
    by_cases q : (0 : Int) = n
    · exact q.symm
    · rw [if_neg q] at e; cases e
  cases r with
  | sh => exact .inl rfl
  | brs => exact .inr (.inl rfl)
  | hns => exact .inr (.inr (.inl rfl))
  | jd => exact .inr (.inr (.inr (.inl rfl)))
  | br n => obtain ⟨b, e⟩ := h; rw [z n b e]; simp
  | lns n => obtain ⟨b, e⟩ := h; rw [z n b e]; simp
  | mks n => obtain ⟨b, e⟩ := h; rw [z n b e]; simp
  | ln n k =>
    obtain ⟨b, l, e, el⟩ := h
    have := z n b e
    subst this
    have e : aget [((0 : Int), (⟨none, 0, true, [], []⟩ : Br))] 0 = some b := e
    rw [aget_cons, if_pos rfl] at e
    cases e; cases el
  | hn n => obtain ⟨h, e⟩ := h; cases e
  | dr n => obtain ⟨h, e⟩ := h; cases e
  | jg k => cases h
  | ow k => cases h
  | rs k => cases h
theorem lay0 {T : Cs} {H : Hp} {x dx db d e j b l m : Addr} (n1 : x ≠ d) (n2 : x ≠ e) (n3 : x ≠ j) (n4 : x ≠ b) (n5 : x ≠ l) (n6 : x ≠ m) (n7 : d ≠ e) (n8 : d ≠ j) (n9 : d ≠ b) (n10 : d ≠ l) (n11 : d ≠ m)
    (n12 : e ≠ j) (n13 : e ≠ b) (n14 : e ≠ l) (n15 : e ≠ m) (n16 : j ≠ b) (n17 : j ≠ l) (n18 : j ≠ m) (n19 : b ≠ l) (n20 : b ≠ m) (n21 : l ≠ m)
    (h1 : H x = some (.ins T.S dx (fSh S0 (a0 x d e j b l m)))) (h2 : H d = some (.dK [(.inl 0, .ref b)])) (h3 : H e = some (.dK [])) (h4 : H j = some (.dK []))
    (h5 : H b = some (.ins T.B db [("beneath", .non), ("moment", .int 0), ("alive", .bl true), ("lines", .ref l), ("marks", .ref m)])) (h6 : H l = some (.dK [])) (h7 : H m = some (.dK [])) :
    Lay T H S0 (a0 x d e j b l m) ⟨fun r => if r = .sh then dx else db, fun _ => none⟩ [] (fun _ => ([], [])) := by
  have hb : aget S0.brs 0 = some ⟨none, 0, true, [], []⟩ := rfl
  refine ⟨fun r hr => ?_, fun r r' hr hr' q => ?_⟩
  · rcases live0 hr with z | z | z | z | z | z | z <;> subst z
    · exact ⟨_, h1, by show _ = HO.ins _ (if Rl.sh = Rl.sh then dx else db) _; rw [if_pos rfl]⟩
    · exact ⟨_, h2, rfl⟩
    · exact ⟨_, h3, rfl⟩
    · exact ⟨_, h4, rfl⟩
    · exact ⟨_, h5, ⟨_, hb, by show _ = HO.ins _ (if Rl.br 0 = Rl.sh then dx else db) _; rw [if_neg (by intro z; cases z)]; rfl⟩⟩
    · exact ⟨_, h6, ⟨_, hb, rfl⟩⟩
    · exact ⟨_, h7, ⟨_, hb, rfl⟩⟩
  · rcases live0 hr with z | z | z | z | z | z | z <;> subst z <;> rcases live0 hr' with y | y | y | y | y | y | y <;> subst y <;>
      first | rfl | exact absurd q (by assumption) | exact absurd q.symm (by assumption)
def spShelfInit (T : Cs) : Sp := fun vs H Q _ => ∃ (x dx : Addr), vs = [.ref x] ∧ H x = some (.ins T.S dx []) ∧
  ∀ H' F', ShAt T H' x S0 F' → (∀ b o, H b = some o → b ≠ x → H' b = some o ∧ ¬ F' b) → Q .non H'
theorem sc_Shelf_init : FnScope ["self"] ["self"] (defScope s_Shelf___init__) := ⟨rfl, rfl, rfl, by decide +kernel, rfl, by decide +kernel, by decide +kernel⟩
theorem ok_Shelf_init {f : Addr} {fd : FuncData} (F : Fun K "__init__" "Shelf.__init__" s_Shelf___init__ f fd) (C : Cf K T) (c1 : Kx P w K mg base "Branch" T.B 1 ["self", "beneath", "moment"] (spBranchInit T)) :
    FnOk P w K mg base CX0 3 f fd ["self"] (spShelfInit T) := by
  obtain ⟨f1, fd1, g1, m1, b1, G1⟩ := c1
  refine F.ok sc_Shelf_init (fun vs H Q E h => ?_) (fun cdv A outer s H vs Q E hr h => ?_)
  · obtain ⟨x, dx, rfl, _⟩ := h
    rfl
  · obtain ⟨x, dx, rfl, hx, kq⟩ := h
    refine ⟨_, pss_cons (ps_fld (pv 0) pe_int rfl)
      (pss_cons (ps_fld (pv 0) (pe_disp (pps_cons pe_int (pe_make m1 G1 hr rfl g1 b1 .nil pass0 (pa_cons pe_non (pa_cons pe_int pa_nil))) pps_nil) (by rfl) (by rfl) (fun z => by cases z) (by decide)) rfl)
      (pss_cons (ps_fld (pv 0) pe_int rfl) (pss_cons (ps_fld (pv 0) pe_dnewK rfl) (pss_cons (ps_fld (pv 0) pe_int rfl) (pss_one (ps_fld (pv 0) pe_dnewK rfl)))))), ?_⟩
    refine ⟨_, rfl, x, T.S, dx, _, rfl, hx, C.S, C.sNow, by show 0 < 1000; decide, ?_⟩
    intro d hd
    have ndx : d ≠ x := fun e => by rw [e, upd_same] at hd; cases hd
    have hd0 : H d = none := by rw [upd_ne ndx] at hd; exact hd
    intro b db hb hdb ndb
    have hxx : upd (upd H x (.ins T.S dx (putF "now" (.int 0) []))) d (.dK []) x = some (.ins T.S dx [("now", .int 0)]) := by rw [upd_ne (Ne.symm ndx)]; exact upd_same
    have nbx : b ≠ x := fun e => by rw [e, hxx] at hb; cases hb
    have ndbx : db ≠ x := fun e => by rw [e, hxx] at hdb; cases hdb
    have nbd : b ≠ d := fun e => by rw [e, upd_same] at hb; cases hb
    have ndbd : db ≠ d := fun e => by rw [e, upd_same] at hdb; cases hdb
    have hb0 : H b = none := by rw [upd_ne nbd, upd_ne nbx] at hb; exact hb
    have hdb0 : H db = none := by rw [upd_ne ndbd, upd_ne ndbx] at hdb; exact hdb
    refine ⟨b, db, none, 0, rfl, upd_same, fun l m H3 hl hm nlm k3 e1 e2 e3 => ⟨rfl, ?_⟩⟩
    have old3 : ∀ a o, H a = some o → a ≠ x → H3 a = some o := fun a o q nx => by
      have n1 := ne_of_none q hb0
      refine k3 a o ?_ n1
      rw [upd_ne n1, upd_ne (ne_of_none q hdb0), upd_ne (ne_of_none q hd0), upd_ne nx]; exact q
    have x3 : H3 x = some (.ins T.S dx [("now", .int 0)]) := k3 x _ (by rw [upd_ne (Ne.symm nbx), upd_ne (Ne.symm ndbx)]; exact hxx) (Ne.symm nbx)
    have d3 : H3 d = some (.dK []) := k3 d _ (by rw [upd_ne (Ne.symm nbd), upd_ne (Ne.symm ndbd)]; exact upd_same) (Ne.symm nbd)
    have free : ∀ a, (upd (upd (upd (upd H x (.ins T.S dx (putF "now" (.int 0) []))) d (.dK [])) db (.own b)) b (.ins T.B db [])) a = none → a ≠ x ∧ a ≠ d ∧ a ≠ b ∧ a ≠ db ∧ H a = none := fun a q => by
      have n1 : a ≠ b := fun e => by rw [e, upd_same] at q; cases q
      rw [upd_ne n1] at q
      have n2 : a ≠ db := fun e => by rw [e, upd_same] at q; cases q
      rw [upd_ne n2] at q
      have n3 : a ≠ d := fun e => by rw [e, upd_same] at q; cases q
      rw [upd_ne n3] at q
      have n4 : a ≠ x := fun e => by rw [e, upd_same] at q; cases q
      rw [upd_ne n4] at q
      exact ⟨n4, n3, n1, n2, q⟩
    obtain ⟨nlx, nld, nlb, _, hl0⟩ := free l hl
    obtain ⟨nmx, nmd, nmb, _, hm0⟩ := free m hm
    refine ⟨d3, [(.inl 0, .ref b)], rfl, by show 1 ≤ 15; decide, ?_⟩
    refine ⟨_, rfl, x, T.S, dx, _, rfl, by rw [upd_ne (Ne.symm ndx)]; exact x3, C.S, C.sBrs, by show 1 < 1000; decide, ?_⟩
    refine ⟨_, rfl, x, T.S, dx, _, rfl, upd_same, C.S, C.sBm, by show 2 < 1000; decide, ?_⟩
    rw [upd_upd]
    intro e he
    have nex : e ≠ x := fun z => by rw [z, upd_same] at he; cases he
    rw [upd_ne nex] at he
    have ned : e ≠ d := fun z => by rw [z, upd_same] at he; cases he
    rw [upd_ne ned] at he
    have neb : e ≠ b := fun z => by rw [z, e1] at he; cases he
    have nel : e ≠ l := fun z => by rw [z, e2] at he; cases he
    have nem : e ≠ m := fun z => by rw [z, e3] at he; cases he
    refine ⟨_, rfl, x, T.S, dx, _, rfl, by rw [upd_ne (Ne.symm nex)]; exact upd_same, C.S, C.sHns, by show 3 < 1000; decide, ?_⟩
    refine ⟨_, rfl, x, T.S, dx, _, rfl, upd_same, C.S, C.sHm, by show 4 < 1000; decide, ?_⟩
    rw [upd_upd]
    intro j hj
    have njx : j ≠ x := fun z => by rw [z, upd_same] at hj; cases hj
    rw [upd_ne njx] at hj
    have nje : j ≠ e := fun z => by rw [z, upd_same] at hj; cases hj
    rw [upd_ne nje, upd_ne njx] at hj
    have njd : j ≠ d := fun z => by rw [z, upd_same] at hj; cases hj
    rw [upd_ne njd] at hj
    have njb : j ≠ b := fun z => by rw [z, e1] at hj; cases hj
    have njl : j ≠ l := fun z => by rw [z, e2] at hj; cases hj
    have njm : j ≠ m := fun z => by rw [z, e3] at hj; cases hj
    refine ⟨_, rfl, x, T.S, dx, _, rfl, by rw [upd_ne (Ne.symm njx)]; exact upd_same, C.S, C.sJd, by show 5 < 1000; decide, ?_⟩
    have at3 : ∀ {a : Addr} {o : HO} {o1 o2 o3 o4 o5 : HO}, a ≠ x → a ≠ e → a ≠ j → a ≠ d → H3 a = some o → (upd (upd (upd (upd (upd (upd H3 d o1) x o2) e o3) x o4) j (.dK [])) x o5) a = some o := fun {a o o1 o2 o3 o4 o5} n1 n2 n3 n4 q => by
      rw [upd_ne n1, upd_ne n3, upd_ne n1, upd_ne n2, upd_ne n1, upd_ne n4]; exact q
    refine kq _ _ ⟨a0 x d e j b l m, ⟨fun r => if r = .sh then dx else db, fun _ => none⟩, [], _, rfl, rfl, lay0 (T := T) (dx := dx) (db := db) (Ne.symm ndx) (Ne.symm nex) (Ne.symm njx) (Ne.symm nbx) (Ne.symm nlx) (Ne.symm nmx) (Ne.symm ned) (Ne.symm njd) (Ne.symm nbd) (Ne.symm nld) (Ne.symm nmd)
      (Ne.symm nje) neb nel nem njb njl njm (Ne.symm nlb) (Ne.symm nmb) nlm upd_same ?_ ?_ ?_ ?_ ?_ ?_, RightJ.nil, fun _ => rfl⟩ (fun a o q nx => ?_)
    · rw [upd_ne ndx, upd_ne (Ne.symm njd), upd_ne ndx, upd_ne (Ne.symm ned), upd_ne ndx]; exact upd_same
    · rw [upd_ne nex, upd_ne (Ne.symm nje), upd_ne nex]; exact upd_same
    · rw [upd_ne njx]; exact upd_same
    · exact at3 nbx (Ne.symm neb) (Ne.symm njb) nbd e1
    · exact at3 nlx (Ne.symm nel) (Ne.symm njl) nld e2
    · exact at3 nmx (Ne.symm nem) (Ne.symm njm) nmd e3
    · have q3 := old3 a o q nx
      have nad : a ≠ d := ne_of_none q hd0
      have nae : a ≠ e := fun z => by rw [z, he] at q3; cases q3
      have naj : a ≠ j := fun z => by rw [z, hj] at q3; cases q3
      refine ⟨at3 nx nae naj nad q3, fun ⟨r, hr, er⟩ => ?_⟩
      rcases live0 hr with z | z | z | z | z | z | z <;> subst z
      · exact nx er.symm
      · exact nad er.symm
      · exact nae er.symm
      · exact naj er.symm
      · exact ne_of_none q hb0 er.symm
      · exact ne_of_none q hl0 er.symm
      · exact ne_of_none q hm0 er.symm
end
end Vs
namespace Vs
open PySem L2
section
variable {P : Program} {w : World} {K : PySem.W.Frag} {mg : Str → Option Value} {base : Heap} {T : Cs} {U : Es} {Pt : Addr}
def VerO (H : Hp) (v : V) : Option Ver → Prop
  | none => v = .non
  | some x => ∃ t, v = .ref t ∧ H t = some (.tup [.int x.1, .int x.2.1, optV x.2.2])
def OwnO (H : Hp) (v : V) : Option Own → Prop
  | none => v = .non
  | some o => OwnAt H v o
def RsnO (H : Hp) (v : V) : Option Rsn → Prop
  | none => v = .non
  | some r => RsnAt H v r
theorem VerO.tups {H H' : Hp} (t : Tups H H') {v : V} : ∀ {x : Option Ver}, VerO H v x → VerO H' v x
  | none, h => h
  | some _, ⟨a, e, q⟩ => ⟨a, e, t _ _ q⟩
theorem OwnO.tups {H H' : Hp} (t : Tups H H') {v : V} : ∀ {x : Option Own}, OwnO H v x → OwnO H' v x
  | none, h => h
  | some _, h => OwnAt.tups t h
theorem optV_non {x : Option Int} : (optV x = .non) ↔ x = none := by cases x <;> simp [optV]
/-! ### reason_to_stay -/
def spReason : Sp := fun vs H Q _ => ∃ (k : Str) (v : Option Int) (uo ub : V) (o : Option Own) (b : Option Ver), vs = [.str k, optV v, uo, ub] ∧ OwnO H uo o ∧ VerO H ub b ∧
  ∀ H' u, Sm H H' → RsnO H' u (reasonM k v o b) → Q u H'
theorem sc_reason_to_stay : FnScope ["key", "value", "owner", "beneath"] ["key", "value", "owner", "beneath"] (defScope s_reason_to_stay) := ⟨rfl, rfl, rfl, by decide +kernel, rfl, by decide +kernel, by decide +kernel⟩
theorem ok_reason_to_stay {f : Addr} {fd : FuncData} (F : Fun K "reason_to_stay" "reason_to_stay" s_reason_to_stay f fd) : FnOk P w K mg base CX0 1 f fd ["key", "value", "owner", "beneath"] spReason := by
  refine F.ok sc_reason_to_stay (fun vs H Q E h => ?_) (fun cdv A outer s H vs Q E hr h => ?_)
  · obtain ⟨k, v, uo, ub, o, b, rfl, _⟩ := h
    rfl
  · obtain ⟨k, v, uo, ub, o, b, rfl, ho, hb, kq⟩ := h
    refine ⟨_, pss_cons (ps_if (pt_cmpR op_isN (pv 2) pe_non (nomark _)) (pss_one (ps_ret pe_non)) pss_nil)
      (pss_cons (ps_if (pt_cmpR op_notN (pv 1) pe_non (nomark _)) (pss_one (ps_ret (pe_tup (pa_cons (pv 2) pa_nil)))) pss_nil)
      (pss_cons (ps_if (PW.pt (pw_or (pt_cmpR op_isN (pv 3) pe_non (nomark _)) (pw_or1 (pt_cmpR op_isN (pe_ix ix_tup (pv 3) pe_int (fun _ _ => rfl)) pe_non (nomark _))))) (pss_one (ps_ret pe_non)) pss_nil)
      (pss_one (ps_ret (pe_tup (pa_cons (pv 2) (pa_cons (pe_tup (pa_cons (pe_ix ix_tup (pv 3) pe_int (fun _ _ => rfl)) (pa_cons (pv 0) (pa_cons (pe_ix ix_tup (pv 3) pe_int (fun _ _ => rfl)) pa_nil)))) pa_nil))))))), ?_⟩
    cases o with
    | none =>
      have ho : uo = .non := ho
      subst ho
      exact ⟨_, rfl, rfl, _, rfl, ifT rfl (kq H .non (Sm.refl H) rfl)⟩
    | some o =>
      obtain ⟨t, rfl, ht⟩ := id ho
      refine ⟨_, rfl, rfl, _, rfl, ifF rfl ?_⟩
      cases v with
      | some x =>
        refine ⟨_, rfl, rfl, _, rfl, ifT rfl ⟨_, rfl, by show 1 ≤ sizeLine; decide, fun q hq => ?_⟩⟩
        exact kq _ _ (Sm.new hq) ⟨q, rfl, .ref t, upd_same, t, rfl, by rw [upd_ne (ne_of_none ht hq)]; exact ht⟩
      | none =>
        refine ⟨_, rfl, rfl, _, rfl, ifF rfl ?_⟩
        cases b with
        | none =>
          have hb : ub = .non := hb
          subst hb
          exact ⟨_, rfl, rfl, _, rfl, ifT rfl (ifT rfl (kq H .non (Sm.refl H) rfl))⟩
        | some x =>
          obtain ⟨s2, rfl, hs2⟩ := id hb
          obtain ⟨n, m, y⟩ := x
          refine ⟨_, rfl, rfl, _, rfl, ifF rfl ⟨_, rfl, s2, _, _, _, rfl, rfl, SqT.of hs2, rfl, rfl, _, rfl, ?_⟩⟩
          cases y with
          | none => exact ifT rfl (kq H .non (Sm.refl H) rfl)
          | some y =>
            refine ifF rfl ⟨_, rfl, _, rfl, s2, _, _, _, rfl, rfl, SqT.of hs2, rfl, _, rfl, _, rfl, s2, _, _, _, rfl, rfl, SqT.of hs2, rfl, by show 3 ≤ sizeLine; decide, fun q hq => ⟨by show 2 ≤ sizeLine; decide, fun r hr => ?_⟩⟩
            have s1 : Sm H (upd H q (.tup [.int n, .str k, .int m])) := Sm.new hq
            have nqr : q ≠ r := fun e => by rw [← e, upd_same] at hr; cases hr
            refine kq _ _ (s1.trans (Sm.new hr)) ⟨r, rfl, .ref t, q, upd_same, ⟨t, rfl, ?_⟩, ?_⟩
            · have e1 : upd H q (.tup [.int n, .str k, .int m]) t = some (.tup [.str o.1, .int o.2]) := by rw [upd_ne (ne_of_none ht hq)]; exact ht
              rw [upd_ne (ne_of_none e1 hr)]; exact e1
            · rw [upd_ne nqr]; exact upd_same
/-! ### reached, reached_beneath -/
/-- in the dicts at ll and bl stand for branch n its line and what is reached beneath -/
def LnB (H : Hp) (ll bl : Addr) (n : Int) (l : List Cel) (b : Option Ver) : Prop := ∃ kl kb a rs vb, H ll = some (.dK kl) ∧ H bl = some (.dK kb) ∧ valV kl (.inl n) = some (.ref a) ∧ H a = some (.lst rs) ∧ Cels H rs l ∧ valV kb (.inl n) = some vb ∧ VerO H vb b
def reachedM (n m : Int) (l : List Cel) (b : Option Ver) : Option Ver := match newC l m with
  | some c => some (n, c.1, c.2)
  | none => b
def spReached : Sp := fun vs H Q _ => ∃ (ll bl : Addr) (n m : Int) (l : List Cel) (b : Option Ver), vs = [.ref ll, .ref bl, .int n, .int m] ∧ LnB H ll bl n l b ∧ Rise l ∧
  ∀ H' u, Sm H H' → VerO H' u (reachedM n m l b) → Q u H'
theorem sc_reached : FnScope ["lines", "below", "number", "moment", "line", "place", "born", "value"] ["lines", "below", "number", "moment"] (defScope s_reached) := ⟨rfl, rfl, rfl, by decide +kernel, rfl, by decide +kernel, by decide +kernel⟩
theorem ok_reached {f : Addr} {fd : FuncData} (F : Fun K "reached" "reached" s_reached f fd) (c1 : Fx P w K mg base CX0 "newest" 1 ["line", "moment"] (spNewest K)) : FnOk P w K mg base CX0 2 f fd ["lines", "below", "number", "moment"] spReached := by
  obtain ⟨f1, fd1, g1, k1, b1, G1⟩ := c1
  refine F.ok sc_reached (fun vs H Q E h => ?_) (fun cdv A outer s H vs Q E hr h => ?_)
  · obtain ⟨ll, bl, n, m, l, b, rfl, _⟩ := h
    rfl
  · obtain ⟨ll, bl, n, m, l, b, rfl, ⟨kl, kb, a, rs, vb, h1, h2, h3, h4, h5, h6, h7⟩, hR, kq⟩ := h
    have hu := hu_of hr
    refine ⟨_, pss_cons (ps_set (i := 4) sc_reached.nd rfl (.inl rfl) (pe_dget hu (pv 0) (pv 2) (fun _ _ => rfl)))
      (pss_cons (ps_set (i := 5) sc_reached.nd rfl (.inl rfl) (pe_call G1 hr rfl g1 k1 b1 .nil pass0 (pa_cons (pv 4) (pa_cons (pv 3) pa_nil))))
      (pss_cons (ps_if (pt_cmpR op_lt (pv 5) pe_int (nomark _)) (pss_one (ps_ret (pe_dget hu (pv 1) (pv 2) (fun _ _ => rfl)))) pss_nil)
      (pss_cons (ps_asg (pe_ix ix_list (pv 4) (pv 5) (fun _ _ => rfl)) (pg_tup rfl (pgs_cons (pg_name (i := 6) sc_reached.nd rfl (.inl rfl)) (pgs_cons (pg_name (i := 7) sc_reached.nd rfl (.inl rfl)) pgs_nil))))
      (pss_one (ps_ret (pe_tup (pa_cons (pv 2) (pa_cons (pv 6) (pa_cons (pv 7) pa_nil))))))))), ?_⟩
    refine ⟨_, rfl, _, rfl, ll, _, rfl, (by have := DGet.k (k := Sum.inl n) h1; rw [h3] at this; exact this), ?_⟩
    refine ⟨_, rfl, _, rfl, a, m, rs, l, rfl, SqL.of h4, h5, hR, ?_⟩
    unfold reachedM at kq
    cases hc : cnt l m with
    | zero =>
      rw [newC_none.mpr hc] at kq
      refine ⟨_, rfl, _, _, rfl, rfl, _, rfl, ifT rfl ⟨_, rfl, _, rfl, bl, _, rfl, (by have := DGet.k (k := Sum.inl n) h2; rw [h6] at this; exact this), kq H vb (Sm.refl H) h7⟩⟩
    | succ j =>
      obtain ⟨c, c1, c2, c3⟩ := newC_at hR hc
      rw [c2] at kq
      obtain ⟨t, t1, t2⟩ := h5.get c1
      refine ⟨_, rfl, _, _, rfl, rfl, _, rfl, ifF (decide_eq_false (by omega)) ?_⟩
      refine ⟨_, rfl, _, rfl, a, _, _, _, rfl, rfl, SqL.of h4, (by rw [show (((j + 1 : Nat) : Int) - 1) = (j : Int) by omega]; exact atI_nat t1), t, _, rfl, SqT.of t2, rfl, _, _, rfl, _, _, rfl, rfl, ?_⟩
      refine ⟨_, rfl, _, rfl, _, rfl, by show 3 ≤ sizeLine; decide, fun q hq => kq _ _ (Sm.new hq) ⟨q, rfl, upd_same⟩⟩
def spReachedB (T : Cs) : Sp := fun vs H Q _ => ∃ (S : Sh) (α : Rl → Addr) (δ : Dl) (J : List Str) (G : Jud) (ll bl : Addr) (n : Int) (br : Br) (r : Option Ver), vs = [.ref (α .brs), .ref ll, .ref bl, .int n] ∧ Lay T H S α δ J G ∧ aget S.brs n = some br ∧
  (match br.ben with
    | none => r = none
    | some q => ∃ l b, LnB H ll bl q l b ∧ Rise l ∧ r = reachedM q br.mom l b) ∧ ∀ H' u, Sm H H' → VerO H' u r → Q u H'
theorem sc_reached_beneath : FnScope ["branches", "lines", "below", "number", "branch"] ["branches", "lines", "below", "number"] (defScope s_reached_beneath) := ⟨rfl, rfl, rfl, by decide +kernel, rfl, by decide +kernel, by decide +kernel⟩
theorem ok_reached_beneath {f : Addr} {fd : FuncData} (F : Fun K "reached_beneath" "reached_beneath" s_reached_beneath f fd) (C : Cf K T) (c1 : Fx P w K mg base CX0 "reached" 2 ["lines", "below", "number", "moment"] spReached) :
    FnOk P w K mg base CX0 3 f fd ["branches", "lines", "below", "number"] (spReachedB T) := by
  obtain ⟨f1, fd1, g1, k1, b1, G1⟩ := c1
  refine F.ok sc_reached_beneath (fun vs H Q E h => ?_) (fun cdv A outer s H vs Q E hr h => ?_)
  · obtain ⟨S, α, δ, J, G, ll, bl, n, br, r, rfl, _⟩ := h
    rfl
  · obtain ⟨S, α, δ, J, G, ll, bl, n, br, r, rfl, L, hb, hq, kq⟩ := h
    have hu := hu_of hr
    refine ⟨_, pss_cons (ps_set (i := 4) sc_reached_beneath.nd rfl (.inl rfl) (pe_dget hu (pv 0) (pv 3) (fun _ _ => rfl)))
      (pss_cons (ps_if (pt_cmpR op_isN (pe_fld (pv 4) rfl) pe_non (nomark _)) (pss_one (ps_ret pe_non)) pss_nil)
      (pss_one (ps_ret (pe_call G1 hr rfl g1 k1 b1 .nil pass0 (pa_cons (pv 1) (pa_cons (pv 2) (pa_cons (pe_fld (pv 4) rfl) (pa_cons (pe_fld (pv 4) rfl) pa_nil)))))))), ?_⟩
    refine ⟨_, rfl, _, rfl, _, _, rfl, L.gBr1 hb, ?_⟩
    refine ⟨_, rfl, _, _, _, _, _, rfl, L.br hb, C.B, C.bBen, rfl, rfl, _, rfl, ?_⟩
    cases hbe : br.ben with
    | none =>
      rw [hbe] at hq
      have hq : r = none := hq
      subst hq
      exact ifT rfl (kq H .non (Sm.refl H) rfl)
    | some q =>
      rw [hbe] at hq
      obtain ⟨l, b, hl, hR, rfl⟩ := hq
      have hf : H (α (.br n)) = some (.ins T.B (δ (.br n)) (fBr n br α)) := L.br hb
      refine ifF rfl ⟨_, rfl, _, rfl, _, rfl, _, _, _, _, _, rfl, hf, C.B, C.bBen, rfl, _, rfl, _, _, _, _, _, rfl, hf, C.B, C.bMom, rfl, ?_⟩
      exact ⟨ll, bl, q, br.mom, l, b, by rw [hbe]; rfl, hl, hR, kq⟩
end
end Vs
namespace Vs
open PySem L2
section
variable {P : Program} {w : World} {K : PySem.W.Frag} {mg : Str → Option Value} {base : Heap} {T : Cs} {U : Es} {Pt : Addr}
def ViewAt (H : Hp) (v : V) (x : Own × Int × Int) : Prop := ∃ t o, v = .ref t ∧ H t = some (.tup [o, .int x.2.1, .int x.2.2]) ∧ OwnAt H o x.1
theorem ViewAt.tups {H H' : Hp} (t : Tups H H') {v : V} {x : Own × Int × Int} (h : ViewAt H v x) : ViewAt H' v x := by
  obtain ⟨a, o, e, q, r⟩ := h
  exact ⟨a, o, e, t _ _ q, r.tups t⟩
def Views (H : Hp) : List V → List (Own × Int × Int) → Prop := Paired (ViewAt H)
theorem Views.tups {H H' : Hp} (t : Tups H H') {vs : List V} {l : List (Own × Int × Int)} (h : Views H vs l) : Views H' vs l := Paired.mapP h fun _ _ z => z.tups t
theorem key_at {β : Type} {l : List (Int × β)} (hp : (l.map (·.1)).Pairwise (· < ·)) {i : Nat} {x : V} (h : ((l.map (·.1)).map V.int)[i]? = some x) : ∃ n b, l[i]? = some (n, b) ∧ x = .int n ∧ aget l n = some b := by
  rw [List.map_map, List.getElem?_map] at h
  cases e : l[i]? with
  | none => rw [e] at h; cases h
  | some p =>
    rw [e] at h
    exact ⟨p.1, p.2, rfl, (Option.some.inj h).symm, aget_of_mem (nodup_of_lt hp) (List.mem_of_getElem? e)⟩
theorem Paired.app {α β : Type} {F : α → β → Prop} : ∀ {a1 : List α} {b1 : List β} {a2 : List α} {b2 : List β}, Paired F a1 b1 → Paired F a2 b2 → Paired F (a1 ++ a2) (b1 ++ b2)
  | _, _, _, _, .nil, s => s
  | _, _, _, _, .cons r t, s => .cons r (Paired.app t s)
theorem WF.lenB {Ks : List Str} {S : Sh} (W : WF Ks S) : S.brs.length ≤ 1000000 := Nat.le_trans W.cap.b (by decide)
/-- a store into what is new since H1 -/
theorem Sm.own {H H1 H4 : Hp} (s1 : Sm H H1) {D : Addr} (hD : H1 D = none) (s4 : Sm H H4) {u : HO} (h4 : H4 D = some u) (nu : NT u) (o : HO) : Sm H (upd H4 D o) := by
  refine ⟨fun b x e n => ?_, fun Q hQ => ?_, fun b ps e => ?_⟩
  · rw [upd_ne (ne_of_none (s1.keep b x e n) hD)]; exact s4.keep b x e n
  · obtain ⟨ps, e, t⟩ := s4.tab Q hQ
    refine ⟨ps, ?_, t⟩
    rw [upd_ne (ne_of e h4 (fun z => nu ps z.symm))]; exact e
  · obtain ⟨qs, e'⟩ := s4.tbl b ps e
    exact ⟨qs, by rw [upd_ne (ne_of e' h4 (fun z => nu qs z.symm))]; exact e'⟩
theorem ntL (xs : List V) : NT (.lst xs) := fun _ z => by cases z
theorem ntD (xs : List (Key × V)) : NT (.dK xs) := fun _ z => by cases z
theorem ntT (xs : List (List Key × V)) : NT (.dT xs) := fun _ z => by cases z
def spViews (T : Cs) : Sp := fun vs H Q _ => ∃ (Ks : List Str) (S : Sh) (α : Rl → Addr) (δ : Dl) (J : List Str) (G : Jud), vs = [.ref (α .brs), .ref (α .hns), .int S.now] ∧ Lay T H S α δ J G ∧ WF Ks S ∧
  ∀ H' p rs, Sm H H' → H' p = some (.lst rs) → Views H' rs (viewsM S) → Q (.ref p) H'
abbrev nViews : List Str := ["branches", "hands", "now", "of_hands", "of_heads", "number"]
theorem sc_views : FnScope nViews ["branches", "hands", "now"] (defScope s_views_of_somebody) := ⟨rfl, rfl, rfl, by decide +kernel, rfl, by decide +kernel, by decide +kernel⟩
theorem ok_views {f : Addr} {fd : FuncData} (F : Fun K "views_of_somebody" "views_of_somebody" s_views_of_somebody f fd) (B : Bt mg) (C : Cf K T) : FnOk P w K mg base CX0 1 f fd ["branches", "hands", "now"] (spViews T) := by
  refine F.ok sc_views (fun vs H Q E h => ?_) (fun cdv A outer s H vs Q E hr h => ?_)
  · obtain ⟨Ks, S, α, δ, J, G, rfl, _⟩ := h
    rfl
  · obtain ⟨Ks, S, α, δ, J, G, rfl, L, W, kq⟩ := h
    have hu := hu_of hr
    refine ⟨_, pss_cons (ps_setLc (i := 3) (own := [("number", 5)]) (g := gName 5) (tt := tYes) (te := tTup (tCons (tTup (tCons (tC (.str "hand")) (tCons (tVar 5) tNil))) (tCons (tFld K (tDGet (tVar 1) (tVar 5)) "branch") (tCons (tFld K (tDGet (tVar 1) (tVar 5)) "moment") tNil)))) rfl sc_views.nd rfl rfl (sw_true rfl rfl rfl (by decide +kernel)) (pi_list (pe_callB (cr_dI rfl) (by rfl) B.sorted (by decide +kernel) (pa_cons (pv 1) pa_nil)))
        (blkOk_by (own := [("number", 5)]) (N := nViews) (sc := defScope s_views_of_somebody) (by decide +kernel)) (fun _ _ _ _ _ => pg_name (i := 5) sc_views.nd rfl (.inl rfl)) (fun _ _ _ _ _ => pts_nil)
        (fun _ _ _ _ _ => by exact pe_tup (pa_cons (pe_tup (pa_cons pe_str (pa_cons (pv 5) pa_nil))) (pa_cons (pe_fld (pe_dget hu (pv 1) (pv 5) (fun _ _ => rfl)) rfl) (pa_cons (pe_fld (pe_dget hu (pv 1) (pv 5) (fun _ _ => rfl)) rfl) pa_nil)))))
      (pss_cons (ps_setLc (i := 4) (own := [("number", 5)]) (g := gName 5) (tt := tB (tFld K (tDGet (tVar 0) (tVar 5)) "alive")) (te := tTup (tCons (tTup (tCons (tC (.str "head")) (tCons (tVar 5) tNil))) (tCons (tVar 5) (tCons (tVar 2) tNil)))) rfl sc_views.nd rfl rfl (sw_true rfl rfl rfl (by decide +kernel)) (pi_list (pe_callB (cr_dI rfl) (by rfl) B.sorted (by decide +kernel) (pa_cons (pv 0) pa_nil)))
        (blkOk_by (own := [("number", 5)]) (N := nViews) (sc := defScope s_views_of_somebody) (by decide +kernel)) (fun _ _ _ _ _ => pg_name (i := 5) sc_views.nd rfl (.inl rfl)) (fun _ _ _ _ _ => by exact pts_one (pt_val (pe_fld (pe_dget hu (pv 0) (pv 5) (fun _ _ => rfl)) rfl)))
        (fun _ _ _ _ _ => by exact pe_tup (pa_cons (pe_tup (pa_cons pe_str (pa_cons (pv 5) pa_nil))) (pa_cons (pv 5) (pa_cons (pv 2) pa_nil)))))
      (pss_one (ps_ret (pe_op op_cat (pv 3) (pv 4))))), ?_⟩
    refine ⟨_, rfl, α .hns, _, S.hns.map (·.1), rfl, .inl L.hns, enc_keys _, W.hks, fun p hp => ⟨p, rfl, ⟨_, SqL.of upd_same⟩, fun D hD => ?_⟩⟩
    have s1 : Sm H (upd H p (.lst ((S.hns.map (·.1)).map V.int))) := Sm.new hp
    have hpl : upd H p (.lst ((S.hns.map (·.1)).map V.int)) p = some (.lst ((S.hns.map (·.1)).map V.int)) := upd_same
    generalize upd H p (.lst ((S.hns.map (·.1)).map V.int)) = H1 at s1 hpl hD
    have nDp : p ≠ D := ne_of_none hpl hD
    refine lc_list (K := K) (a := p) (xs := (S.hns.map (·.1)).map V.int) (fun i H2 => Sm H H2 ∧ H2 p = some (.lst ((S.hns.map (·.1)).map V.int)) ∧ ∃ rs, H2 D = some (.lst rs) ∧ rs.length = i ∧ Views H2 rs ((S.hns.take i).map fun q => ((("hand" : Str), q.1), q.2.br, q.2.mom)))
      ⟨s1.trans (Sm.new hD), by rw [upd_ne nDp]; exact hpl, [], upd_same, rfl, .nil⟩ (fun i H2 _ ⟨_, h, _⟩ => SqL.of h) ?_ ?_
    · rintro i x H2 hx ⟨s2, h2p, rs, h2D, hlen, hV⟩
      have hil : i < S.hns.length := by
        have := (List.getElem?_eq_some_iff.mp hx).1
        simpa using this
      obtain ⟨n, h, hi, rfl, hh⟩ := key_at W.hks hx
      have L2 := L.sm s2
      refine ⟨rfl, ?_⟩
      dsimp only [tYes]
      rw [if_pos rfl]
      refine ⟨_, rfl, by show 2 ≤ sizeLine; decide, fun t1 ht1 => ?_⟩
      have s3 : Sm H2 (upd H2 t1 (.tup [.str "hand", .int n])) := Sm.new ht1
      have t1at : upd H2 t1 (.tup [.str "hand", .int n]) t1 = some (.tup [.str "hand", .int n]) := upd_same
      generalize upd H2 t1 (.tup [.str "hand", .int n]) = H3 at s3 t1at
      have L3 := L2.sm s3
      refine ⟨_, rfl, _, rfl, _, _, rfl, L3.gHn1 hh, _, _, _, _, _, rfl, L3.hn hh, C.N, C.nBr, rfl, _, rfl, _, rfl, _, _, rfl, L3.gHn1 hh, _, _, _, _, _, rfl, L3.hn hh, C.N, C.nMom, rfl, by show 3 ≤ sizeLine; decide, fun t2 ht2 => ?_⟩
      have s4 : Sm H3 (upd H3 t2 (.tup [.ref t1, .int h.br, .int h.mom])) := Sm.new ht2
      have t2at : upd H3 t2 (.tup [.ref t1, .int h.br, .int h.mom]) t2 = some (.tup [.ref t1, .int h.br, .int h.mom]) := upd_same
      generalize upd H3 t2 (.tup [.ref t1, .int h.br, .int h.mom]) = H4 at s4 t2at
      have s24 := s3.trans s4
      have h4D := s24.lst h2D
      have nT : ∀ o, Tups H4 (upd H4 D o) := fun o a xs e => by rw [upd_ne (ne_of e h4D (by intro z; cases z))]; exact e
      refine ⟨rs, h4D, by rw [hlen]; exact le1000000 (Nat.le_of_lt (Nat.lt_of_lt_of_le hil W.lenH)), ?_, ?_, rs ++ [.ref t2], upd_same, by rw [List.length_append, hlen]; rfl, ?_⟩
      · exact s1.own hD (s2.trans s24) h4D (ntL _) _
      · rw [upd_ne nDp]; exact s24.lst h2p
      · rw [take_snoc hi, List.map_append]
        exact Paired.snoc ((hV.tups s24.tups).tups (nT _)) ⟨t2, .ref t1, rfl, nT _ _ _ t2at, t1, rfl, nT _ _ _ (s4.tups _ _ t1at)⟩
    · rintro H2 ⟨s2, h2p, rs, h2D, hlen, hV⟩
      rw [show ((S.hns.map (·.1)).map V.int).length = S.hns.length by simp, List.take_length] at hV
      have L2 := L.sm s2
      refine ⟨_, rfl, α .brs, _, S.brs.map (·.1), rfl, .inl L2.brs, enc_keys _, W.bks, fun q hq => ⟨q, rfl, ⟨_, SqL.of upd_same⟩, fun D2 hD2 => ?_⟩⟩
      have s3 : Sm H2 (upd H2 q (.lst ((S.brs.map (·.1)).map V.int))) := Sm.new hq
      have hql : upd H2 q (.lst ((S.brs.map (·.1)).map V.int)) q = some (.lst ((S.brs.map (·.1)).map V.int)) := upd_same
      generalize upd H2 q (.lst ((S.brs.map (·.1)).map V.int)) = H3 at s3 hql hD2
      have nDq : q ≠ D2 := ne_of_none hql hD2
      have h3D := s3.lst h2D
      have nDD : D ≠ D2 := ne_of_none h3D hD2
      refine lc_list (K := K) (a := q) (xs := (S.brs.map (·.1)).map V.int) (fun i H4 => Sm H2 H4 ∧ H4 q = some (.lst ((S.brs.map (·.1)).map V.int)) ∧ ∃ r2, H4 D2 = some (.lst r2) ∧ r2.length ≤ i ∧
          Views H4 r2 (((S.brs.take i).filter fun q => q.2.alive).map fun q => ((("head" : Str), q.1), q.1, S.now)))
        ⟨s3.trans (Sm.new hD2), by rw [upd_ne nDq]; exact hql, [], upd_same, Nat.le_refl _, .nil⟩ (fun i H4 _ ⟨_, h, _⟩ => SqL.of h) ?_ ?_
      · rintro i x H4 hx ⟨s4, h4q, r2, h4D, hl2, hV2⟩
        have hil : i < S.brs.length := by
          have := (List.getElem?_eq_some_iff.mp hx).1
          simpa using this
        obtain ⟨n, b, hi, rfl, hb⟩ := key_at W.bks hx
        have L4 := L2.sm s4
        refine ⟨rfl, _, rfl, _, rfl, _, _, rfl, L4.gBr1 hb, _, _, _, _, _, rfl, L4.br hb, C.B, C.bAl, rfl, _, rfl, ?_⟩
        cases hal : b.alive with
        | false =>
          refine iteF ⟨s4, h4q, r2, h4D, by omega, ?_⟩
          rw [take_snoc hi, List.filter_append, List.filter_cons, if_neg (by rw [hal]; decide), List.filter_nil, List.append_nil]
          exact hV2
        | true =>
          refine iteT ?_
          refine ⟨_, rfl, by show 2 ≤ sizeLine; decide, fun t1 ht1 => ?_⟩
          have s5 : Sm H4 (upd H4 t1 (.tup [.str "head", .int n])) := Sm.new ht1
          have t1at : upd H4 t1 (.tup [.str "head", .int n]) t1 = some (.tup [.str "head", .int n]) := upd_same
          generalize upd H4 t1 (.tup [.str "head", .int n]) = H5 at s5 t1at
          refine ⟨_, rfl, _, rfl, by show 3 ≤ sizeLine; decide, fun t2 ht2 => ?_⟩
          have s6 : Sm H5 (upd H5 t2 (.tup [.ref t1, .int n, .int S.now])) := Sm.new ht2
          have t2at : upd H5 t2 (.tup [.ref t1, .int n, .int S.now]) t2 = some (.tup [.ref t1, .int n, .int S.now]) := upd_same
          generalize upd H5 t2 (.tup [.ref t1, .int n, .int S.now]) = H6 at s6 t2at
          have s46 := s5.trans s6
          have h6D := s46.lst h4D
          have nT : ∀ o, Tups H6 (upd H6 D2 o) := fun o a xs e => by rw [upd_ne (ne_of e h6D (by intro z; cases z))]; exact e
          refine ⟨r2, h6D, le1000000 (Nat.le_trans hl2 (Nat.le_of_lt (Nat.lt_of_lt_of_le hil W.lenB))), s3.own hD2 (s4.trans s46) h6D (ntL _) _, ?_, r2 ++ [.ref t2], upd_same, by rw [List.length_append]; show r2.length + 1 ≤ i + 1; omega, ?_⟩
          · rw [upd_ne nDq]; exact s46.lst h4q
          · rw [take_snoc hi, List.filter_append, List.filter_cons, if_pos (by rw [hal]), List.filter_nil, List.map_append]
            exact Paired.snoc ((hV2.tups s46.tups).tups (nT _)) ⟨t2, .ref t1, rfl, nT _ _ _ t2at, t1, rfl, nT _ _ _ (s6.tups _ _ t1at)⟩
      · rintro H4 ⟨s4, h4q, r2, h4D, hl2, hV2⟩
        rw [show ((S.brs.map (·.1)).map V.int).length = S.brs.length by simp] at hV2 hl2
        rw [List.take_length] at hV2
        refine ⟨_, rfl, _, rfl, D, D2, rs, r2, rfl, rfl, s4.lst h2D, h4D, ?_, fun z hz => ?_⟩
        · have h1 := W.lenH
          have h2 := W.lenB
          have h3 : rs.length = S.hns.length := by rw [hlen]; simp
          rw [sizeLine_eq]; omega
        · exact kq _ z (rs ++ r2) ((s2.trans s4).trans (Sm.new hz)) upd_same (Paired.app ((hV.tups s4.tups).tups (Sm.new hz).tups) (hV2.tups (Sm.new hz).tups))
end
end Vs
namespace Vs
open PySem L2
section
variable {P : Program} {w : World} {K : PySem.W.Frag} {mg : Str → Option Value} {base : Heap} {T : Cs} {U : Es} {Pt : Addr}
theorem cellKey_inj {p q : Int × Int} (h : cellKey p = cellKey q) : p = q := by
  unfold cellKey at h
  injection h with h1 h2
  injection h2 with h2 _
  injection h1 with h1
  injection h2 with h2
  cases p; cases q; simp_all
/-- what a dict with such keys holds -/
theorem repVal {β : Type} {R : V → β → Prop} {p : Int × Int} : ∀ {e : List (List Key × V)} {l : List ((Int × Int) × β)}, Paired (fun (e : List Key × V) (o : (Int × Int) × β) => e.1 = cellKey o.1 ∧ R e.2 o.2) e l →
    (∀ v, valV e (cellKey p) = some v → ∃ o, aget l p = some o ∧ R v o) ∧ (valV e (cellKey p) = none → aget l p = none)
  | _, _, .nil => ⟨fun v h => (by cases h), fun _ => rfl⟩
  | (ke, ve) :: e, (q, o) :: l, .cons h r => by
    obtain ⟨h1, h2⟩ := h
    have h1 : ke = cellKey q := h1
    obtain ⟨i1, i2⟩ := repVal (p := p) r
    by_cases z : q = p
    · subst z
      rw [valV_pos (p := (ke, ve)) h1, aget_pos (p := (q, o)) rfl]
      exact ⟨fun v e => (by cases e; exact ⟨o, rfl, h2⟩), fun e => (by cases e)⟩
    · rw [valV_neg (p := (ke, ve)) (fun y => z (cellKey_inj (h1.symm.trans y))), aget_neg (p := (q, o)) z]
      exact ⟨i1, i2⟩
theorem brs_before {Ks : List Str} {S : Sh} (W : WF Ks S) {q n : Int} {c b : Br} {i : Nat} (hq : aget S.brs q = some c) (hi : S.brs[i]? = some (n, b)) (h : q < n) : ∃ j, j < i ∧ S.brs[j]? = some (q, c) := by
  obtain ⟨j, hj, ej⟩ := List.getElem_of_mem (aget_mem hq)
  obtain ⟨hi', ei⟩ := List.getElem?_eq_some_iff.mp hi
  refine ⟨j, ?_, by rw [List.getElem?_eq_getElem hj, ej]⟩
  have pw := List.pairwise_iff_getElem.mp W.bks
  rcases Nat.lt_trichotomy j i with z | z | z
  · exact z
  · subst z; rw [ej] at ei; cases ei; omega
  · have := pw i j (by simpa using hi') (by simpa using hj) z
    simp only [List.getElem_map, ei, ej] at this
    omega
theorem inl_ne {a b : Int} (h : a ≠ b) : (Sum.inl a : Key) ≠ Sum.inl b := fun e => h (Sum.inl.inj e)
theorem putK_length (kvs : List (Key × V)) (k : Key) (v : V) : (putK kvs k v).length ≤ kvs.length + 1 := by
  unfold putK
  split
  · rw [List.length_map]; omega
  · rw [List.length_append]; exact Nat.le_refl _
/-- for the first i branches the dicts at ll and bl tell a line and what is beneath -/
def Table (H : Hp) (S : Sh) (ll bl : Addr) (line : Int → Br → List Cel) (bel : Int → Br → Option Ver) (i : Nat) : Prop := ∃ kl kb, H ll = some (.dK kl) ∧ H bl = some (.dK kb) ∧ kl.length ≤ i ∧ kb.length ≤ i ∧
  ∀ j n b, j < i → S.brs[j]? = some (n, b) → (∃ a rs, valV kl (.inl n) = some (.ref a) ∧ H a = some (.lst rs) ∧ Cels H rs (line n b)) ∧ ∃ vb, valV kb (.inl n) = some vb ∧ VerO H vb (bel n b)
theorem Table.lnB {H : Hp} {S : Sh} {ll bl : Addr} {line : Int → Br → List Cel} {bel : Int → Br → Option Ver} {i j : Nat} {n : Int} {b : Br} (t : Table H S ll bl line bel i) (hj : j < i) (h : S.brs[j]? = some (n, b)) : LnB H ll bl n (line n b) (bel n b) := by
  obtain ⟨kl, kb, h1, h2, _, _, h3⟩ := t
  obtain ⟨⟨a, rs, a1, a2, a3⟩, vb, b1, b2⟩ := h3 j n b hj h
  exact ⟨kl, kb, a, rs, vb, h1, h2, a1, a2, a3, b1, b2⟩
theorem Table.sm {H H' : Hp} {S : Sh} {ll bl : Addr} {line : Int → Br → List Cel} {bel : Int → Br → Option Ver} {i : Nat} (t : Table H S ll bl line bel i) (s : Sm H H') : Table H' S ll bl line bel i := by
  obtain ⟨kl, kb, h1, h2, l1, l2, h3⟩ := t
  refine ⟨kl, kb, s.dK h1, s.dK h2, l1, l2, fun j n b hj h => ?_⟩
  obtain ⟨⟨a, rs, a1, a2, a3⟩, vb, b1, b2⟩ := h3 j n b hj h
  exact ⟨⟨a, rs, a1, s.lst a2, a3.tups s.tups⟩, vb, b1, b2.tups s.tups⟩
def spFirst (T : Cs) : Sp := fun vs H Q _ => ∃ (Ks : List Str) (S : Sh) (α : Rl → Addr) (δ : Dl) (J : List Str) (G : Jud) (k : Str), vs = [.ref (α .brs), .ref (α .hns), .int S.now, .str k] ∧ Lay T H S α δ J G ∧ WF Ks S ∧
  ∀ H' p e, Sm H H' → H p = none → H' p = some (.dT e) → OwRep H' e (ownersM S k) → Q (.ref p) H'
abbrev nFirst : List Str := ["branches", "hands", "now", "key", "lines", "below", "number", "owners", "owner", "moment", "version"]
theorem sc_first : FnScope nFirst ["branches", "hands", "now", "key"] (defScope s_first_owners) := ⟨rfl, rfl, rfl, by decide +kernel, rfl, by decide +kernel, by decide +kernel⟩
theorem ok_first {f : Addr} {fd : FuncData} (F : Fun K "first_owners" "first_owners" s_first_owners f fd) (B : Bt mg) (C : Cf K T) (c1 : Fx P w K mg base CX0 "reached_beneath" 3 ["branches", "lines", "below", "number"] (spReachedB T))
    (c2 : Fx P w K mg base CX0 "views_of_somebody" 1 ["branches", "hands", "now"] (spViews T)) (c3 : Fx P w K mg base CX0 "reached" 2 ["lines", "below", "number", "moment"] spReached) :
    FnOk P w K mg base CX0 4 f fd ["branches", "hands", "now", "key"] (spFirst T) := by
  obtain ⟨f1, fd1, g1, k1, b1, G1⟩ := c1
  obtain ⟨f2, fd2, g2, k2, b2, G2⟩ := c2
  obtain ⟨f3, fd3, g3, k3, b3, G3⟩ := c3
  refine F.ok sc_first (fun vs H Q E h => ?_) (fun cdv A outer s H vs Q E hr h => ?_)
  · obtain ⟨Ks, S, α, δ, J, G, k, rfl, _⟩ := h
    rfl
  · obtain ⟨Ks, S, α, δ, J, G, k, rfl, L, W, kq⟩ := h
    have hu := hu_of hr
    refine ⟨_, pss_cons (ps_set (i := 4) sc_first.nd rfl (.inl rfl) pe_dnewK) (pss_cons (ps_set (i := 5) sc_first.nd rfl (.inl rfl) pe_dnewK)
      (pss_cons (ps_for PassesOwn.never rfl (pi_list (pe_callB (cr_dI rfl) (by rfl) B.sorted (by decide +kernel) (pa_cons (pv 0) pa_nil))) (pg_name (i := 6) sc_first.nd rfl (.inl rfl))
        (pss_cons (ps_dput hu (pv 4) (pv 6) (pe_dget2 hu (pe_fld (pe_dget hu (pv 0) (pv 6) (fun _ _ => rfl)) rfl) (pv 3) (pe_lst pa_nil) ⟨rfl, rfl, rfl, rfl⟩) rfl)
        (pss_one (ps_dput hu (pv 5) (pv 6) (pe_call G1 hr rfl g1 k1 b1 .nil pass0 (pa_cons (pv 0) (pa_cons (pv 4) (pa_cons (pv 5) (pa_cons (pv 6) pa_nil))))) rfl))))
      (pss_cons (ps_set (i := 7) sc_first.nd rfl (.inl rfl) pe_dnewT)
      (pss_cons (ps_for PassesOwn.never rfl (pi_list (pe_call G2 (hr.mono (by decide)) rfl g2 k2 b2 .nil pass0 (pa_cons (pv 0) (pa_cons (pv 1) (pa_cons (pv 2) pa_nil)))))
          (pg_tup rfl (pgs_cons (pg_name (i := 8) sc_first.nd rfl (.inl rfl)) (pgs_cons (pg_name (i := 6) sc_first.nd rfl (.inl rfl)) (pgs_cons (pg_name (i := 9) sc_first.nd rfl (.inl rfl)) pgs_nil))))
        (pss_cons (ps_set (i := 10) sc_first.nd rfl (.inl rfl) (pe_call G3 (hr.mono (by decide)) rfl g3 k3 b3 .nil pass0 (pa_cons (pv 4) (pa_cons (pv 5) (pa_cons (pv 6) (pa_cons (pv 9) pa_nil))))))
        (pss_one (ps_if (pt_cmpR op_notN (pv 10) pe_non (nomark _)) (pss_one (ps_expr (pe_setdT hu (pv 7) (pe_tup (pa_cons (pe_ix ix_tup (pv 10) pe_int (fun _ _ => rfl)) (pa_cons (pe_ix ix_tup (pv 10) pe_int (fun _ _ => rfl)) pa_nil))) (pv 8) ⟨rfl, rfl, rfl, rfl⟩))) pss_nil))))
      (pss_one (ps_ret (pv 7))))))), ?_⟩
    -- lines = {}; below = {}; sorted(branches)
    intro ll hll bl hbl
    have s1 : Sm H (upd (upd H ll (.dK [])) bl (.dK [])) := (Sm.new hll).trans (Sm.new hbl)
    have hbl0 : H bl = none := (Sm.new hll).free hbl
    have nlb : ll ≠ bl := fun e => by rw [← e, upd_same] at hbl; cases hbl
    have e1 : upd (upd H ll (.dK [])) bl (.dK []) ll = some (.dK []) := by rw [upd_ne nlb]; exact upd_same
    have e2 : upd (upd H ll (.dK [])) bl (.dK []) bl = some (.dK []) := upd_same
    generalize upd (upd H ll (.dK [])) bl (.dK []) = H1 at s1 e1 e2
    have L1 := L.sm s1
    refine ⟨_, rfl, α .brs, _, S.brs.map (·.1), rfl, .inl L1.brs, enc_keys _, W.bks, fun p hp => ⟨p, rfl, ⟨_, SqL.of upd_same⟩, ?_⟩⟩
    have s2 : Sm H1 (upd H1 p (.lst ((S.brs.map (·.1)).map V.int))) := Sm.new hp
    have hpl : upd H1 p (.lst ((S.brs.map (·.1)).map V.int)) p = some (.lst ((S.brs.map (·.1)).map V.int)) := upd_same
    have e1 := s2.dK e1
    have e2 := s2.dK e2
    generalize upd H1 p (.lst ((S.brs.map (·.1)).map V.int)) = H2 at s2 hpl e1 e2
    have s12 := s1.trans s2
    refine for_list (K := K) (a := p) (xs := (S.brs.map (·.1)).map V.int) (fun i σ H3 => (∃ x, σ = [some (.ref (α .brs)), some (.ref (α .hns)), some (.int S.now), some (.str k), some (.ref ll), some (.ref bl), x, none, none, none, none]) ∧
        Sm H H3 ∧ H3 p = some (.lst ((S.brs.map (·.1)).map V.int)) ∧ Table H3 S ll bl (fun _ b => b.line k) (fun _ b => belowS S k b) i)
      ⟨⟨none, rfl⟩, s12, hpl, [], [], e1, e2, Nat.le_refl _, Nat.le_refl _, fun j n b hj => absurd hj (Nat.not_lt_zero _)⟩ (fun i σ H3 _ ⟨_, _, h, _⟩ => SqL.of h) ?_ ?_
    · rintro i x σ H3 hx ⟨⟨x0, rfl⟩, s3, h3p, kl, kb, hkl, hkb, ll1, ll2, tab⟩
      have hil : i < S.brs.length := by
        have := (List.getElem?_eq_some_iff.mp hx).1
        simpa using this
      have hiB : i < 1000000 := Nat.lt_of_lt_of_le hil W.lenB
      obtain ⟨n, b, hi, rfl, hb⟩ := key_at W.bks hx
      have L3 := L.sm s3
      refine ⟨_, rfl, _, rfl, _, _, rfl, L3.gBr1 hb, _, _, _, _, _, rfl, L3.br hb, C.B, C.bLn, rfl, _, rfl, .inl ⟨_, L3.lnsR hb⟩, _, rfl, by show 0 ≤ sizeLine; exact Nat.zero_le _, fun z hz => ?_⟩
      have s4 : Sm H3 (upd H3 z (.lst [])) := Sm.new hz
      obtain ⟨o, rs, a, q1, q2, q3, q4, _⟩ := L3.getLine hb k s4 upd_same
      generalize upd H3 z (.lst []) = H4 at s4 q1 q3 q4
      refine ⟨o, q1, ?_⟩
      rw [q2]
      have h4l := s4.dK hkl
      refine ⟨_, rfl, _, rfl, _, _, rfl, DPut.k (k := Sum.inl n) h4l (le1000000 (by omega)), ?_⟩
      -- behind lines[number] = ..
      have s5 : Sm H (upd H4 ll (.dK (putK kl (.inl n) (.ref a)))) := (Sm.refl H).own hll (s3.trans s4) h4l (ntD _) _
      have n5 : ∀ b o, H4 b = some o → (∀ xs, o ≠ .dK xs) → upd H4 ll (.dK (putK kl (.inl n) (.ref a))) b = some o := fun b o e no => by rw [upd_ne (ne_of e h4l (no _))]; exact e
      have t5 : Tups H4 (upd H4 ll (.dK (putK kl (.inl n) (.ref a)))) := fun b xs e => n5 b _ e (fun _ y => by cases y)
      have l5 : upd H4 ll (.dK (putK kl (.inl n) (.ref a))) ll = some (.dK (putK kl (.inl n) (.ref a))) := upd_same
      have b5 : upd H4 ll (.dK (putK kl (.inl n) (.ref a))) bl = some (.dK kb) := by rw [upd_ne (Ne.symm nlb)]; exact s4.dK hkb
      have a5 := n5 _ _ q3 (fun _ y => by cases y)
      have p5 := n5 _ _ (s4.lst h3p) (fun _ y => by cases y)
      have old5 : ∀ j m c, j < i → S.brs[j]? = some (m, c) → m ≠ n ∧ (∃ a rs, valV (putK kl (.inl n) (.ref a)) (.inl m) = valV kl (.inl m)) := fun j m c hj hc => by
        have pw := List.pairwise_iff_getElem.mp W.bks
        obtain ⟨hj', ej⟩ := List.getElem?_eq_some_iff.mp hc
        obtain ⟨hi', ei⟩ := List.getElem?_eq_some_iff.mp hi
        have := pw j i (by simpa using hj') (by simpa using hi') hj
        simp only [List.getElem_map, ej, ei] at this
        exact ⟨by omega, a, rs, by rw [valV_put, if_neg (inl_ne (by omega))]⟩
      have row5 : ∀ j m c, j < i → S.brs[j]? = some (m, c) → LnB (upd H4 ll (.dK (putK kl (.inl n) (.ref a)))) ll bl m (c.line k) (belowS S k c) := fun j m c hj hc => by
        obtain ⟨⟨a', rs', v1, v2, v3⟩, vb, w1, w2⟩ := tab j m c hj hc
        have nm := (old5 j m c hj hc).1
        exact ⟨_, kb, a', rs', vb, l5, b5, by rw [valV_put, if_neg (inl_ne nm)]; exact v1, n5 _ _ (s4.lst v2) (fun _ y => by cases y), (v3.tups s4.tups).tups t5, w1, (w2.tups s4.tups).tups t5⟩
      have c5 := q4.tups t5
      generalize upd H4 ll (.dK (putK kl (.inl n) (.ref a))) = H5 at s5 n5 t5 l5 b5 a5 p5 row5 c5
      have L5 := L.sm s5
      refine ⟨_, rfl, _, rfl, _, rfl, _, rfl, S, α, δ, J, G, ll, bl, n, b, belowS S k b, rfl, L5, hb, ?_, fun H6 u s6 hu6 => ?_⟩
      · unfold belowS
        cases hq : b.ben with
        | none => rfl
        | some q =>
          obtain ⟨c, hc⟩ := (W.ben n b q hb hq).2
          obtain ⟨j, hj, hjc⟩ := brs_before W hc hi (W.ben n b q hb hq).1
          refine ⟨c.line k, belowS S k c, row5 j q c hj hjc, W.rise hc k, ?_⟩
          exact reachS_of W k b.mom hc
      · have b6 := s6.dK b5
        refine ⟨_, rfl, _, rfl, _, _, rfl, DPut.k (k := Sum.inl n) b6 (le1000000 (by omega)), ?_⟩
        have n7 : ∀ b o, H6 b = some o → (∀ xs, o ≠ .dK xs) → upd H6 bl (.dK (putK kb (.inl n) u)) b = some o := fun b o e no => by rw [upd_ne (ne_of e b6 (no _))]; exact e
        have t7 : Tups H6 (upd H6 bl (.dK (putK kb (.inl n) u))) := fun b xs e => n7 b _ e (fun _ y => by cases y)
        refine ⟨⟨_, rfl⟩, (Sm.refl H).own hbl0 (s5.trans s6) b6 (ntD _) _, n7 _ _ (s6.lst p5) (fun _ y => by cases y), putK kl (.inl n) (.ref a), putK kb (.inl n) u, by rw [upd_ne nlb]; exact s6.dK l5, upd_same,
          by have := putK_length kl (.inl n) (.ref a); omega, by have := putK_length kb (.inl n) u; omega, fun j m c hj hc => ?_⟩
        by_cases z : j = i
        · subst z
          rw [hi] at hc
          cases hc
          exact ⟨⟨a, rs, by rw [valV_put, if_pos rfl], n7 _ _ (s6.lst a5) (fun _ y => by cases y), (c5.tups s6.tups).tups t7⟩, u, by rw [valV_put, if_pos rfl], hu6.tups t7⟩
        · have hj' : j < i := by omega
          have nm := (old5 j m c hj' hc).1
          obtain ⟨⟨a', rs', v1, v2, v3⟩, vb, w1, w2⟩ := tab j m c hj' hc
          refine ⟨⟨a', rs', by rw [valV_put, if_neg (inl_ne nm)]; exact v1, ?_, ?_⟩, vb, by rw [valV_put, if_neg (inl_ne nm)]; exact w1, ?_⟩
          · exact n7 _ _ (s6.lst (n5 _ _ (s4.lst v2) (fun _ y => by cases y))) (fun _ y => by cases y)
          · exact (((v3.tups s4.tups).tups t5).tups s6.tups).tups t7
          · exact (((w2.tups s4.tups).tups t5).tups s6.tups).tups t7
    · rintro σ H3 ⟨⟨x0, rfl⟩, s3, h3p, tab⟩
      rw [show ((S.brs.map (·.1)).map V.int).length = S.brs.length by simp] at tab
      intro od hod
      have hod0 := s3.free hod
      have s4 : Sm H3 (upd H3 od (.dT [])) := Sm.new hod
      have o4 : upd H3 od (.dT []) od = some (.dT []) := upd_same
      generalize upd H3 od (.dT []) = H4 at s4 o4
      have L4 := L.sm (s3.trans s4)
      refine ⟨_, rfl, _, rfl, _, rfl, Ks, S, α, δ, J, G, rfl, L4, W, fun H5 q rs s5 h5q hV => ⟨q, rfl, ⟨_, SqL.of h5q⟩, ?_⟩⟩
      have s35 := s4.trans s5
      have tab5 := tab.sm s35
      refine for_list (K := K) (a := q) (xs := rs) (fun i σ H6 => (∃ x y z v, σ = [some (.ref (α .brs)), some (.ref (α .hns)), some (.int S.now), some (.str k), some (.ref ll), some (.ref bl), x, some (.ref od), y, z, v]) ∧
          Sm H H6 ∧ H6 q = some (.lst rs) ∧ Tups H5 H6 ∧ Table H6 S ll bl (fun _ b => b.line k) (fun _ b => belowS S k b) S.brs.length ∧ ∃ e, H6 od = some (.dT e) ∧ e.length ≤ i ∧ OwRep H6 e (((viewsM S).take i).foldl (fun acc v => addOwn acc (reachS S.brs k v.2.1 v.2.2) v.1) []))
        ⟨⟨_, _, _, _, rfl⟩, s3.trans s35, h5q, Tups.refl _, tab5, [], s5.dT o4, Nat.le_refl _, .nil⟩ (fun i σ H6 _ ⟨_, _, h, _⟩ => SqL.of h) ?_ ?_
      · rintro i x σ H6 hx ⟨⟨x0, y0, z0, v0, rfl⟩, s6, h6q, t6, tab6, e, he, hel, hO⟩
        have hil : i < rs.length := (List.getElem?_eq_some_iff.mp hx).1
        have hvl : rs.length = (viewsM S).length := Paired.length hV
        have hlen : (viewsM S).length ≤ 2000000 := by
          unfold viewsM
          rw [List.length_append, List.length_map, List.length_map]
          have h1 := W.lenH
          have h2 := W.lenB
          have h3 := List.length_filter_le (fun p : Int × Br => p.2.alive) S.brs
          omega
        have hv : (viewsM S)[i]? = some (viewsM S)[i] := List.getElem?_eq_getElem (by omega)
        have hAt : ViewAt H5 x (viewsM S)[i] := by
          have get : ∀ {rs : List V} {l : List (Own × Int × Int)}, Views H5 rs l → ∀ {i : Nat} {x : V} {y : Own × Int × Int}, rs[i]? = some x → l[i]? = some y → ViewAt H5 x y := by
            intro rs l h
            induction h with
            | nil => intro i x y e; simp at e
            | cons h r ih =>
              intro i x y e e'
              cases i with
              | zero => simp at e e'; subst e; subst e'; exact h
              | succ i => exact ih (by simpa using e) (by simpa using e')
          exact get hV hx hv
        generalize (viewsM S)[i] = v at hv hAt
        obtain ⟨t, o, rfl, ht, hown⟩ := hAt.tups t6
        have hbr : ∃ b, aget S.brs v.2.1 = some b := by
          have hm := List.mem_of_getElem? hv
          unfold viewsM at hm
          rcases List.mem_append.mp hm with z | z
          · obtain ⟨p, hp, rfl⟩ := List.mem_map.mp z
            exact (W.hn p.1 p.2 (aget_of_mem (nodup_of_lt W.hks) hp)).2.2.1
          · obtain ⟨p, hp, rfl⟩ := List.mem_map.mp z
            exact ⟨p.2, aget_of_mem (nodup_of_lt W.bks) (List.mem_filter.mp hp).1⟩
        obtain ⟨b, hb⟩ := hbr
        obtain ⟨j, hj, ej⟩ := List.getElem_of_mem (aget_mem hb)
        have row := tab6.lnB (j := j) hj (by rw [List.getElem?_eq_getElem hj, ej])
        refine ⟨t, _, rfl, SqT.of ht, rfl, _, _, rfl, _, _, rfl, _, _, rfl, rfl, ?_⟩
        refine ⟨_, rfl, _, rfl, _, rfl, _, rfl, ll, bl, v.2.1, v.2.2, b.line k, belowS S k b, rfl, row, W.rise hb k, fun H7 u s7 hu7 => ?_⟩
        have hreach : reachedM v.2.1 v.2.2 (b.line k) (belowS S k b) = reachS S.brs k v.2.1 v.2.2 := (reachS_of W k v.2.2 hb).symm
        rw [hreach] at hu7
        have fold : ((viewsM S).take (i + 1)).foldl (fun acc v => addOwn acc (reachS S.brs k v.2.1 v.2.2) v.1) [] = addOwn (((viewsM S).take i).foldl (fun acc v => addOwn acc (reachS S.brs k v.2.1 v.2.2) v.1) []) (reachS S.brs k v.2.1 v.2.2) v.1 := by
          rw [take_snoc hv, List.foldl_append]; rfl
        generalize ((viewsM S).take i).foldl (fun acc v => addOwn acc (reachS S.brs k v.2.1 v.2.2) v.1) [] = acc at hO fold
        have he7 := s7.dT he
        cases hr7 : reachS S.brs k v.2.1 v.2.2 with
        | none =>
          rw [hr7] at hu7 fold
          have hu7 : u = .non := hu7
          subst hu7
          refine ⟨_, rfl, rfl, _, rfl, ifF rfl ⟨⟨_, _, _, _, rfl⟩, s6.trans s7, s7.lst h6q, t6.trans s7.tups, tab6.sm s7, e, he7, by omega, ?_⟩⟩
          rw [fold]; exact OwRep.tups s7.tups hO
        | some ver =>
          rw [hr7] at hu7 fold
          obtain ⟨t2, rfl, ht2⟩ := hu7
          refine ⟨_, rfl, rfl, _, rfl, ifT rfl ⟨_, rfl, od, rfl, .inr ⟨_, .inl he7⟩, _, rfl, t2, _, _, _, rfl, rfl, SqT.of ht2, rfl, _, rfl, t2, _, _, _, rfl, rfl, SqT.of ht2, rfl, by show 2 ≤ sizeLine; decide, fun t3 ht3 => ?_⟩⟩
          have s8 : Sm H7 (upd H7 t3 (.tup [.int ver.1, .int ver.2.1])) := Sm.new ht3
          have t3at : upd H7 t3 (.tup [.int ver.1, .int ver.2.1]) t3 = some (.tup [.int ver.1, .int ver.2.1]) := upd_same
          generalize upd H7 t3 (.tup [.int ver.1, .int ver.2.1]) = H8 at s8 t3at
          have he8 := s8.dT he7
          have s78 := s7.trans s8
          have hO8 := OwRep.tups s78.tups hO
          obtain ⟨rv1, rv2⟩ := repVal (p := (ver.1, ver.2.1)) (R := OwnAt H8) hO8
          refine ⟨_, rfl, e, cellKey (ver.1, ver.2.1), t3, he8, rfl, t3at, Nat.lt_of_le_of_lt (Nat.le_trans hel (Nat.le_of_lt hil)) (by rw [hvl, sizeLine_eq]; omega), fun g hg => ?_, fun hg => ?_⟩
          · obtain ⟨o', ho', _⟩ := rv1 g hg
            refine ⟨⟨_, _, _, _, rfl⟩, s6.trans s78, s78.lst h6q, t6.trans s78.tups, tab6.sm s78, e, he8, by omega, ?_⟩
            rw [fold]
            show OwRep H8 e (if (aget acc (ver.1, ver.2.1)).isSome = true then acc else _)
            rw [ho']; exact hO8
          · have hn := rv2 hg
            have t9 : Tups H8 (upd H8 od (.dT (putK e (cellKey (ver.1, ver.2.1)) o))) := fun b xs q => by rw [upd_ne (ne_of q he8 (fun y => by cases y))]; exact q
            refine ⟨⟨_, _, _, _, rfl⟩, (Sm.refl H).own hod0 (s6.trans s78) he8 (ntT _) _, ?_, (t6.trans s78.tups).trans t9, ?_, putK e (cellKey (ver.1, ver.2.1)) o, upd_same, ?_, ?_⟩
            · rw [upd_ne (ne_of (s78.lst h6q) he8 (fun y => by cases y))]; exact s78.lst h6q
            · obtain ⟨kl, kb, w1, w2, w3, w4, w5⟩ := tab6.sm s78
              refine ⟨kl, kb, by rw [upd_ne (ne_of w1 he8 (fun y => by cases y))]; exact w1, by rw [upd_ne (ne_of w2 he8 (fun y => by cases y))]; exact w2, w3, w4, fun j n b hj hjb => ?_⟩
              obtain ⟨⟨a', rs', v1, v2, v3⟩, vb, u1, u2⟩ := w5 j n b hj hjb
              exact ⟨⟨a', rs', v1, by rw [upd_ne (ne_of v2 he8 (fun y => by cases y))]; exact v2, v3.tups t9⟩, vb, u1, u2.tups t9⟩
            · rw [putK_new _ hg, List.length_append]; show e.length + 1 ≤ i + 1; omega
            · rw [fold]
              show OwRep _ _ (if (aget acc (ver.1, ver.2.1)).isSome = true then acc else acc ++ [((ver.1, ver.2.1), v.1)])
              rw [putK_new _ hg] at t9
              rw [hn, putK_new _ hg]
              exact Paired.snoc (OwRep.tups t9 hO8) ⟨rfl, (hown.tups s78.tups).tups t9⟩
      · rintro σ H6 ⟨⟨x0, y0, z0, v0, rfl⟩, s6, h6q, t6, tab6, e, he, hel, hO⟩
        rw [show rs.length = (viewsM S).length from Paired.length hV, List.take_length] at hO
        exact ⟨_, rfl, kq H6 od e s6 hod0 he hO⟩
end
end Vs
namespace Vs
open PySem L2
section
variable {P : Program} {w : World} {K : PySem.W.Frag} {mg : Str → Option Value} {base : Heap} {T : Cs} {U : Es} {Pt : Addr}
def spReasons (T : Cs) : Sp := fun vs H Q _ => ∃ (Ks : List Str) (S : Sh) (α : Rl → Addr) (δ : Dl) (J : List Str) (G : Jud) (k : Str) (op : Addr) (eo : List (List Key × V)) (os : List ((Int × Int) × Own)), vs = [.ref (α .brs), .ref op, .str k] ∧ Lay T H S α δ J G ∧ WF Ks S ∧
  H op = some (.dT eo) ∧ OwRep H eo os ∧ ∀ H' p e, Sm H H' → H p = none → H' p = some (.dT e) → RsRep H' e (reasonsO S.brs k os) → Q (.ref p) H'
/-- what stands still while the cells of branch n are judged -/
structure InFix (S : Sh) (line : Int → Br → List Cel) (bel : Int → Br → Option Ver) (kp bl z p a : Addr) (ps rs : List V) (l : List Cel) (kl kb : List (Key × V)) (i : Nat) (H : Hp) : Prop where
  hp : H p = some (.lst ps)
  ha : H a = some (.lst rs)
  hc : Cels H rs l
  hk : H kp = some (.dK kl)
  hb : H bl = some (.dK kb)
  rows : ∀ j m c, j < i → S.brs[j]? = some (m, c) → (∃ a rs, valV kl (.inl m) = some (.ref a) ∧ a ≠ z ∧ H a = some (.lst rs) ∧ Cels H rs (line m c)) ∧ ∃ vb, valV kb (.inl m) = some vb ∧ VerO H vb (bel m c)
theorem ntU (xs : List V) : NT (.tup xs) := fun _ z => by cases z
theorem InFix.keep {S : Sh} {line : Int → Br → List Cel} {bel : Int → Br → Option Ver} {kp bl z p a : Addr} {ps rs : List V} {l : List Cel} {kl kb : List (Key × V)} {i : Nat} {H H' : Hp} {rd : Addr} {e : List (List Key × V)} {ks : List V}
    (f : InFix S line bel kp bl z p a ps rs l kl kb i H) (hr : H rd = some (.dT e)) (hz : H z = some (.lst ks)) (npz : p ≠ z) (naz : a ≠ z) (k : ∀ b o, H b = some o → NT o → b ≠ rd → b ≠ z → H' b = some o) : InFix S line bel kp bl z p a ps rs l kl kb i H' ∧ Tups H H' := by
  have t : Tups H H' := fun b xs q => k b _ q (ntU _) (ne_of q hr (by intro y; cases y)) (ne_of q hz (by intro y; cases y))
  refine ⟨⟨k _ _ f.hp (ntL _) (ne_of f.hp hr (by intro y; cases y)) npz, k _ _ f.ha (ntL _) (ne_of f.ha hr (by intro y; cases y)) naz, f.hc.tups t, k _ _ f.hk (ntD _) (ne_of f.hk hr (by intro y; cases y)) (ne_of f.hk hz (by intro y; cases y)),
    k _ _ f.hb (ntD _) (ne_of f.hb hr (by intro y; cases y)) (ne_of f.hb hz (by intro y; cases y)), fun j m c hj hc => ?_⟩, t⟩
  obtain ⟨⟨a', rs', v1, v2, v3, v4⟩, vb, w1, w2⟩ := f.rows j m c hj hc
  exact ⟨⟨a', rs', v1, v2, k _ _ v3 (ntL _) (ne_of v3 hr (by intro y; cases y)) v2, v4.tups t⟩, vb, w1, w2.tups t⟩
theorem ownGet {H : Hp} {eo : List (List Key × V)} {os : List ((Int × Int) × Own)} (h : OwRep H eo os) (n b : Int) : OwnO H ((valV eo (cellKey (n, b))).getD .non) (owOf os n b) := by
  obtain ⟨r1, r2⟩ := repVal (p := (n, b)) (R := OwnAt H) h
  cases e : valV eo (cellKey (n, b)) with
  | none =>
    have := r2 e
    unfold owOf; rw [this]; rfl
  | some v =>
    obtain ⟨o, e1, e2⟩ := r1 v e
    unfold owOf; rw [e1]; exact e2
abbrev nReasons : List Str := ["branches", "owners", "key", "kept", "below", "reasons", "number", "beneath", "born", "value", "why"]
theorem sc_reasons : FnScope nReasons ["branches", "owners", "key"] (defScope s_reasons_to_stay) := ⟨rfl, rfl, rfl, by decide +kernel, rfl, by decide +kernel, by decide +kernel⟩
theorem ok_reasons {f : Addr} {fd : FuncData} (F : Fun K "reasons_to_stay" "reasons_to_stay" s_reasons_to_stay f fd) (B : Bt mg) (C : Cf K T) (c1 : Fx P w K mg base CX0 "reached_beneath" 3 ["branches", "lines", "below", "number"] (spReachedB T))
    (c2 : Fx P w K mg base CX0 "reason_to_stay" 1 ["key", "value", "owner", "beneath"] spReason) : FnOk P w K mg base CX0 4 f fd ["branches", "owners", "key"] (spReasons T) := by
  obtain ⟨f1, fd1, g1, k1, b1, G1⟩ := c1
  obtain ⟨f2, fd2, g2, k2, b2, G2⟩ := c2
  refine F.ok sc_reasons (fun vs H Q E h => ?_) (fun cdv A outer s H vs Q E hr h => ?_)
  · obtain ⟨Ks, S, α, δ, J, G, k, op, eo, os, rfl, _⟩ := h
    rfl
  · obtain ⟨Ks, S, α, δ, J, G, k, op, eo, os, rfl, L, W, hop, hOw, kq⟩ := h
    have hu := hu_of hr
    refine ⟨_, pss_cons (ps_set (i := 3) sc_reasons.nd rfl (.inl rfl) pe_dnewK) (pss_cons (ps_set (i := 4) sc_reasons.nd rfl (.inl rfl) pe_dnewK) (pss_cons (ps_set (i := 5) sc_reasons.nd rfl (.inl rfl) pe_dnewT)
      (pss_cons (ps_for PassesOwn.never rfl (pi_list (pe_callB (cr_dI rfl) (by rfl) B.sorted (by decide +kernel) (pa_cons (pv 0) pa_nil))) (pg_name (i := 6) sc_reasons.nd rfl (.inl rfl))
        (pss_cons (ps_dput hu (pv 3) (pv 6) (pe_lst pa_nil) rfl)
        (pss_cons (ps_dput hu (pv 4) (pv 6) (pe_call G1 hr rfl g1 k1 b1 .nil pass0 (pa_cons (pv 0) (pa_cons (pv 3) (pa_cons (pv 4) (pa_cons (pv 6) pa_nil))))) rfl)
        (pss_cons (ps_set (i := 7) sc_reasons.nd rfl (.inl rfl) (pe_dget hu (pv 4) (pv 6) (fun _ _ => rfl)))
        (pss_one (ps_for PassesOwn.never rfl (pi_list (pe_dget2 hu (pe_fld (pe_dget hu (pv 0) (pv 6) (fun _ _ => rfl)) rfl) (pv 2) (pe_lst pa_nil) ⟨rfl, rfl, rfl, rfl⟩)) (pg_tup rfl (pgs_cons (pg_name (i := 8) sc_reasons.nd rfl (.inl rfl)) (pgs_cons (pg_name (i := 9) sc_reasons.nd rfl (.inl rfl)) pgs_nil)))
          (pss_cons (ps_set (i := 10) sc_reasons.nd rfl (.inl rfl) (pe_call G2 (hr.mono (by decide)) rfl g2 k2 b2 .nil pass0 (pa_cons (pv 2) (pa_cons (pv 9) (pa_cons (pe_dget1 hu (pv 1) (pe_tup (pa_cons (pv 6) (pa_cons (pv 8) pa_nil))) ⟨rfl, rfl, rfl, rfl⟩) (pa_cons (pv 7) pa_nil))))))
          (pss_one (ps_if (pt_cmpR op_notN (pv 10) pe_non (nomark _))
            (pss_cons (ps_dput hu (pv 5) (pe_tup (pa_cons (pv 6) (pa_cons (pv 8) pa_nil))) (pv 10) rfl)
            (pss_cons (ps_expr (pe_bm PySem.F.plainAttrs_list PySem.F.slot_list_append PySem.F.type_list_append mt_append (pe_dget hu (pv 3) (pv 6) (fun _ _ => rfl)) (pa_cons (pe_tup (pa_cons (pv 8) (pa_cons (pv 9) pa_nil))) pa_nil)))
            (pss_one (ps_set (i := 7) sc_reasons.nd rfl (.inl rfl) (pe_tup (pa_cons (pv 6) (pa_cons (pv 8) (pa_cons (pv 9) pa_nil)))))))) pss_nil)))))))))
      (pss_one (ps_ret (pv 5)))))), ?_⟩
    intro kp hkp bl hbl rd hrd
    have nkb : kp ≠ bl := fun e => by rw [← e, upd_same] at hbl; cases hbl
    have hbl0 : H bl = none := (Sm.new hkp).free hbl
    have hrd0 : H rd = none := ((Sm.new hkp).trans (Sm.new hbl)).free hrd
    have s1 : Sm H (upd (upd (upd H kp (.dK [])) bl (.dK [])) rd (.dT [])) := ((Sm.new hkp).trans (Sm.new hbl)).trans (Sm.new hrd)
    have e1 : upd (upd (upd H kp (.dK [])) bl (.dK [])) rd (.dT []) kp = some (.dK []) := (Sm.new hrd).dK ((Sm.new hbl).dK upd_same)
    have e2 : upd (upd (upd H kp (.dK [])) bl (.dK [])) rd (.dT []) bl = some (.dK []) := (Sm.new hrd).dK upd_same
    have e3 : upd (upd (upd H kp (.dK [])) bl (.dK [])) rd (.dT []) rd = some (.dT []) := upd_same
    generalize upd (upd (upd H kp (.dK [])) bl (.dK [])) rd (.dT []) = H1 at s1 e1 e2 e3
    have L1 := L.sm s1
    refine ⟨_, rfl, α .brs, _, S.brs.map (·.1), rfl, .inl L1.brs, enc_keys _, W.bks, fun p hp => ⟨p, rfl, ⟨_, SqL.of upd_same⟩, ?_⟩⟩
    have s2 : Sm H1 (upd H1 p (.lst ((S.brs.map (·.1)).map V.int))) := Sm.new hp
    have hpl : upd H1 p (.lst ((S.brs.map (·.1)).map V.int)) p = some (.lst ((S.brs.map (·.1)).map V.int)) := upd_same
    have e1 := s2.dK e1
    have e2 := s2.dK e2
    have e3 := s2.dT e3
    generalize upd H1 p (.lst ((S.brs.map (·.1)).map V.int)) = H2 at s2 hpl e1 e2 e3
    have s12 := s1.trans s2
    refine for_list (K := K) (a := p) (xs := (S.brs.map (·.1)).map V.int) (fun i σ H3 => (∃ x y z v u, σ = [some (.ref (α .brs)), some (.ref op), some (.str k), some (.ref kp), some (.ref bl), some (.ref rd), x, y, z, v, u]) ∧
        Sm H H3 ∧ H3 p = some (.lst ((S.brs.map (·.1)).map V.int)) ∧ Table H3 S kp bl (fun n _ => (keptB S.brs k os n).map (·.1)) (fun n _ => belowKS S.brs k os n) i ∧ ∃ e, H3 rd = some (.dT e) ∧ RsRep H3 e (reasonsTo S.brs k os i))
      ⟨⟨_, _, _, _, _, rfl⟩, s12, hpl, ⟨[], [], e1, e2, Nat.le_refl _, Nat.le_refl _, fun j n b hj => absurd hj (Nat.not_lt_zero _)⟩, [], e3, .nil⟩ (fun i σ H3 _ ⟨_, _, h, _⟩ => SqL.of h) ?_ ?_
    · rintro i x σ H3 hx ⟨⟨x0, y0, z0, v0, u0, rfl⟩, s3, h3p, ⟨kl, kb, hkl, hkb, ll1, ll2, tab⟩, e, he, hRs⟩
      have hil : i < S.brs.length := by
        have := (List.getElem?_eq_some_iff.mp hx).1
        simpa using this
      have hiB : i < 1000 := Nat.lt_of_lt_of_le hil W.cap.b
      obtain ⟨n, b, hi, rfl, hb⟩ := key_at W.bks hx
      -- kept[number] = []
      refine ⟨by show 0 ≤ sizeLine; exact Nat.zero_le _, fun z hz => ?_⟩
      have hz0 := s3.free hz
      have s4 : Sm H3 (upd H3 z (.lst [])) := Sm.new hz
      have z4 : upd H3 z (.lst []) z = some (.lst []) := upd_same
      have npz : p ≠ z := ne_of_none h3p hz
      generalize upd H3 z (.lst []) = H4 at s4 z4
      have h4k := s4.dK hkl
      refine ⟨_, rfl, _, rfl, _, _, rfl, DPut.k (k := Sum.inl n) h4k (small1000 (by omega)), ?_⟩
      have s5 : Sm H (upd H4 kp (.dK (putK kl (.inl n) (.ref z)))) := (Sm.refl H).own hkp (s3.trans s4) h4k (ntD _) _
      have n5 : ∀ b o, H4 b = some o → (∀ xs, o ≠ .dK xs) → upd H4 kp (.dK (putK kl (.inl n) (.ref z))) b = some o := fun b o e no => by rw [upd_ne (ne_of e h4k (no _))]; exact e
      have t5 : Tups H4 (upd H4 kp (.dK (putK kl (.inl n) (.ref z)))) := fun b xs e => n5 b _ e (fun _ y => by cases y)
      have k5 : upd H4 kp (.dK (putK kl (.inl n) (.ref z))) kp = some (.dK (putK kl (.inl n) (.ref z))) := upd_same
      have b5 : upd H4 kp (.dK (putK kl (.inl n) (.ref z))) bl = some (.dK kb) := by rw [upd_ne (Ne.symm nkb)]; exact s4.dK hkb
      have z5 := n5 _ _ z4 (fun _ y => by cases y)
      have p5 := n5 _ _ (s4.lst h3p) (fun _ y => by cases y)
      have r5 := n5 _ _ (s4.dT he) (fun _ y => by cases y)
      have R5 := RsRep.tups t5 (RsRep.tups s4.tups hRs)
      have nn : ∀ j m c, j < i → S.brs[j]? = some (m, c) → m ≠ n := fun j m c hj hc => by
        have pw := List.pairwise_iff_getElem.mp W.bks
        obtain ⟨hj', ej⟩ := List.getElem?_eq_some_iff.mp hc
        obtain ⟨hi', ei⟩ := List.getElem?_eq_some_iff.mp hi
        have := pw j i (by simpa using hj') (by simpa using hi') hj
        simp only [List.getElem_map, ej, ei] at this
        omega
      have row5 : ∀ j m c, j < i → S.brs[j]? = some (m, c) → (∃ a rs, valV (putK kl (.inl n) (.ref z)) (.inl m) = some (.ref a) ∧ a ≠ z ∧ upd H4 kp (.dK (putK kl (.inl n) (.ref z))) a = some (.lst rs) ∧ Cels (upd H4 kp (.dK (putK kl (.inl n) (.ref z)))) rs ((keptB S.brs k os m).map (·.1))) ∧
          ∃ vb, valV kb (.inl m) = some vb ∧ VerO (upd H4 kp (.dK (putK kl (.inl n) (.ref z)))) vb (belowKS S.brs k os m) := fun j m c hj hc => by
        obtain ⟨⟨a', rs', v1, v2, v3⟩, vb, w1, w2⟩ := tab j m c hj hc
        exact ⟨⟨a', rs', by rw [valV_put, if_neg (inl_ne (nn j m c hj hc))]; exact v1, ne_of_none v2 hz, n5 _ _ (s4.lst v2) (fun _ y => by cases y), (v3.tups s4.tups).tups t5⟩, vb, w1, (w2.tups s4.tups).tups t5⟩
      generalize upd H4 kp (.dK (putK kl (.inl n) (.ref z))) = H5 at s5 n5 t5 k5 b5 z5 p5 r5 R5 row5
      have L5 := L.sm s5
      -- below[number] = ..
      refine ⟨_, rfl, _, rfl, _, rfl, _, rfl, S, α, δ, J, G, kp, bl, n, b, belowKS S.brs k os n, rfl, L5, hb, ?_, fun H6 u s6 hu6 => ?_⟩
      · rw [belowKS_eq W k os hb]
        cases hq : b.ben with
        | none => rfl
        | some q =>
          obtain ⟨c, hc⟩ := (W.ben n b q hb hq).2
          obtain ⟨j, hj, hjc⟩ := brs_before W hc hi (W.ben n b q hb hq).1
          obtain ⟨⟨a', rs', v1, _, v2, v3⟩, vb, w1, w2⟩ := row5 j q c hj hjc
          exact ⟨(keptB S.brs k os q).map (·.1), belowKS S.brs k os q, ⟨_, kb, a', rs', vb, k5, b5, v1, v2, v3, w1, w2⟩, kept_rise W k os q, rfl⟩
      · have b6 := s6.dK b5
        refine ⟨_, rfl, _, rfl, _, _, rfl, DPut.k (k := Sum.inl n) b6 (small1000 (by omega)), ?_⟩
        have n7 : ∀ b o, H6 b = some o → (∀ xs, o ≠ .dK xs) → upd H6 bl (.dK (putK kb (.inl n) u)) b = some o := fun b o e no => by rw [upd_ne (ne_of e b6 (no _))]; exact e
        have t7 : Tups H6 (upd H6 bl (.dK (putK kb (.inl n) u))) := fun b xs e => n7 b _ e (fun _ y => by cases y)
        have s7 : Sm H (upd H6 bl (.dK (putK kb (.inl n) u))) := (Sm.refl H).own hbl0 (s5.trans s6) b6 (ntD _) _
        have b7 : upd H6 bl (.dK (putK kb (.inl n) u)) bl = some (.dK (putK kb (.inl n) u)) := upd_same
        have k7 : upd H6 bl (.dK (putK kb (.inl n) u)) kp = some (.dK (putK kl (.inl n) (.ref z))) := by rw [upd_ne nkb]; exact s6.dK k5
        have z7 := n7 _ _ (s6.lst z5) (fun _ y => by cases y)
        have p7 := n7 _ _ (s6.lst p5) (fun _ y => by cases y)
        have r7 := n7 _ _ (s6.dT r5) (fun _ y => by cases y)
        have R7 := RsRep.tups t7 (RsRep.tups s6.tups R5)
        have u7 := hu6.tups t7
        have row7 : ∀ j m c, j < i → S.brs[j]? = some (m, c) → (∃ a rs, valV (putK kl (.inl n) (.ref z)) (.inl m) = some (.ref a) ∧ a ≠ z ∧ upd H6 bl (.dK (putK kb (.inl n) u)) a = some (.lst rs) ∧ Cels (upd H6 bl (.dK (putK kb (.inl n) u))) rs ((keptB S.brs k os m).map (·.1))) ∧
            ∃ vb, valV (putK kb (.inl n) u) (.inl m) = some vb ∧ VerO (upd H6 bl (.dK (putK kb (.inl n) u))) vb (belowKS S.brs k os m) := fun j m c hj hc => by
          obtain ⟨⟨a', rs', v1, v2, v3, v4⟩, vb, w1, w2⟩ := row5 j m c hj hc
          exact ⟨⟨a', rs', v1, v2, n7 _ _ (s6.lst v3) (fun _ y => by cases y), (v4.tups s6.tups).tups t7⟩, vb, by rw [valV_put, if_neg (inl_ne (nn j m c hj hc))]; exact w1, (w2.tups s6.tups).tups t7⟩
        generalize upd H6 bl (.dK (putK kb (.inl n) u)) = H7 at n7 t7 s7 b7 k7 z7 p7 r7 R7 u7 row7
        have L7 := L.sm s7
        refine ⟨_, rfl, _, rfl, _, _, rfl, (by have := DGet.k (k := Sum.inl n) b7; rw [valV_put, if_pos rfl] at this; exact this), ?_⟩
        -- for born, value in ..
        refine ⟨_, rfl, _, rfl, _, _, rfl, L7.gBr1 hb, _, _, _, _, _, rfl, L7.br hb, C.B, C.bLn, rfl, _, rfl, .inl ⟨_, L7.lnsR hb⟩, _, rfl, by show 0 ≤ sizeLine; exact Nat.zero_le _, fun z2 hz2 => ?_⟩
        have s8 : Sm H7 (upd H7 z2 (.lst [])) := Sm.new hz2
        obtain ⟨o, rs, a, q1, q2, q3, q4, q5⟩ := L7.getLine hb k s8 upd_same
        have naz : a ≠ z := by
          rcases q5 with y | ⟨y1, y2⟩
          · rw [y]; exact (ne_of_none z7 hz2).symm
          · rw [y2]; exact L.nofr hz0 y1
        generalize upd H7 z2 (.lst []) = H8 at s8 q1 q3 q4
        refine ⟨o, q1, ?_⟩
        rw [q2]
        refine ⟨a, rfl, ⟨_, SqL.of q3⟩, ?_⟩
        have eK : keptB S.brs k os n = keepL k n (owOf os n) (belowKS S.brs k os n) (b.line k) := by rw [keptB_eq, lineAt_of hb]
        have f8 : InFix S (fun m _ => (keptB S.brs k os m).map (·.1)) (fun m _ => belowKS S.brs k os m) kp bl z p a ((S.brs.map (·.1)).map V.int) rs (b.line k) (putK kl (.inl n) (.ref z)) (putK kb (.inl n) u) i H8 :=
          ⟨s8.lst p7, q3, q4, s8.dK k7, s8.dK b7, fun j m c hj hc => by
            obtain ⟨⟨a', rs', v1, v2, v3, v4⟩, vb, w1, w2⟩ := row7 j m c hj hc
            exact ⟨⟨a', rs', v1, v2, s8.lst v3, v4.tups s8.tups⟩, vb, w1, w2.tups s8.tups⟩⟩
        refine for_list (K := K) (a := a) (xs := rs) (fun j σ H9 => ∃ ub x8 x9 x10 e9 ks, σ = [some (.ref (α .brs)), some (.ref op), some (.str k), some (.ref kp), some (.ref bl), some (.ref rd), some (.int n), some ub, x8, x9, x10] ∧ Sm H H9 ∧
            InFix S (fun m _ => (keptB S.brs k os m).map (·.1)) (fun m _ => belowKS S.brs k os m) kp bl z p a ((S.brs.map (·.1)).map V.int) rs (b.line k) (putK kl (.inl n) (.ref z)) (putK kb (.inl n) u) i H9 ∧
            H9 z = some (.lst ks) ∧ Cels H9 ks ((keepL k n (owOf os n) (belowKS S.brs k os n) ((b.line k).take j)).map (·.1)) ∧ H9 rd = some (.dT e9) ∧
            RsRep H9 e9 (reasonsTo S.brs k os i ++ rowsR n (keepL k n (owOf os n) (belowKS S.brs k os n) ((b.line k).take j))) ∧ VerO H9 ub (lastB n (belowKS S.brs k os n) (keepL k n (owOf os n) (belowKS S.brs k os n) ((b.line k).take j))) ∧ VerO H9 u (belowKS S.brs k os n))
          ⟨u, _, _, _, e, [], rfl, s7.trans s8, f8, s8.lst z7, .nil, s8.dT r7, (by rw [show rowsR n (keepL k n (owOf os n) (belowKS S.brs k os n) ((b.line k).take 0)) = [] from rfl, List.append_nil]; exact RsRep.tups s8.tups R7), u7.tups s8.tups, u7.tups s8.tups⟩
          (fun j σ H9 _ ⟨_, _, _, _, _, _, _, _, f9, _⟩ => SqL.of f9.ha) ?_ ?_
        · rintro j x σ H9 hx ⟨ub, x8, x9, x10, e9, ks, rfl, s9, f9, z9, hks, r9, R9, hub, hu9⟩
          have hjl : j < (b.line k).length := by
            have := (List.getElem?_eq_some_iff.mp hx).1
            rw [← f9.hc.length]; exact this
          have hc : (b.line k)[j]? = some (b.line k)[j] := List.getElem?_eq_getElem hjl
          generalize (b.line k)[j] = c at hc
          obtain ⟨t, ht1, ht2⟩ := f9.hc.get hc
          rw [hx] at ht1
          obtain rfl : x = V.ref t := Option.some.inj ht1
          have snoc := keepL_snoc k n (owOf os n) ((b.line k).take j) (belowKS S.brs k os n) c
          rw [← take_snoc hc] at snoc
          have hnew := row_new (k := k) (os := os) (be := belowKS S.brs k os n) (ow := owOf os n) W hi hb hc
          have hlen := kept_len W k n (owOf os n) (belowKS S.brs k os n) j hb
          have hrl := reasonsTo_len W k os i
          generalize hkp0 : keepL k n (owOf os n) (belowKS S.brs k os n) ((b.line k).take j) = kp0 at hks R9 hub snoc hnew hlen
          have h9op := s9.dT hop
          refine ⟨t, _, rfl, SqT.of ht2, rfl, _, _, rfl, _, _, rfl, rfl, ?_⟩
          refine ⟨_, rfl, _, rfl, _, rfl, op, rfl, .inr ⟨_, .inl h9op⟩, _, rfl, _, rfl, by show 2 ≤ sizeLine; decide, fun t1 hf1 => ?_⟩
          have s10 : Sm H9 (upd H9 t1 (.tup [.int n, .int c.1])) := Sm.new hf1
          have t1at : upd H9 t1 (.tup [.int n, .int c.1]) t1 = some (.tup ((cellKey (n, c.1)).map kV)) := upd_same
          generalize upd H9 t1 (.tup [.int n, .int c.1]) = H10 at s10 t1at
          refine ⟨_, DGet.t (s10.dT h9op) t1at, _, rfl, k, c.2, _, ub, owOf os n c.1, lastB n (belowKS S.brs k os n) kp0, rfl, ownGet (OwRep.tups (s9.trans s10).tups hOw) n c.1, hub.tups s10.tups, fun H11 wv s11 hw => ?_⟩
          have s911 := s10.trans s11
          cases hr11 : reasonM k c.2 (owOf os n c.1) (lastB n (belowKS S.brs k os n) kp0) with
          | none =>
            rw [hr11] at hw snoc
            have hw : wv = .non := hw
            subst hw
            dsimp only at snoc
            rw [List.append_nil] at snoc
            obtain ⟨f11, t11⟩ := f9.keep (H' := H11) r9 z9 npz naz fun b o q no _ _ => s911.keep b o q no
            refine ⟨_, rfl, rfl, _, rfl, ifF rfl ⟨ub, _, _, _, e9, ks, rfl, s9.trans s911, f11, s911.lst z9, ?_, s911.dT r9, ?_, ?_, hu9.tups t11⟩⟩
            · rw [snoc]; exact hks.tups t11
            · rw [snoc]; exact RsRep.tups t11 R9
            · rw [snoc]; exact hub.tups t11
          | some y =>
            rw [hr11] at hw snoc
            dsimp only at snoc
            obtain ⟨tw, rfl, _⟩ := id hw
            refine ⟨_, rfl, rfl, _, rfl, ifT rfl ?_⟩
            refine ⟨_, rfl, _, rfl, _, rfl, _, rfl, by show 2 ≤ sizeLine; decide, fun t2 hf2 => ?_⟩
            have s12 : Sm H11 (upd H11 t2 (.tup [.int n, .int c.1])) := Sm.new hf2
            have t2at : upd H11 t2 (.tup [.int n, .int c.1]) t2 = some (.tup ((cellKey (n, c.1)).map kV)) := upd_same
            generalize upd H11 t2 (.tup [.int n, .int c.1]) = H12 at s12 t2at
            have s912 := s911.trans s12
            have r12 := s912.dT r9
            have R12 := RsRep.tups s912.tups R9
            have hv12 : valV e9 (cellKey (n, c.1)) = none := by
              obtain ⟨q1, _⟩ := repVal (p := (n, c.1)) (R := RsnAt H12) R12
              cases q : valV e9 (cellKey (n, c.1)) with
              | none => rfl
              | some v =>
                obtain ⟨o', e', _⟩ := q1 v q
                rw [hnew] at e'; cases e'
            have e9l : e9.length ≤ 1001000 := by
              have := Paired.length R9
              rw [List.length_append] at this
              have e' : (rowsR n kp0).length = kp0.length := by unfold rowsR; rw [List.length_map]
              omega
            refine ⟨_, _, rfl, .inr ⟨e9, cellKey (n, c.1), t2, r12, rfl, t2at, Nat.lt_of_le_of_lt e9l (by rw [sizeLine_eq]; decide), rfl⟩, ?_⟩
            rw [putK_new _ hv12]
            have k13 : ∀ b o, H12 b = some o → b ≠ rd → upd H12 rd (.dT (e9 ++ [(cellKey (n, c.1), V.ref tw)])) b = some o := fun b o q nb => by rw [upd_ne nb]; exact q
            have s13 : Sm H (upd H12 rd (.dT (e9 ++ [(cellKey (n, c.1), V.ref tw)]))) := (Sm.refl H).own hrd0 (s9.trans s912) r12 (ntT _) _
            have r13 : upd H12 rd (.dT (e9 ++ [(cellKey (n, c.1), V.ref tw)])) rd = some (.dT (e9 ++ [(cellKey (n, c.1), V.ref tw)])) := upd_same
            generalize upd H12 rd (.dT (e9 ++ [(cellKey (n, c.1), V.ref tw)])) = H13 at k13 s13 r13
            have z13 : H13 z = some (.lst ks) := k13 _ _ (s912.lst z9) (ne_of (s912.lst z9) r12 (by intro q; cases q))
            have kp13 : H13 kp = some (.dK (putK kl (.inl n) (.ref z))) := k13 _ _ (s912.dK f9.hk) (ne_of (s912.dK f9.hk) r12 (by intro q; cases q))
            have dg13 : DGet H13 kp (.int n) (some (.ref z)) := by have := DGet.k (k := Sum.inl n) kp13; rw [valV_put, if_pos rfl] at this; exact this
            refine ⟨_, rfl, _, rfl, _, _, rfl, dg13, .inl ⟨rfl, _, SqL.of z13⟩, _, rfl, _, rfl, by show 2 ≤ sizeLine; decide, fun t3 hf3 => ?_⟩
            have s14 : Sm H13 (upd H13 t3 (.tup [.int c.1, optV c.2])) := Sm.new hf3
            have t3at : upd H13 t3 (.tup [.int c.1, optV c.2]) t3 = some (.tup [.int c.1, optV c.2]) := upd_same
            generalize upd H13 t3 (.tup [.int c.1, optV c.2]) = H14 at s14 t3at
            have z14 := s14.lst z13
            have ksl : ks.length ≤ 1000 := by
              have := Paired.length hks
              rw [List.length_map] at this
              omega
            refine ⟨z, ks, _, rfl, rfl, z14, small1000 ksl, ?_⟩
            have k15 : ∀ b o, H14 b = some o → b ≠ z → upd H14 z (.lst (ks ++ [V.ref t3])) b = some o := fun b o q nb => by rw [upd_ne nb]; exact q
            have s15 : Sm H (upd H14 z (.lst (ks ++ [V.ref t3]))) := (Sm.refl H).own hz0 (s13.trans s14) z14 (ntL _) _
            have z15 : upd H14 z (.lst (ks ++ [V.ref t3])) z = some (.lst (ks ++ [V.ref t3])) := upd_same
            generalize upd H14 z (.lst (ks ++ [V.ref t3])) = H15 at k15 s15 z15
            refine ⟨_, rfl, _, rfl, _, rfl, by show 3 ≤ sizeLine; decide, fun t4 hf4 => ?_⟩
            have s16 : Sm H15 (upd H15 t4 (.tup [.int n, .int c.1, optV c.2])) := Sm.new hf4
            have t4at : upd H15 t4 (.tup [.int n, .int c.1, optV c.2]) t4 = some (.tup [.int n, .int c.1, optV c.2]) := upd_same
            generalize upd H15 t4 (.tup [.int n, .int c.1, optV c.2]) = H16 at s16 t4at
            have k16 : ∀ b o, H12 b = some o → NT o → b ≠ rd → b ≠ z → H16 b = some o := fun b o q no n1 n2 => s16.keep _ _ (k15 _ _ (s14.keep _ _ (k13 _ _ q n1) no) n2) no
            obtain ⟨f16, t16⟩ := f9.keep (H' := H16) r9 z9 npz naz fun b o q no n1 n2 => k16 b o (s912.keep b o q no) no n1 n2
            have t1216 : Tups H12 H16 := fun b xs q => k16 b _ q (ntU _) (ne_of q r12 (by intro y; cases y)) (ne_of q (s912.lst z9) (by intro y; cases y))
            have t3_16 : H16 t3 = some (.tup [.int c.1, optV c.2]) := s16.tups _ _ (k15 _ _ t3at (ne_of t3at z14 (by intro y; cases y)))
            have r16 : H16 rd = some (.dT (e9 ++ [(cellKey (n, c.1), V.ref tw)])) := s16.dT (k15 _ _ (s14.dT r13) (ne_of (s14.dT r13) z14 (by intro y; cases y)))
            refine ⟨.ref t4, _, _, _, _, ks ++ [.ref t3], rfl, s15.trans s16, f16, s16.lst z15, ?_, r16, ?_, ?_, hu9.tups t16⟩
            · rw [snoc, List.map_append]
              exact Paired.snoc (hks.tups t16) ⟨t3, rfl, t3_16⟩
            · rw [snoc]
              unfold rowsR
              rw [List.map_append, ← List.append_assoc]
              exact Paired.snoc (RsRep.tups t16 R9) ⟨rfl, (RsnAt.tups s12.tups hw).tups t1216⟩
            · rw [snoc]
              unfold lastB
              rw [List.getLast?_append]
              exact ⟨t4, rfl, t4at⟩
        · rintro σ H9 ⟨ub, x8, x9, x10, e9, ks, rfl, s9, f9, z9, hks, r9, R9, hub, hu9⟩
          rw [f9.hc.length, List.take_length, ← eK] at hks R9
          refine ⟨⟨_, _, _, _, _, rfl⟩, s9, f9.hp, ⟨_, _, f9.hk, f9.hb, by have := putK_length kl (.inl n) (.ref z); omega, by have := putK_length kb (.inl n) u; omega, fun j m c hj hc => ?_⟩, e9, r9, ?_⟩
          · by_cases q : j = i
            · subst q
              rw [hi] at hc
              cases hc
              exact ⟨⟨z, ks, by rw [valV_put, if_pos rfl], z9, hks⟩, u, by rw [valV_put, if_pos rfl], hu9⟩
            · obtain ⟨⟨a', rs', v1, _, v3, v4⟩, vb, w1, w2⟩ := f9.rows j m c (by omega) hc
              exact ⟨⟨a', rs', v1, v3, v4⟩, vb, w1, w2⟩
          · rw [reasonsTo_succ hi]; exact R9
    · rintro σ H3 ⟨⟨x0, y0, z0, v0, u0, rfl⟩, s3, h3p, _, e, he, hRs⟩
      rw [show ((S.brs.map (·.1)).map V.int).length = S.brs.length by simp, reasonsTo_all] at hRs
      exact ⟨_, rfl, kq H3 rd e s3 hrd0 he hRs⟩
end
end Vs
namespace Vs
open PySem L2
section
variable {P : Program} {w : World} {K : PySem.W.Frag} {mg : Str → Option Value} {base : Heap} {T : Cs} {U : Es} {Pt : Addr}
/-! ### Judgement(owners, reasons), judge, judgement -/
def spJgInit (T : Cs) : Sp := fun vs H Q _ => ∃ (x dx : Addr) (u v : V), vs = [.ref x, u, v] ∧ H x = some (.ins T.J dx []) ∧ Q .non (upd H x (.ins T.J dx [("owners", u), ("reasons", v)]))
theorem sc_Jg_init : FnScope ["self", "owners", "reasons"] ["self", "owners", "reasons"] (defScope s_Judgement___init__) := ⟨rfl, rfl, rfl, by decide +kernel, rfl, by decide +kernel, by decide +kernel⟩
theorem ok_Jg_init {f : Addr} {fd : FuncData} (F : Fun K "__init__" "Judgement.__init__" s_Judgement___init__ f fd) (C : Cf K T) : FnOk P w K mg base CX0 1 f fd ["self", "owners", "reasons"] (spJgInit T) := by
  refine F.ok sc_Jg_init (fun vs H Q E h => ?_) (fun cdv A outer s H vs Q E hr h => ?_)
  · obtain ⟨x, dx, u, v, rfl, _⟩ := h
    rfl
  · obtain ⟨x, dx, u, v, rfl, hx, kq⟩ := h
    refine ⟨_, pss_cons (ps_fld (pv 0) (pv 1) rfl) (pss_one (ps_fld (pv 0) (pv 2) rfl)), ?_⟩
    refine ⟨_, rfl, _, rfl, x, T.J, dx, _, rfl, hx, C.J, C.jOw, by show 0 < 1000; decide, ?_⟩
    refine ⟨_, rfl, _, rfl, x, T.J, dx, _, rfl, upd_same, C.J, C.jRs, by show 1 < 1000; decide, ?_⟩
    rw [upd_upd]
    exact kq
def spJudge (T : Cs) : Sp := fun vs H Q _ => ∃ (Ks : List Str) (S : Sh) (α : Rl → Addr) (δ : Dl) (J : List Str) (G : Jud) (k : Str), vs = [.ref (α .brs), .ref (α .hns), .int S.now, .str k] ∧ Lay T H S α δ J G ∧ WF Ks S ∧
  ∀ H' x dx po pr eo er, Sm H H' → H x = none → H po = none → H pr = none → x ≠ po → x ≠ pr → po ≠ pr → H' x = some (.ins T.J dx [("owners", .ref po), ("reasons", .ref pr)]) → H' po = some (.dT eo) → OwRep H' eo (ownersM S k) →
    H' pr = some (.dT er) → RsRep H' er (reasonsM S k) → Q (.ref x) H'
theorem sc_judge : FnScope ["branches", "hands", "now", "key", "owners"] ["branches", "hands", "now", "key"] (defScope s_judge) := ⟨rfl, rfl, rfl, by decide +kernel, rfl, by decide +kernel, by decide +kernel⟩
theorem ok_judge {f : Addr} {fd : FuncData} (F : Fun K "judge" "judge" s_judge f fd) (c1 : Fx P w K mg base CX0 "first_owners" 4 ["branches", "hands", "now", "key"] (spFirst T)) (c2 : Fx P w K mg base CX0 "reasons_to_stay" 4 ["branches", "owners", "key"] (spReasons T))
    (c3 : Kx P w K mg base "Judgement" T.J 1 ["self", "owners", "reasons"] (spJgInit T)) : FnOk P w K mg base CX0 5 f fd ["branches", "hands", "now", "key"] (spJudge T) := by
  obtain ⟨f1, fd1, g1, k1, b1, G1⟩ := c1
  obtain ⟨f2, fd2, g2, k2, b2, G2⟩ := c2
  obtain ⟨f3, fd3, g3, m3, b3, G3⟩ := c3
  refine F.ok sc_judge (fun vs H Q E h => ?_) (fun cdv A outer s H vs Q E hr h => ?_)
  · obtain ⟨Ks, S, α, δ, J, G, k, rfl, _⟩ := h
    rfl
  · obtain ⟨Ks, S, α, δ, J, G, k, rfl, L, W, kq⟩ := h
    refine ⟨_, pss_cons (ps_set (i := 4) sc_judge.nd rfl (.inl rfl) (pe_call G1 hr rfl g1 k1 b1 .nil pass0 (pa_cons (pv 0) (pa_cons (pv 1) (pa_cons (pv 2) (pa_cons (pv 3) pa_nil))))))
      (pss_one (ps_ret (pe_make m3 G3 (hr.mono (by decide)) rfl g3 b3 .nil pass0 (pa_cons (pv 4) (pa_cons (pe_call G2 hr rfl g2 k2 b2 .nil pass0 (pa_cons (pv 0) (pa_cons (pv 4) (pa_cons (pv 3) pa_nil)))) pa_nil))))), ?_⟩
    refine ⟨_, rfl, _, rfl, _, rfl, _, rfl, Ks, S, α, δ, J, G, k, rfl, L, W, fun H1 po eo s1 hpo h1o hO => ?_⟩
    refine ⟨_, rfl, _, rfl, _, rfl, _, rfl, Ks, S, α, δ, J, G, k, po, eo, ownersM S k, rfl, L.sm s1, W, h1o, hO, fun H2 pr er s2 hpr h2r hR => ?_⟩
    intro x dx hx hdx ndx
    refine ⟨x, dx, _, _, rfl, upd_same, rfl, ?_⟩
    have s12 := s1.trans s2
    have s3 : Sm H2 (upd (upd (upd H2 dx (.own x)) x (.ins T.J dx [])) x (.ins T.J dx [("owners", .ref po), ("reasons", .ref pr)])) := by
      rw [upd_upd]
      exact Sm.of fun b o e => by rw [upd_ne (ne_of_none e hx), upd_ne (ne_of_none e hdx)]; exact e
    have h2o := s2.dT h1o
    exact kq _ x dx po pr eo er (s12.trans s3) (s12.free hx) hpo (s1.free hpr) (ne_of_none h2o hx).symm (ne_of_none h2r hx).symm (ne_of_none h1o hpr) upd_same (s3.dT h2o) ((OwRep.tups s2.tups hO).tups s3.tups) (s3.dT h2r) (RsRep.tups s3.tups hR)
def spJudgement (T : Cs) : Sp := fun vs H Q _ => ∃ (Ks : List Str) (S : Sh) (α : Rl → Addr) (δ : Dl) (J : List Str) (G : Jud) (k : Str), vs = [.ref (α .sh), .str k] ∧ Lay T H S α δ J G ∧ Right S J G ∧ WF Ks S ∧ J.length ≤ 1000 ∧
  ∀ H' α' δ' J' G', OffJg α α' → δ'.fz = δ.fz → Lay T H' S α' δ' J' G' → Right S J' G' → ((k ∈ J ∧ J' = J) ∨ (k ∉ J ∧ J' = J ++ [k])) → k ∈ J' → Step H (Foot S α J) H' (Foot S α' J') → Q (.ref (α' (.jg k))) H'
theorem sc_judgement : FnScope ["self", "key"] ["self", "key"] (defScope s_Shelf_judgement) := ⟨rfl, rfl, rfl, by decide +kernel, rfl, by decide +kernel, by decide +kernel⟩
theorem ok_judgement {f : Addr} {fd : FuncData} (F : Fun K "judgement" "Shelf.judgement" s_Shelf_judgement f fd) (C : Cf K T) (c1 : Fx P w K mg base CX0 "judge" 5 ["branches", "hands", "now", "key"] (spJudge T)) :
    FnOk P w K mg base CX0 6 f fd ["self", "key"] (spJudgement T) := by
  obtain ⟨f1, fd1, g1, k1, b1, G1⟩ := c1
  refine F.ok sc_judgement (fun vs H Q E h => ?_) (fun cdv A outer s H vs Q E hr h => ?_)
  · obtain ⟨Ks, S, α, δ, J, G, k, rfl, _⟩ := h
    rfl
  · obtain ⟨Ks, S, α, δ, J, G, k, rfl, L, R, W, hJ, kq⟩ := h
    have hu := hu_of hr
    refine ⟨_, pss_cons (ps_if (pt_cmp (pc_dnotin hu (pv 1) (pe_fld (pv 0) rfl)))
        (pss_one (ps_dput hu (pe_fld (pv 0) rfl) (pv 1) (pe_call G1 hr rfl g1 k1 b1 .nil pass0 (pa_cons (pe_fld (pv 0) rfl) (pa_cons (pe_fld (pv 0) rfl) (pa_cons (pe_fld (pv 0) rfl) (pa_cons (pv 1) pa_nil))))) rfl)) pss_nil)
      (pss_one (ps_ret (pe_dget hu (pe_fld (pv 0) rfl) (pv 1) (fun _ _ => rfl)))), ?_⟩
    have hg := L.gJd k
    refine ⟨_, rfl, _, rfl, _, _, _, _, _, rfl, L.sh, C.S, C.sJd, rfl, _, _, rfl, hg, _, rfl, ?_⟩
    by_cases hk : k ∈ J
    · rw [if_pos hk] at hg ⊢
      refine ifF rfl ⟨_, rfl, _, _, _, _, _, rfl, L.sh, C.S, C.sJd, rfl, _, rfl, _, _, rfl, hg, ?_⟩
      exact kq H α δ J G (fun _ _ => rfl) rfl L R (.inl ⟨hk, rfl⟩) hk (Step.refl _ _)
    · rw [if_neg hk]
      refine ifT rfl ?_
      refine ⟨_, rfl, _, _, _, _, _, rfl, L.sh, C.S, C.sBrs, rfl, _, rfl, _, _, _, _, _, rfl, L.sh, C.S, C.sHns, rfl, _, rfl, _, _, _, _, _, rfl, L.sh, C.S, C.sNow, rfl, _, rfl, ?_⟩
      refine ⟨Ks, S, α, δ, J, G, k, rfl, L, W, fun H1 x dx po pr eo er s1 hx hpo hpr n1 n2 n3 h1 h2 h2' h3 h3' => ?_⟩
      have L1 := L.sm s1
      refine ⟨_, rfl, _, _, _, _, _, rfl, L1.sh, C.S, C.sJd, rfl, _, rfl, _, _, rfl, DPut.k (k := Sum.inr k) L1.jd (by rw [List.length_map]; exact small1000 hJ), ?_⟩
      obtain ⟨L2, st⟩ := L.newJg hk hx hpo hpr n1 n2 n3 s1 h1 h2 h2' h3 h3'
      have kin : k ∈ J ++ [k] := List.mem_append.mpr (.inr (by simp))
      have g2 := L2.gJd k
      rw [if_pos kin] at g2
      refine ⟨_, rfl, _, _, _, _, _, rfl, L2.sh, C.S, C.sJd, rfl, _, rfl, _, _, rfl, g2, ?_⟩
      refine kq _ (aJg α k x po pr) ⟨fun r => if r = .jg k then dx else δ.d r, δ.fz⟩ (J ++ [k]) _ (fun r hr => ?_) rfl L2 (fun j hj => ?_) (.inr ⟨hk, rfl⟩) kin st
      · cases r with
        | jg j => exact absurd rfl (hr j).1
        | ow j => exact absurd rfl (hr j).2.1
        | rs j => exact absurd rfl (hr j).2.2
        | _ => rfl
      · show (if j = k then _ else _) = _
        by_cases z : j = k
        · rw [if_pos z, z]
        · rw [if_neg z]
          rcases List.mem_append.mp hj with y | y
          · exact R j y
          · exact absurd (by simpa using y) z
end
end Vs
/-! ## list(zip(xs, ys)): the zip's own tuple is out, each pair is new -/
namespace Vs
open PySem PySem.Spec PyProof.Rows
abbrev ZipF (h : Heap) (z TI TO T : Addr) (f : Bool) : Prop := h.get? z = some { cls := .type "zip", dict := none, data := .fields #[rawInt T, .bool f, .bool false, .ref TI, .ref TO], slots := #[] }
section
variable {prog : Program} {w : World} {A : Around} {E : Value → Shared → Prop} {s : Shared}
theorem owned_out {z TI TO T : Addr} {f : Bool} {oT : Obj} (hT : s.heap.get? T = some oT) (hz : ZipF s.heap z TI TO T f) :
    wpAny (model prog w) A (Builtin.SmallTypes.ownedTupleIsFree (.ref z)) (fun b s' => b = false ∧ ∃ h₁, s' = { s with heap := h₁ } ∧ ZipF h₁ z TI TO T true ∧ Heap.SameBut z s.heap h₁) E s := by
  unfold Builtin.SmallTypes.ownedTupleIsFree
  refine wpAny_bind (wpAny_field hz rfl (x := rawInt T) rfl ?_)
  show wpAny _ _ (loadIfAlive ((T : Int).toNat) >>= _) _ _ _
  rw [Int.toNat_natCast]
  refine wpAny_bind (PySem.W.kdx_alive hT ?_)
  simp only [Option.isNone_some, Bool.false_eq_true, if_false]
  refine wpAny_bind (wpAny_field hz rfl (x := .bool f) rfl ?_)
  cases f with
  | true =>
    rw [if_neg (show ¬ ((Value.bool true != Value.bool true) = true) from Bool.false_ne_true)]
    exact wpAny_pure ⟨rfl, s.heap, rfl, hz, Heap.SameBut.refl _ _⟩
  | false =>
    rw [if_pos (show (Value.bool false != Value.bool true) = true from rfl)]
    refine wpAny_bind (wpAny_setField_rec hz (by simp) fun h₁ e₁ s₁ => ?_)
    exact wpAny_pure ⟨rfl, h₁, rfl, e₁, s₁⟩
theorem zip_more {z TI TO T i1 i2 l1 l2 : Addr} {f : Bool} {k1 k2 : Nat} {xs ys : Array Value} {x y : Value} {oT : Obj} {Q : Value → Shared → Prop} (D : ZipApart z TI TO i1 i2 l1 l2) (nT : T ≠ z) (hT : s.heap.get? T = some oT)
    (hz : ZipF s.heap z TI TO T f) (hTI : IsPair s.heap TI (.ref i1) (.ref i2)) (h1 : s.heap.IsListIter i1 l1 k1) (h2 : s.heap.IsListIter i2 l2 k2) (hl1 : s.heap.IsList l1 xs) (hl2 : s.heap.IsList l2 ys) (hx : xs[k1]? = some x) (hy : ys[k2]? = some y)
    (hQ : ∀ h', ZipF h' z TI TO T true → h'.IsListIter i1 l1 (k1 + 1) → h'.IsListIter i2 l2 (k2 + 1) → IsPair h' s.heap.objs.size x y → h'.objs.size = s.heap.objs.size + 1 →
      (∀ c o, c ≠ z → c ≠ i1 → c ≠ i2 → s.heap.get? c = some o → h'.get? c = some o) → Q (.ref s.heap.objs.size) { s with heap := h' }) :
    wpAny (model prog w) A (Builtin.«zip.__next__» ⟨[.ref z], []⟩) (fun fin s' => ∃ v, fin = .done (.ret v) ∧ Q v s') E s := by
  show wpAny _ _ (field (.ref z) 2 >>= _) _ _ _
  refine wpAny_bind (wpAny_field hz rfl (x := .bool false) rfl ?_)
  show wpAny _ _ (field (.ref z) 3 >>= _) _ _ _
  refine wpAny_bind (wpAny_field hz rfl (x := .ref TI) rfl ?_)
  refine wpAny_bind (wpAny_seqItems hTI rfl ?_)
  show wpAny _ _ (Builtin.SmallTypes.ownedTupleIsFree (.ref z) >>= _) _ _ _
  refine wpAny_bind (wpAny_mono (owned_out hT hz) (fun b s' hb => ?_) fun _ _ e => e)
  obtain ⟨rfl, h₁, rfl, hz₁, hs₁⟩ := hb
  simp only [Bool.false_eq_true, if_false, List.forIn_toArray, List.forIn_cons, List.forIn_nil]
  refine wpAny_bind (wpAny_bind (wpAny_bind (wpAny_holding ?_)))
  show wpAny _ _ (Builtin.SmallTypes.nextOf (.ref i1) >>= _) _ _ _
  refine wpAny_bind (wpAny_nextOf_list_item (h1.extBut hs₁.extBut D.i1z) (hl1.extBut hs₁.extBut D.l1z) hx fun h₂ h1₂ hs₂ => wpAny_pure (wpAny_pure ?_))
  refine wpAny_bind (wpAny_bind (wpAny_holding ?_))
  show wpAny _ _ (Builtin.SmallTypes.nextOf (.ref i2) >>= _) _ _ _
  refine wpAny_bind (wpAny_nextOf_list_item ((h2.extBut hs₁.extBut D.i2z).extBut hs₂.extBut D.i12.symm) ((hl2.extBut hs₁.extBut D.l2z).extBut hs₂.extBut D.l2i1) hy fun h₃ h2₃ hs₃ => wpAny_pure (wpAny_pure (wpAny_pure ?_)))
  refine wpAny_bind (wpAny_newTuple ?_ (by show 2 ≤ sizeLine; decide))
  have size : h₃.objs.size = s.heap.objs.size := by rw [hs₃.1, hs₂.1, hs₁.1]
  have kp : ∀ c o, c ≠ z → c ≠ i1 → c ≠ i2 → s.heap.get? c = some o → h₃.get? c = some o := fun c o c1 c2 c3 e => hs₃.extBut _ _ c3 (hs₂.extBut _ _ c2 (hs₁.extBut _ _ c1 e))
  have hz₃ : ZipF h₃ z TI TO T true := hs₃.extBut _ _ D.i2z.symm (hs₂.extBut _ _ D.i1z.symm hz₁)
  have h1₃ : h₃.IsListIter i1 l1 (k1 + 1) := h1₂.extBut hs₃.extBut D.i12
  have tup : IsPair (h₃.push { cls := .type "tuple", data := .seq #[x, y] }) h₃.objs.size x y := Heap.get?_push_size _ rfl
  refine wpAny_pure ⟨_, rfl, ?_⟩
  show Q (.ref h₃.objs.size) _
  rw [size] at tup ⊢
  exact hQ _ (Heap.get?_push_of_some _ hz₃) (h1₃.at fun o e => Heap.get?_push_of_some _ e) (h2₃.at fun o e => Heap.get?_push_of_some _ e) tup (by rw [Heap.size_push, size]) fun c o c1 c2 c3 e => Heap.get?_push_of_some _ (kp c o c1 c2 c3 e)
theorem zip_over {z TI TO T i1 i2 l1 l2 : Addr} {f : Bool} {k1 k2 : Nat} {xs ys : Array Value} {oT : Obj} {Q : PySem.Fin → Shared → Prop} (hh : A.handled = none) (D : ZipApart z TI TO i1 i2 l1 l2) (hT : s.heap.get? T = some oT)
    (hz : ZipF s.heap z TI TO T f) (hTI : IsPair s.heap TI (.ref i1) (.ref i2)) (h1 : s.heap.IsListIter i1 l1 k1) (hl1 : s.heap.IsList l1 xs) (hx : xs[k1]? = none)
    (hE : ∀ h' e, (∀ c o, c ≠ z → c ≠ i1 → s.heap.get? c = some o → h'.get? c = some o) → (∃ o, h'.get? e = some o ∧ o.cls = .type "StopIteration") → E (.ref e) { s with heap := h' }) :
    wpAny (model prog w) A (Builtin.«zip.__next__» ⟨[.ref z], []⟩) Q E s := by
  show wpAny _ _ (field (.ref z) 2 >>= _) _ _ _
  refine wpAny_bind (wpAny_field hz rfl (x := .bool false) rfl ?_)
  show wpAny _ _ (field (.ref z) 3 >>= _) _ _ _
  refine wpAny_bind (wpAny_field hz rfl (x := .ref TI) rfl ?_)
  refine wpAny_bind (wpAny_seqItems hTI rfl ?_)
  show wpAny _ _ (Builtin.SmallTypes.ownedTupleIsFree (.ref z) >>= _) _ _ _
  refine wpAny_bind (wpAny_mono (owned_out hT hz) (fun b s' hb => ?_) fun _ _ e => e)
  obtain ⟨rfl, h₁, rfl, hz₁, hs₁⟩ := hb
  simp only [Bool.false_eq_true, if_false, List.forIn_toArray, List.forIn_cons, List.forIn_nil]
  refine wpAny_bind (wpAny_bind (wpAny_bind (wpAny_holding ?_)))
  show wpAny _ _ (Builtin.SmallTypes.nextOf (.ref i1) >>= _) _ _ _
  refine wpAny_bind (wpAny_nextOf_list_end hh (h1.extBut hs₁.extBut D.i1z) (hl1.extBut hs₁.extBut D.l1z) hx fun h₂ e hs₂ he => ?_)
  exact hE h₂ e (fun c o c1 c2 y => hs₂ _ _ c2 (hs₁.extBut _ _ c1 y)) he
end
end Vs
namespace Vs
open PySem PySem.Calls PySem.Spec PyProof.Rows PySem.W
theorem zip_nolen : typeLookup (.type "zip") "__len__" = pure none := by rw [typeLookup_type, builtinLookup_eq_fast]; kernel_rfl
theorem zip_nohint : typeLookup (.type "zip") "__length_hint__" = pure none := by rw [typeLookup_type, builtinLookup_eq_fast]; kernel_rfl
/-- a zip over two lists, i pairs told, its own tuple still held by the list S -/
structure Zt (z TI TO i1 i2 l1 l2 S : Addr) (xs ys : Array Value) (i : Nat) (h : Heap) : Prop where
  D : ZipApart z TI TO i1 i2 l1 l2
  nS : z ≠ S ∧ TI ≠ S ∧ TO ≠ S ∧ i1 ≠ S ∧ i2 ≠ S ∧ l1 ≠ S ∧ l2 ≠ S
  pr : IsPair h TI (.ref i1) (.ref i2)
  h1 : h.IsListIter i1 l1 i
  h2 : h.IsListIter i2 l2 i
  hl1 : h.IsList l1 xs
  hl2 : h.IsList l2 ys
  st : (i = 0 ∧ IsZip h z TI TO .none ∧ ∃ a b, IsPair h TO a b) ∨ ∃ T f oT, ZipF h z TI TO T f ∧ h.get? T = some oT ∧ T ≠ z ∧ T ≠ i1 ∧ T ≠ i2 ∧ T ≠ S
section
variable {prog : Program} {w : World} {A : Around} {E : Value → Shared → Prop} {s : Shared} {z TI TO i1 i2 l1 l2 S : Addr} {xs ys : Array Value} {i : Nat}
theorem Zt.keep {h h' : Heap} (Z : Zt z TI TO i1 i2 l1 l2 S xs ys i h) (k : ∀ b o, b ≠ S → h.get? b = some o → h'.get? b = some o) : Zt z TI TO i1 i2 l1 l2 S xs ys i h' := by
  obtain ⟨D, nS, pr, h1, h2, hl1, hl2, st⟩ := Z
  obtain ⟨n1, n2, n3, n4, n5, n6, n7⟩ := id nS
  refine ⟨D, nS, k _ _ n2 pr, h1.at fun o e => k _ o n4 e, h2.at fun o e => k _ o n5 e, hl1.at fun o e => k _ o n6 e, hl2.at fun o e => k _ o n7 e, ?_⟩
  rcases st with ⟨e, hz, a, b, ht⟩ | ⟨T, f, oT, hz, hT, t1, t2, t3, t4⟩
  · exact .inl ⟨e, k _ _ n1 hz, a, b, k _ _ n3 ht⟩
  · exact .inr ⟨T, f, oT, k _ _ n1 hz, k _ _ t4 hT, t1, t2, t3, t4⟩
theorem zt_item {x y : Value} {Q : Option Value → Shared → Prop} (Z : Zt z TI TO i1 i2 l1 l2 S xs ys i s.heap) (hS : S < s.heap.objs.size) (hx : xs[i]? = some x) (hy : ys[i]? = some y)
    (hQ : ∀ h', Zt z TI TO i1 i2 l1 l2 S xs ys (i + 1) h' → IsPair h' s.heap.objs.size x y → h'.objs.size = s.heap.objs.size + 1 → (∀ b o, b ≠ z → b ≠ TO → b ≠ i1 → b ≠ i2 → s.heap.get? b = some o → h'.get? b = some o) → Q (some (.ref s.heap.objs.size)) { s with heap := h' }) :
    wpAny (model prog w) A (pyNext (.ref z)) Q E s := by
  obtain ⟨D, nS, pr, h1, h2, hl1, hl2, st⟩ := Z
  rcases st with ⟨e, hz, a, b, ht⟩ | ⟨T, f, oT, hz, hT, t1, t2, t3, t4⟩
  · have i1l : i1 < s.heap.objs.size := by obtain ⟨_, q, _⟩ := h1; exact Heap.lt_size q
    have i2l : i2 < s.heap.objs.size := by obtain ⟨_, q, _⟩ := h2; exact Heap.lt_size q
    have zl : z < s.heap.objs.size := Heap.lt_size hz
    refine wpAny_pyNext_zip_item D hz pr ht h1 h2 hl1 hl2 hx hy fun h' a1 a2 a3 a4 a5 a6 k => hQ h' ⟨D, nS, k _ _ D.TIz D.TITO D.TIi1 D.TIi2 pr, a3, a4, hl1.at fun o e => k _ o D.l1z D.l1TO D.l1i1 D.l1i2 e, hl2.at fun o e => k _ o D.l2z D.l2TO D.l2i1 D.l2i2 e,
      .inr ⟨_, false, _, a1, a5, Nat.ne_of_gt zl, Nat.ne_of_gt i1l, Nat.ne_of_gt i2l, Nat.ne_of_gt hS⟩⟩ a5 a6 k
  · have hTy : s.TypeIs (.ref z) "zip" := ⟨_, hz, rfl⟩
    unfold pyNext
    refine wpAny_bind (wpAny_attempt (wpAny_callSpecial?_slot (name := Str.ofString "__next__") hTy F.slot_zip_next (wpAny_call_entry F.slot_zip_next hTy F.entry_zip_next
      (zip_more D t1 hT hz pr h1 h2 hl1 hl2 hx hy fun h' a1 a3 a4 a5 a6 k => wpAny_pure (hQ h' ⟨D, nS, k _ _ D.TIz D.TIi1 D.TIi2 pr, a3, a4, hl1.at fun o e => k _ o D.l1z D.l1i1 D.l1i2 e, hl2.at fun o e => k _ o D.l2z D.l2i1 D.l2i2 e,
        .inr ⟨T, true, oT, a1, k _ _ t1 t2 t3 hT, t1, t2, t3, t4⟩⟩ a5 a6 fun b o c1 _ c3 c4 e => k b o c1 c3 c4 e)) (F.args_zip_next_1 _))))
theorem zt_done {Q : Option Value → Shared → Prop} (hh : A.handled = none) (Z : Zt z TI TO i1 i2 l1 l2 S xs ys i s.heap) (hx : xs[i]? = none)
    (hQ : ∀ h', (∀ b o, b ≠ z → b ≠ TO → b ≠ i1 → b ≠ i2 → s.heap.get? b = some o → h'.get? b = some o) → Q none { s with heap := h' }) : wpAny (model prog w) A (pyNext (.ref z)) Q E s := by
  obtain ⟨D, nS, pr, h1, h2, hl1, hl2, st⟩ := Z
  rcases st with ⟨e, hz, a, b, ht⟩ | ⟨T, f, oT, hz, hT, t1, t2, t3, t4⟩
  · exact wpAny_pyNext_zip_end hh D hz pr ht h1 h2 hl1 hl2 (.inl hx) hQ
  · have hTy : s.TypeIs (.ref z) "zip" := ⟨_, hz, rfl⟩
    unfold pyNext
    refine wpAny_bind (wpAny_attempt (wpAny_callSpecial?_slot (name := Str.ofString "__next__") hTy F.slot_zip_next (wpAny_call_entry F.slot_zip_next hTy F.entry_zip_next
      (zip_over (ys := ys) (k2 := i) hh D hT hz pr h1 hl1 hx fun h' e k he => ?_) (F.args_zip_next_1 _))))
    obtain ⟨o, ho, hc⟩ := he
    exact wpAny_bind (wpAny_isInstance (T := "StopIteration") (b := true) ⟨o, ho, hc⟩ isSubtype_stop (wpAny_pure (hQ _ fun b o c1 _ c3 _ q => k b o c1 c3 q)))
theorem zt_hint (hT : s.TypeIs (.ref z) "zip") {Q : Bool → Shared → Prop} (q : Q true s) : wpAny (model prog w) A (Builtin.List.listLengthHint (.ref z)) Q E s := by
  unfold Builtin.List.listLengthHint
  refine wpAny_bind (wpAny_specialOf hT zip_nolen ?_)
  wp_delta
  refine wpAny_ite_split (fun y => absurd y (by decide)) (fun _ => ?_)
  refine wpAny_ite_split (fun y => absurd y (by decide)) (fun _ => ?_)
  exact wpAny_bind (wpAny_specialOf hT zip_nohint (wpAny_pure q))
end
section
variable {prog : Program} {w : World} {A : Around} {E : Value → Shared → Prop} {s : Shared} {z TI TO i1 i2 l1 l2 S lo : Addr} {xs ys : Array Value} {vs : List (L2.Key × Value)}
def Zv (prog : Program) (w : World) (vs : List (L2.Key × Value)) (xs ys : Array Value) : Prop := vs.length = xs.size ∧ ∀ (j : Nat) (k : L2.Key) (v : Value), vs[j]? = some (k, v) → ∃ key, xs[j]? = some key ∧ (L2.mixKind prog w).is k key = true ∧ ys[j]? = some v
theorem zt_loop {R : Result → Shared → Prop} (hh : A.handled = none) (lim : vs.length ≤ sizeLine) (V : Zv prog w vs xs ys) (res : Value) {hb : Heap} (lw : S < lo ∧ z < lo ∧ TO < lo ∧ i1 < lo ∧ i2 < lo) (fin : ∀ h' tk acc c (as : List Addr), (∀ b o, b ≠ S → b ≠ z → b ≠ TO → b ≠ i1 → b ≠ i2 → hb.get? b = some o → h'.get? b = some o) →
      h'.get? S = some { cls := .type "list", dict := none, data := .seq acc c, slots := #[] } → as.length = vs.length → (as.Pairwise (· < ·)) → (∀ a ∈ as, lo ≤ a) → (∀ (j : Nat) (a : Addr), as[j]? = some a → ∃ key k x, vs[j]? = some (k, x) ∧ (L2.mixKind prog w).is k key = true ∧ h'.get? a = some { cls := .type "tuple", data := .seq #[key, x] }) →
      acc.toList = as.map Value.ref → R (.ok (.ret res)) { s with heap := h', toks := tk }) :
    ∀ (m i : Nat) (h : Heap) (tk c : Nat) (acc : Array Value) (as : List Addr), vs.length - i = m → i ≤ vs.length → Zt z TI TO i1 i2 l1 l2 S xs ys i h → (∀ b o, b ≠ S → b ≠ z → b ≠ TO → b ≠ i1 → b ≠ i2 → hb.get? b = some o → h.get? b = some o) →
      h.get? S = some { cls := .type "list", dict := none, data := .seq acc c, slots := #[] } → acc.toList = as.map Value.ref → as.length = i → (as.Pairwise (· < ·)) → (∀ a ∈ as, lo ≤ a ∧ a < h.objs.size) →
      (∀ (j : Nat) (a : Addr), as[j]? = some a → ∃ key k x, vs[j]? = some (k, x) ∧ (L2.mixKind prog w).is k key = true ∧ h.get? a = some { cls := .type "tuple", data := .seq #[key, x] }) → lo ≤ h.objs.size →
      codeAny (model prog w) A (.builtin "list.extend.loop" ⟨[.ref S, .ref z, res], []⟩) R { s with heap := h, toks := tk } := by
  obtain ⟨w1, w2, w3, w4, w5⟩ := lw
  intro m
  induction m with
  | zero =>
    intro i h tk c acc as hm hi Z kp hS hacc hal rise above prs hlo
    have hin : i = vs.length := by omega
    obtain ⟨nz, nTI, nTO, ni1, ni2, nl1, nl2⟩ := Z.nS
    refine codeAny_builtin PySem.F.entry_extend_loop ?_
    rw [Around.under_plainId PySem.F.plain_extend_loop _]
    show wpAny _ A.in1 (pyNext (.ref z) >>= _) _ _ _
    refine wpAny_bind (zt_done (s := { s with heap := h, toks := tk }) (A := A.in1) hh Z (Array.getElem?_eq_none (by rw [← V.1]; omega)) fun h' k' => ?_)
    refine wpAny_pure (fin h' tk acc c as (fun b o b1 b2 b3 b4 b5 e => k' b o b2 b3 b4 b5 (kp b o b1 b2 b3 b4 b5 e)) (k' S _ nz.symm nTO.symm ni1.symm ni2.symm hS) (by omega) rise (fun a ha => (above a ha).1) (fun j a hj => ?_) hacc)
    obtain ⟨key, kk, x, e1, e2, e3⟩ := prs j a hj
    have la := (above a (List.mem_of_getElem? hj)).1
    exact ⟨key, kk, x, e1, e2, k' a _ (Nat.ne_of_gt (Nat.lt_of_lt_of_le w2 la)) (Nat.ne_of_gt (Nat.lt_of_lt_of_le w3 la)) (Nat.ne_of_gt (Nat.lt_of_lt_of_le w4 la)) (Nat.ne_of_gt (Nat.lt_of_lt_of_le w5 la)) e3⟩
  | succ m ih =>
    intro i h tk c acc as hm hi Z kp hS hacc hal rise above prs hlo
    have hlt : i < vs.length := by omega
    obtain ⟨nz, nTI, nTO, ni1, ni2, nl1, nl2⟩ := Z.nS
    obtain ⟨key, hx, hkey, hy⟩ := V.2 i vs[i].1 vs[i].2 (List.getElem?_eq_getElem hlt)
    have hsz : acc.size = i := by rw [← Array.length_toList, hacc, List.length_map, hal]
    refine codeAny_builtin PySem.F.entry_extend_loop ?_
    rw [Around.under_plainId PySem.F.plain_extend_loop _]
    show wpAny _ A.in1 (pyNext (.ref z) >>= _) _ _ _
    refine wpAny_bind (zt_item (s := { s with heap := h, toks := tk }) Z (Heap.lt_size hS) hx hy fun h' Z' tp sz k' => ?_)
    dsimp only at tp sz k' ⊢
    have hS' := k' S _ nz.symm nTO.symm ni1.symm ni2.symm hS
    have up : ∀ b o, b ≠ S → h'.get? b = some o → (h'.update S (Obj.mapSeq (·.push (Value.ref h.objs.size)))).get? b = some o := fun b o n e => (Heap.get?_update_other _ _ (Ne.symm n)).trans e
    have hSl : S < h.objs.size := Heap.lt_size hS
    have sz2 : ∀ {a : Addr}, a < h.objs.size + 1 → a < (h'.update S (Obj.mapSeq (·.push (Value.ref h.objs.size)))).objs.size := fun {a} la => by
      have e : (h'.update S (Obj.mapSeq (·.push (Value.ref h.objs.size)))).get? h.objs.size = _ := up _ _ (Nat.ne_of_gt hSl) tp
      exact Nat.lt_of_le_of_lt (Nat.le_of_lt_succ la) (Heap.lt_size e)
    show wpAny _ A.in1 (updateSeq S (·.push (Value.ref h.objs.size)) >>= _) _ _ _
    refine wpAny_bind ?_
    refine wpAny_updateSeq hS' rfl (wpAny_pure ⟨plainId_quiet PySem.F.plain_extend_loop _, ih (i + 1) _ tk _ (acc.push (Value.ref h.objs.size)) (as ++ [h.objs.size]) (by omega) hlt (Z'.keep up)
      (fun b o b1 b2 b3 b4 b5 e => up b o b1 (k' b o b2 b3 b4 b5 (kp b o b1 b2 b3 b4 b5 e))) (Heap.get?_update_self _ hS' rfl) (by rw [Array.toList_push, hacc, List.map_append]; rfl) (by rw [List.length_append, hal]; rfl) ?_ ?_ ?_ ?_⟩) (by rw [hsz]; omega) (by show (acc.push (Value.ref h.objs.size)).size ≤ sizeLine + 1; rw [Array.size_push, hsz]; omega)
    · refine List.pairwise_append.mpr ⟨rise, List.pairwise_singleton _ _, fun a ha b hb => ?_⟩
      rw [List.mem_singleton.mp hb]
      exact (above a ha).2
    · intro a ha
      rcases List.mem_append.mp ha with ha | ha
      · exact ⟨(above a ha).1, sz2 (Nat.lt_succ_of_lt (above a ha).2)⟩
      · rw [List.mem_singleton.mp ha]; exact ⟨hlo, sz2 (Nat.lt_succ_self _)⟩
    · intro j b hj
      rcases Nat.lt_trichotomy j as.length with q | q | q
      · rw [List.getElem?_append_left q] at hj
        obtain ⟨key', k0, x', e1, e2, e3⟩ := prs j b hj
        have la := (above b (List.mem_of_getElem? hj)).1
        exact ⟨key', k0, x', e1, e2, up b _ (Nat.ne_of_gt (Nat.lt_of_lt_of_le w1 la)) (k' b _ (Nat.ne_of_gt (Nat.lt_of_lt_of_le w2 la)) (Nat.ne_of_gt (Nat.lt_of_lt_of_le w3 la)) (Nat.ne_of_gt (Nat.lt_of_lt_of_le w4 la)) (Nat.ne_of_gt (Nat.lt_of_lt_of_le w5 la)) e3)⟩
      · subst q
        have eb : h.objs.size = b := by simpa using hj
        subst eb
        exact ⟨key, _, _, by rw [hal]; exact List.getElem?_eq_getElem hlt, hkey, up _ _ (Nat.ne_of_gt hSl) tp⟩
      · have hnone : (as ++ [h.objs.size])[j]? = none := List.getElem?_eq_none (by rw [List.length_append, List.length_singleton]; omega)
        rw [hnone] at hj; cases hj
    · exact Nat.le_of_lt (sz2 (Nat.lt_succ_of_le hlo))
/-- list(z) of a fresh zip -/
theorem zt_call {Q : Value → Shared → Prop} (hh : A.handled = none) (D : ZipApart z TI TO i1 i2 l1 l2) (hz : IsZip s.heap z TI TO .none) (pr : IsPair s.heap TI (.ref i1) (.ref i2)) {ta tb : Value} (ht : IsPair s.heap TO ta tb) (h1 : s.heap.IsListIter i1 l1 0) (h2 : s.heap.IsListIter i2 l2 0) (hl1 : s.heap.IsList l1 xs) (hl2 : s.heap.IsList l2 ys)
    (lim : vs.length ≤ sizeLine) (V : Zv prog w vs xs ys)
    (hQ : ∀ h' tk acc c as, (∀ b o, b ≠ z → b ≠ TO → b ≠ i1 → b ≠ i2 → s.heap.get? b = some o → h'.get? b = some o) → h'.get? s.heap.objs.size = some { cls := .type "list", dict := none, data := .seq acc c, slots := #[] } → as.length = vs.length → KdxG (L2.mixKind prog w) vs s.heap.objs.size h' as →
      acc.toList = as.map Value.ref → Q (.ref s.heap.objs.size) { s with heap := h', toks := tk }) :
    wpAny (model prog w) A (call (.type "list") [.ref z]) Q E s := by
  refine callType_codes (Q₁ := fun obj t => obj = .ref s.heap.objs.size ∧ t = { s with heap := s.heap.push { cls := .type "list", data := .seq #[] } }) PySem.F.called_list (PySem.F.typeCall_list_1 _) PySem.F.entry_list_init
    (code_list_new _ ⟨rfl, rfl⟩) fun obj t ⟨ea, eb⟩ => ?_
  subst ea; subst eb
  have hS : (s.heap.push { cls := .type "list", data := .seq #[] }).get? s.heap.objs.size = some { cls := .type "list", data := .seq #[] } := Heap.get?_push_size _ rfl
  have lz : z < s.heap.objs.size := Heap.lt_size hz
  have lTI : TI < s.heap.objs.size := Heap.lt_size pr
  have lTO : TO < s.heap.objs.size := Heap.lt_size ht
  have li1 : i1 < s.heap.objs.size := by obtain ⟨_, q, _⟩ := h1; exact Heap.lt_size q
  have li2 : i2 < s.heap.objs.size := by obtain ⟨_, q, _⟩ := h2; exact Heap.lt_size q
  have ll1 : l1 < s.heap.objs.size := by obtain ⟨_, q, _⟩ := hl1; exact Heap.lt_size q
  have ll2 : l2 < s.heap.objs.size := by obtain ⟨_, q, _⟩ := hl2; exact Heap.lt_size q
  have sp : (s.heap.push { cls := .type "list", data := .seq #[] }).objs.size = s.heap.objs.size + 1 := Heap.size_push ..
  refine ⟨⟨_, hS, rfl⟩, PySem.F.args_list_init_2 _ _, ?_⟩
  show wpAny _ _ (do let old ← Builtin.List.listItems (.ref s.heap.objs.size); Builtin.List.listUpdate (.ref s.heap.objs.size) (fun _ => #[]); letGo old.toList.reverse; Builtin.List.listExtendWith (.ref s.heap.objs.size) (.ref z) .none) _ _ _
  refine wpAny_bind ?_
  unfold Builtin.List.listItems
  refine wpAny_bind (wpAny_seqItems hS rfl (wpAny_pure ?_))
  show wpAny _ _ (updateSeq s.heap.objs.size (fun _ => #[]) >>= fun _ => letGo (#[] : Array Value).toList.reverse >>= fun _ => Builtin.List.listExtendWith (.ref s.heap.objs.size) (.ref z) .none) _ _ _
  refine wpAny_bind (wpAny_updateSeq hS rfl ?_)
  have hS2 := Heap.get?_update_self (Obj.mapSeq (fun _ => (#[] : Array Value))) hS rfl
  have oth2 : ∀ b o, b ≠ s.heap.objs.size → s.heap.get? b = some o → ((s.heap.push { cls := .type "list", data := .seq #[] }).update s.heap.objs.size (Obj.mapSeq (fun _ => (#[] : Array Value)))).get? b = some o :=
    fun b o n e => (Heap.get?_update_other _ _ (Ne.symm n)).trans (Heap.get?_push_of_some _ e)
  have sz2 : s.heap.objs.size + 1 ≤ ((s.heap.push { cls := .type "list", data := .seq #[] }).update s.heap.objs.size (Obj.mapSeq (fun _ => (#[] : Array Value)))).objs.size := Heap.lt_size hS2
  refine wpAny_bind (wpAny_letGo ?_)
  dsimp only
  generalize (s.heap.push { cls := .type "list", data := .seq #[] }).update s.heap.objs.size (Obj.mapSeq (fun _ => (#[] : Array Value))) = g2 at hS2 oth2 sz2 ⊢
  unfold Builtin.List.listExtendWith
  have hz2 : IsZip g2 z TI TO .none := oth2 z _ (Nat.ne_of_lt lz) hz
  have hTy : Shared.TypeIs { s with heap := g2 } (.ref z) "zip" := ⟨_, hz2, rfl⟩
  refine wpAny_bind (wpAny_typeOf (T := "zip") hTy ?_)
  have q1 : Builtin.List.listSameRef (.ref s.heap.objs.size) (.ref z) = false := by
    have : (s.heap.objs.size == z) = false := by simpa using Nat.ne_of_gt lz
    simpa [Builtin.List.listSameRef] using this
  have q2 : (Value.type "zip" == Value.type "list") = false := by decide
  have q3 : (Value.type "zip" == Value.type "tuple") = false := by decide
  simp only [q1, q2, q3, Bool.or_false, Bool.false_eq_true, if_false]
  refine wpAny_bind (wpAny_pyIter_zip hz2 ?_)
  refine wpAny_bind (wpAny_holding (zt_hint hTy ?_))
  refine wpAny_ite_split (fun _ => ?_) (fun y => absurd rfl y)
  refine wpAny_bind (wpAny_rule ?_)
  refine wpAny_bind ?_
  show wpAny _ _ (updateSeq s.heap.objs.size (·.push .none) >>= fun _ => updateSeq s.heap.objs.size (·.pop)) _ _ _
  refine wpAny_bind (wpAny_updateSeq hS2 rfl ?_)
  have hS3 := Heap.get?_update_self (Obj.mapSeq (·.push Value.none)) hS2 rfl
  refine wpAny_updateSeq (hz := by seq_fits) hS3 rfl ?_
  have hS4 := Heap.get?_update_self (Obj.mapSeq (·.pop)) hS3 rfl
  have oth4 : ∀ b o, b ≠ s.heap.objs.size → s.heap.get? b = some o → ((g2.update s.heap.objs.size (Obj.mapSeq (·.push Value.none))).update s.heap.objs.size (Obj.mapSeq (·.pop))).get? b = some o :=
    fun b o n e => (Heap.get?_update_other _ _ (Ne.symm n)).trans ((Heap.get?_update_other _ _ (Ne.symm n)).trans (oth2 b o n e))
  have sz4 : s.heap.objs.size + 1 ≤ ((g2.update s.heap.objs.size (Obj.mapSeq (·.push Value.none))).update s.heap.objs.size (Obj.mapSeq (·.pop))).objs.size := Heap.lt_size hS4
  dsimp only
  generalize ((g2.update s.heap.objs.size (Obj.mapSeq (·.push Value.none))).update s.heap.objs.size (Obj.mapSeq (·.pop))) = g4 at hS4 oth4 sz4 ⊢
  refine wpAny_pure ⟨plainId_quiet PySem.F.plain_extend_loop _, ?_⟩
  refine zt_loop (s := s) (xs := xs) (ys := ys) (hb := s.heap) (lo := s.heap.objs.size + 1) (A := A.in1) hh lim V .none ⟨Nat.lt_succ_self _, Nat.lt_succ_of_lt lz, Nat.lt_succ_of_lt lTO, Nat.lt_succ_of_lt li1, Nat.lt_succ_of_lt li2⟩ (fun h' tk acc c as k hS' hl rise above prs hacc => ?_)
    vs.length 0 g4 _ _ #[] [] (Nat.sub_zero _) (Nat.zero_le _) ⟨D, ⟨Nat.ne_of_lt lz, Nat.ne_of_lt lTI, Nat.ne_of_lt lTO, Nat.ne_of_lt li1, Nat.ne_of_lt li2, Nat.ne_of_lt ll1, Nat.ne_of_lt ll2⟩, oth4 _ _ (Nat.ne_of_lt lTI) pr,
      h1.at fun o e => oth4 _ o (Nat.ne_of_lt li1) e, h2.at fun o e => oth4 _ o (Nat.ne_of_lt li2) e, hl1.at fun o e => oth4 _ o (Nat.ne_of_lt ll1) e, hl2.at fun o e => oth4 _ o (Nat.ne_of_lt ll2) e, .inl ⟨rfl, oth4 _ _ (Nat.ne_of_lt lz) hz, ta, tb, oth4 _ _ (Nat.ne_of_lt lTO) ht⟩⟩
    (fun b o b1 b2 b3 b4 b5 e => oth4 b o b1 e) hS4 rfl rfl List.Pairwise.nil (fun _ y => nomatch y) (fun j a hj => by simp at hj) sz4
  exact ⟨rfl, hQ h' tk acc c as (fun b o b2 b3 b4 b5 e => k b o (Nat.ne_of_lt (Heap.lt_size e)) b2 b3 b4 b5 e) hS' hl ⟨rise, fun a ha => above a ha, prs⟩ hacc⟩
end
end Vs
namespace Vs
open PySem PySem.Spec PyProof.Rows L2
/-! ## the pairs and the list tracked -/
def tupsAt (hp : Hp) (ts : List Addr) (ps : List (Key × V)) : Prop := Paired (fun (t : Addr) (q : Key × V) => hp t = some (.tup [kV q.1, q.2])) ts ps
section
variable {X : Cx} {e1 e2 : Expr} {ta : TA} {p zp zpos pos : Pos}
theorem pairs_laid {pins : List (Addr × Obj)} {σ : L2.St} {H : Hp} {s : Shared} {g : Heap} {tk : Nat} {ps : List (Key × V)} {us : List (Key × Value)} {arr : Array Value} {c : Nat} {ts : List Addr} {S : Addr} (I : Inv X pins σ H s) (small : ps.length ≤ sizeLine) (kv : KV ps us) (fr : s.heap.objs.size ≤ S)
    (kept : ∀ b o, s.heap.get? b = some o → g.get? b = some o) (atS : g.get? S = some { cls := .type "list", dict := none, data := .seq arr c, slots := #[] }) (len : ts.length = us.length) (Gd : PySem.W.KdxG (mixKind X.prog X.w) us S g ts) (isr : arr.toList = ts.map Value.ref) :
    ∃ H' : Hp, Same H H' ∧ H S = none ∧ (∀ t ∈ ts, H t = none) ∧ S ∉ ts ∧ H' S = some (.lst (ts.map V.ref)) ∧ tupsAt H' ts ps ∧ Inv X pins σ H' { s with heap := g, toks := tk } := by
  have lps : ps.length = us.length := Paired.length kv
  have nS : S ∉ ts := fun y => Nat.lt_irrefl _ (Gd.above _ y)
  have nd : ts.Nodup := Gd.rise.imp fun {x y} (l : x < y) => Nat.ne_of_lt l
  have hi : ∀ t ∈ ts, s.heap.objs.size ≤ t := fun t y => Nat.le_trans fr (Nat.le_of_lt (Gd.above t y))
  have freeT : ∀ t ∈ ts, H t = none := fun t y => I.hok.fresh (hi t y)
  have freeS : H S = none := I.hok.fresh fr
  have onT := LiI.putT_at ts ps (upd H S (.lst (ts.map V.ref))) (by omega) nd
  have same : ∀ b, b ∉ ts → b ≠ S → LiI.putT (upd H S (.lst (ts.map V.ref))) ts ps b = H b := fun b y1 y2 => by rw [LiI.putT_off ts ps _ y1, upd_ne y2]
  have old : ∀ b o, s.heap.get? b = some o → b ∉ ts ∧ b ≠ S := fun b o q =>
    have lb := Heap.lt_size q
    ⟨fun y => absurd lb (Nat.not_lt.mpr (hi b y)), fun y => absurd lb (Nat.not_lt.mpr (y ▸ fr))⟩
  have grow : Same H (LiI.putT (upd H S (.lst (ts.map V.ref))) ts ps) := fun b u q => by
    rw [same b (fun y => by rw [freeT b y] at q; cases q) (fun y => by rw [y, freeS] at q; cases q)]; exact q
  have onS : LiI.putT (upd H S (.lst (ts.map V.ref))) ts ps S = some (.lst (ts.map V.ref)) := by rw [LiI.putT_off ts ps _ nS, upd_same]
  refine ⟨_, grow, freeS, freeT, nS, onS, onT, I.call' (ch := []) rfl ⟨fun b o q _ _ _ => kept b o q, fun b o q _ _ _ => ⟨o.slots, kept b o q⟩, fun b o q n _ => ?_, fun b o q _ => ⟨o, kept b o q⟩, fun b xs q => grow b _ q, fun b o u q => grow b _ q, fun b tb q => ⟨#[], by rw [grow b _ q]; simp⟩⟩ (fun b u q => ?_) I.bare fun b y => by simp at y⟩
  · obtain ⟨y1, y2⟩ := old b o q
    rw [same b y1 y2]; exact n
  · by_cases mem : b ∈ ts
    · obtain ⟨j, pk, j1, j2, j3⟩ := LiI.paired_ix onT mem
      rw [j3] at q; cases q
      obtain ⟨key, k, x, f1, f2, f3⟩ := Gd.pairs j b j1
      obtain ⟨qv, g1, g2, g3⟩ := LiI.paired_get kv j2
      rw [f1] at g1; cases g1
      have rk : RelV (kV pk.1) key := by rw [g2]; exact relV_key (show keyIs k key = true from f2)
      exact ⟨by show 2 ≤ sizeLine; decide, [key, x], .cons rk (.cons g3 .nil), ⟨_, f3, rfl, _, rfl⟩⟩
    · by_cases eS : b = S
      · rw [eS] at q ⊢
        rw [onS] at q; cases q
        exact ⟨by rw [List.length_map]; omega, arr.toList, c, by rw [isr]; exact LiI.vals_refs ts, by rw [Array.toArray_toList]; exact atS⟩
      · rw [same b mem eS] at q
        exact (I.hok b u q).stay (fun d v _ y => kept d v y) (fun d y => grow d _ y) fun d xs y => grow d _ y
def tListZip (ta : TA) : TE := fun σ H Q => ta σ H fun vs H1 => ∃ (a b : Addr) (ks : List Key) (ys : List V), vs = [.ref a, .ref b] ∧ H1 a = some (.lst (ks.map kV)) ∧ H1 b = some (.lst ys) ∧ ks.length ≤ ys.length ∧
  ∀ (H' : Hp) (p : Addr) (ts : List Addr), Same H1 H' → H1 p = none → (∀ t ∈ ts, H1 t = none) → p ∉ ts → H' p = some (.lst (ts.map V.ref)) → tupsAt H' ts (ks.zip ys) → Q (.ref p) H'
theorem key_of {k : Key} {u : Value} (r : RelV (kV k) u) : keyIs k u = true := by
  cases k with
  | inl i => obtain ⟨t, rfl⟩ := r; exact beq_self_eq_true i
  | inr i => obtain ⟨t, rfl⟩ := r; exact beq_self_eq_true i
theorem zipped : ∀ {ks : List Key} {ys : List V} {us ws : List Value}, Vals (ks.map kV) us → Vals ys ws → ks.length ≤ ys.length → KV (ks.zip ys) (ks.zip ws) ∧ (ks.zip ws).length = us.length ∧ ∀ (j : Nat) (k : Key) (v : Value), (ks.zip ws)[j]? = some (k, v) → ∃ key, us[j]? = some key ∧ keyIs k key = true ∧ ws[j]? = some v
  | [], ys, us, ws, hu, hw, l => by
    cases hu
    exact ⟨by rw [List.zip_nil_left, List.zip_nil_left]; exact .nil, rfl, fun j k v q => by rw [List.zip_nil_left] at q; simp at q⟩
  | k :: ks, [], us, ws, hu, hw, l => absurd l (by simp)
  | k :: ks, y :: ys, us, ws, hu, hw, l => by
    cases hu with
    | cons r hu =>
      cases hw with
      | cons r' hw =>
        obtain ⟨i1, i2, i3⟩ := zipped hu hw (Nat.le_of_succ_le_succ l)
        refine ⟨.cons ⟨rfl, r'⟩ i1, congrArg Nat.succ i2, fun j k' v q => ?_⟩
        cases j with
        | zero =>
          rw [List.zip_cons_cons] at q
          cases Option.some.inj q
          exact ⟨_, rfl, key_of r, rfl⟩
        | succ j => simpa using i3 j k' v (by simpa using q)
theorem pe_listZip (calm : X.calm = true) (ha : PA X [e1, e2] ta) (hg : Gl X "list") (hm : X.mg "list" = none) (hv : bootBuiltins "list" = some (.type "list")) (hgz : Gl X "zip") (hmz : X.mg "zip" = none)
    (hs : starEach [e1, e2] X.env = (false, eval e1 X.env) :: starEach [e2] X.env := by rfl) (hpl : (backTo zpos (starEach [e2] X.env)).any (·.1) = false := by rfl)
    (hs0 : starEach [.Call (.Name "zip" zp) [e1, e2] [] zpos] X.env = (false, eval (.Call (.Name "zip" zp) [e1, e2] [] zpos) X.env) :: starEach [] X.env := by rfl) :
    PE X (.Call (.Name "list" p) [.Call (.Name "zip" zp) [e1, e2] [] zpos] [] pos) (tListZip ta) := by
  constructor
  intro pins z0 σ H Q I pre
  refine wpAny_Call_Name_kw (ld_blt I hg hm hv (PyProof.Rows.callWith_type1 ?_ hs0 rfl))
  rw [hs0]
  refine Calls.spliced_cons (Call_ (ld_blt I hgz hmz PyProof.Rows.boot_zip (PyProof.Rows.callWith_type1 (thn (ha.run zpos pins z0 σ H _ I pre) fun us z1 ⟨vs, H1, I1, r1, a, b, ks, ys, ex, hka, hyb, lim, q⟩ => ?_) hs hpl)))
  subst ex
  cases r1 with
  | cons r rr =>
    cases rr with
    | cons r' rr =>
      cases rr
      cases r
      cases r'
      obtain ⟨ua, rva, pa, szA⟩ := I1.list (.inl (.inl hka))
      obtain ⟨ub, rvb, pb, szB⟩ := I1.list (.inl (.inl hyb))
      obtain ⟨kv, lz, at_⟩ := zipped rva rvb lim
      rw [List.length_map] at szA
      have s1 : (ks.zip ys).length ≤ sizeLine := by rw [List.length_zip]; exact Nat.le_trans (Nat.min_le_left _ _) szA
      have s2 : (ks.zip ub).length ≤ sizeLine := by rw [List.length_zip]; exact Nat.le_trans (Nat.min_le_left _ _) szA
      refine call_zip_2 pa.isList pb.isList fun h' hz hTI hTO h1 h2 hsz hk => ?_
      refine Calls.spliced_nil ?_
      have la : a < z1.heap.objs.size := pa.lt
      have lb : b < z1.heap.objs.size := pb.lt
      refine zt_call (s := { z1 with heap := h' }) (vs := ks.zip ub) (I1.ok.hd calm) (PySem.W.ktu_apart z1.heap.objs.size a b la lb) hz hTI hTO h1 h2 (pa.isList.at fun o e => hk _ o e) (pb.isList.at fun o e => hk _ o e) s2 ⟨by rw [lz]; rfl, fun j k v y => by
        obtain ⟨key, y1, y2, y3⟩ := at_ j k v y
        exact ⟨key, by simpa using y1, y2, by simpa using y3⟩⟩ fun g tk arr c ts kp atS len Gd isr => ?_
      · have kp' : ∀ b o, z1.heap.get? b = some o → g.get? b = some o := fun b o e => by
          have lb := Heap.lt_size e
          exact kp b o (Nat.ne_of_lt (Nat.lt_of_lt_of_le lb (Nat.le_add_right _ _))) (Nat.ne_of_lt (Nat.lt_of_lt_of_le lb (Nat.le_add_right _ _))) (Nat.ne_of_lt lb) (Nat.ne_of_lt (Nat.lt_of_lt_of_le lb (Nat.le_add_right _ _))) (hk b o e)
        obtain ⟨H', k1, k2, k3, k4, k5, k6, J⟩ := pairs_laid (tk := tk) I1 (ps := ks.zip ys) s1 kv (show z1.heap.objs.size ≤ h'.objs.size by rw [hsz]; exact Nat.le_add_right _ _) kp' atS len Gd isr
        exact ⟨.ref _, H', J, rfl, q H' _ ts k1 k2 k3 k4 k5 k6⟩
end
end Vs
namespace Vs
open PySem L2
/-- of each version its birth and that of the next one -/
def withNext : List Cel → List (Int × Option Int)
  | [] => []
  | c :: r => (c.1, r.head?.map (·.1)) :: withNext r
def Bw (H : Hp) (ts : List Addr) (l : List (Int × Option Int)) : Prop := Paired (fun (t : Addr) (q : Int × Option Int) => H t = some (.tup [.int q.1, optV q.2])) ts l
theorem Bw.tups {H H' : Hp} (t : Tups H H') {ts : List Addr} {l : List (Int × Option Int)} (h : Bw H ts l) : Bw H' ts l := Paired.mapP h fun _ _ z => t _ _ z
theorem bw_of {H : Hp} : ∀ {ts : List Addr} (l : List Cel), tupsAt H ts ((l.map fun c => (Sum.inl c.1 : Key)).zip ((l.map fun c => V.int c.1).drop 1 ++ [.non])) → Bw H ts (withNext l)
  | _, [], h => by cases h; exact .nil
  | _, [c], h => by
    cases h with
    | cons r t =>
      cases t
      exact .cons r .nil
  | _, c :: d :: l, h => by
    cases h with
    | cons r t => exact .cons r (bw_of (d :: l) t)
section
variable {P : Program} {w : World} {K : PySem.W.Frag} {mg : Str → Option Value} {base : Heap} {T : Cs} {U : Es} {Pt : Addr}
def spBirths : Sp := fun vs H Q _ => ∃ (a : Addr) (rs : List V) (l : List Cel), vs = [.ref a] ∧ H a = some (.lst rs) ∧ Cels H rs l ∧ l.length ≤ 1000000 ∧
  ∀ H' p ts, Sm H H' → H p = none → H' p = some (.lst (ts.map V.ref)) → Bw H' ts (withNext l) → Q (.ref p) H'
abbrev nBirths : List Str := ["line", "births", "born", "value"]
theorem sc_births : FnScope nBirths ["line"] (defScope s_births_with_next) := ⟨rfl, rfl, rfl, by decide +kernel, rfl, by decide +kernel, by decide +kernel⟩
theorem ok_births {f : Addr} {fd : FuncData} (F : Fun K "births_with_next" "births_with_next" s_births_with_next f fd) (B : Bt mg) : FnOk P w K mg base CX0 1 f fd ["line"] spBirths := by
  refine F.ok sc_births (fun vs H Q E h => ?_) (fun cdv A outer s H vs Q E hr h => ?_)
  · obtain ⟨a, rs, l, rfl, _⟩ := h
    rfl
  · obtain ⟨a, rs, l, rfl, ha, hC, hl, kq⟩ := h
    have hu := hu_of hr
    refine ⟨_, pss_cons (ps_setLc (i := 1) (own := [("born", 2), ("value", 3)]) (g := gTup K 2 (gCons (gName 2) (gCons (gName 3) gNil))) (tt := tYes) (te := tVar 2) rfl sc_births.nd rfl rfl (sw_true rfl rfl rfl (by decide +kernel)) (pi_list (pv 0))
        (blkOk_by (own := [("born", 2), ("value", 3)]) (N := nBirths) (sc := defScope s_births_with_next) (by decide +kernel)) (fun _ _ _ _ _ => pg_tup rfl (pgs_cons (pg_name (i := 2) sc_births.nd rfl (.inl rfl)) (pgs_cons (pg_name (i := 3) sc_births.nd rfl (.inl rfl)) pgs_nil))) (fun _ _ _ _ _ => pts_nil)
        (fun _ _ _ _ _ => by exact (pv 2)))
      (pss_one (ps_ret (pe_listZip rfl (pa_cons (pv 1) (pa_cons (pe_op op_cat (pe_slice sl_list (pv 1) (po_some pe_int) po_none) (pe_lst (pa_cons pe_non pa_nil))) pa_nil)) (by rfl) B.list rfl (by rfl) B.zip))), ?_⟩
    refine ⟨_, rfl, a, rfl, ⟨rs, SqL.of ha⟩, fun D hD => ?_⟩
    have nDa : a ≠ D := ne_of_none ha hD
    refine lc_list (K := K) (a := a) (xs := rs) (fun i H2 => Sm H H2 ∧ H2 a = some (.lst rs) ∧ H2 D = some (.lst ((l.take i).map fun c => V.int c.1))) ⟨Sm.new hD, by rw [upd_ne nDa]; exact ha, upd_same⟩ (fun i H2 _ ⟨_, h, _⟩ => SqL.of h) ?_ ?_
    · rintro i x H2 hx ⟨s2, h2a, h2D⟩
      obtain ⟨c, hc, t, rfl, ht⟩ := LiI.paired_get hC hx
      have ht2 := s2.tups _ _ ht
      refine ⟨t, _, rfl, SqT.of ht2, rfl, _, _, rfl, _, _, rfl, rfl, rfl, ?_⟩
      dsimp only [tYes]
      rw [if_pos rfl]
      have hil : i < l.length := (List.getElem?_eq_some_iff.mp hc).1
      refine ⟨_, rfl, _, h2D, ?_, ?_, ?_, ?_⟩
      · rw [List.length_map, List.length_take]; exact le1000000 (by omega)
      · exact (Sm.refl H).own hD s2 h2D (ntL _) _
      · rw [upd_ne nDa]; exact h2a
      · rw [take_snoc hc, List.map_append]; exact upd_same
    · rintro H2 ⟨s2, h2a, h2D⟩
      rw [show rs.length = l.length from Paired.length hC, List.take_length] at h2D
      refine ⟨_, rfl, _, rfl, _, rfl, D, _, rfl, SqL.of h2D, fun p1 hp1 => ?_⟩
      have cut : cutV (l.map fun c => V.int c.1) (some 1) none = (l.map fun c => V.int c.1).drop 1 := by
        unfold cutV
        rw [HT.sIx_none, show (some (1 : Int)) = some ((1 : Nat) : Int) from rfl, HT.sIx_nat]
        cases l with
        | nil => rfl
        | cons c l =>
          rw [show min 1 ((c :: l).map fun c => V.int c.1).length = 1 from Nat.min_eq_left (by simp)]
          apply List.take_of_length_le
          rw [List.length_drop]; exact Nat.le_refl _
      rw [cut]
      have s3 : Sm H2 (upd H2 p1 (.lst ((l.map fun c => V.int c.1).drop 1))) := Sm.new hp1
      have e1 : upd H2 p1 (.lst ((l.map fun c => V.int c.1).drop 1)) p1 = some (.lst ((l.map fun c => V.int c.1).drop 1)) := upd_same
      generalize upd H2 p1 (.lst ((l.map fun c => V.int c.1).drop 1)) = H3 at s3 e1
      refine ⟨by show 1 ≤ sizeLine; decide, fun p2 hp2 => ?_⟩
      have s4 : Sm H3 (upd H3 p2 (.lst [.non])) := Sm.new hp2
      have e2 : upd H3 p2 (.lst [.non]) p2 = some (.lst [.non]) := upd_same
      generalize upd H3 p2 (.lst [.non]) = H4 at s4 e2
      refine ⟨p1, p2, _, _, rfl, rfl, s4.lst e1, e2, ?_, fun p3 hp3 => ?_⟩
      · rw [List.length_drop, List.length_map, sizeLine_eq]; show l.length - 1 + 1 ≤ _; omega
      have s5 : Sm H4 (upd H4 p3 (.lst ((l.map fun c => V.int c.1).drop 1 ++ [.non]))) := Sm.new hp3
      have e3 : upd H4 p3 (.lst ((l.map fun c => V.int c.1).drop 1 ++ [.non])) p3 = some (.lst ((l.map fun c => V.int c.1).drop 1 ++ [.non])) := upd_same
      generalize upd H4 p3 (.lst ((l.map fun c => V.int c.1).drop 1 ++ [.non])) = H5 at s5 e3
      have s25 := (s3.trans s4).trans s5
      refine ⟨D, p3, l.map (fun c => Sum.inl c.1), _, rfl, ?_, e3, ?_, fun H6 q ts s6 hq hts nq h6q hT => ?_⟩
      · rw [List.map_map]; exact s25.lst h2D
      · rw [List.length_append, List.length_drop, List.length_map, List.length_map]; show _ ≤ l.length - 1 + 1; omega
      · exact kq H6 q ts ((s2.trans s25).trans (Sm.of s6)) ((s2.trans s25).free hq) h6q (bw_of l hT)
end
end Vs
/-! ## What can go -/
namespace Vs
open PySem L2
abbrev Vn := Int × Str × Int × Option Int
abbrev Gon := Vn × Str
def versL (n : Int) (k : Str) (l : List Cel) : List Vn := (withNext l).map fun q => (n, k, q.1, q.2)
def versK (n : Int) (b : Br) (ks : List Str) : List Vn := ks.flatMap fun k => versL n k (b.line k)
def versB (n : Int) (b : Br) : List Vn := versK n b (sortK (b.lines.map (·.1)))
def versM (bs : List (Int × Br)) : List Vn := bs.flatMap fun p => versB p.1 p.2
def isUn (S : Sh) (v : Vn) : Bool := (aget (ownersM S v.2.1) (v.1, v.2.2.1)).isNone
def isBa (S : Sh) (v : Vn) : Bool := !isUn S v && (aget (reasonsM S v.2.1) (v.1, v.2.2.1)).isNone
def unOf (S : Sh) (vs : List Vn) : List Gon := (vs.filter (isUn S)).map fun v => (v, "unseen")
def baOf (S : Sh) (vs : List Vn) : List Gon := (vs.filter (isBa S)).map fun v => (v, "bare")
def goM (S : Sh) : List Gon := unOf S (versM S.brs) ++ baOf S (versM S.brs)
def gonT (g : Gon) : HO := .tup [.int g.1.1, .str g.1.2.1, .int g.1.2.2.1, optV g.1.2.2.2, .str g.2]
def GonAt (H : Hp) (v : V) (g : Gon) : Prop := ∃ t, v = .ref t ∧ H t = some (gonT g)
def Gons (H : Hp) : List V → List Gon → Prop := Paired (GonAt H)
theorem GonAt.tups {H H' : Hp} (t : Tups H H') {v : V} {g : Gon} (h : GonAt H v g) : GonAt H' v g := by
  obtain ⟨a, e, q⟩ := h
  exact ⟨a, e, t _ _ q⟩
theorem Gons.tups {H H' : Hp} (t : Tups H H') {vs : List V} {l : List Gon} (h : Gons H vs l) : Gons H' vs l := Paired.mapP h fun _ _ z => z.tups t
theorem unOf_snoc (S : Sh) (vs : List Vn) (v : Vn) : unOf S (vs ++ [v]) = if isUn S v = true then unOf S vs ++ [((v, ("unseen" : Str)) : Gon)] else unOf S vs := by
  unfold unOf
  rw [List.filter_append, List.filter_cons]
  by_cases h : isUn S v = true
  · rw [if_pos h, if_pos h, List.map_append]; rfl
  · rw [if_neg h, if_neg h, List.filter_nil, List.append_nil]
theorem baOf_snoc (S : Sh) (vs : List Vn) (v : Vn) : baOf S (vs ++ [v]) = if isBa S v = true then baOf S vs ++ [((v, ("bare" : Str)) : Gon)] else baOf S vs := by
  unfold baOf
  rw [List.filter_append, List.filter_cons]
  by_cases h : isBa S v = true
  · rw [if_pos h, if_pos h, List.map_append]; rfl
  · rw [if_neg h, if_neg h, List.filter_nil, List.append_nil]
theorem unOf_len (S : Sh) (vs : List Vn) : (unOf S vs).length ≤ vs.length := by unfold unOf; rw [List.length_map]; exact List.length_filter_le _ _
theorem baOf_len (S : Sh) (vs : List Vn) : (baOf S vs).length ≤ vs.length := by unfold baOf; rw [List.length_map]; exact List.length_filter_le _ _
theorem withNext_len (l : List Cel) : (withNext l).length = l.length := by
  induction l with
  | nil => rfl
  | cons c l ih => show (withNext l).length + 1 = _; rw [ih]; rfl
theorem fm_snoc {α β : Type} (f : α → List β) {l : List α} {i : Nat} {x : α} (h : l[i]? = some x) : (l.take (i + 1)).flatMap f = (l.take i).flatMap f ++ f x := by
  rw [take_snoc h, List.flatMap_append]; simp
theorem fm_le {α β : Type} (f : α → List β) (l : List α) (i : Nat) : ((l.take i).flatMap f).length ≤ (l.flatMap f).length := by
  have : l.flatMap f = (l.take i).flatMap f ++ (l.drop i).flatMap f := by rw [← List.flatMap_append, List.take_append_drop]
  rw [this, List.length_append]; exact Nat.le_add_right _ _
/-- how far the lists are -/
structure Go (S : Sh) (H0 : Hp) (un ba : Addr) (vs : List Vn) (H : Hp) : Prop where
  sm : Sm H0 H
  un : ∃ ru, H un = some (.lst ru) ∧ Gons H ru (unOf S vs)
  ba : ∃ rb, H ba = some (.lst rb) ∧ Gons H rb (baOf S vs)
theorem Go.keep {S : Sh} {H0 H H' : Hp} {un ba : Addr} {vs : List Vn} (g : Go S H0 un ba vs H) (s : Sm H H') : Go S H0 un ba vs H' := by
  obtain ⟨a, ⟨ru, u1, u2⟩, rb, b1, b2⟩ := g
  exact ⟨a.trans s, ⟨ru, s.lst u1, u2.tups s.tups⟩, rb, s.lst b1, b2.tups s.tups⟩
theorem Go.put {S : Sh} {H0 H : Hp} {un ba x : Addr} {vs : List Vn} {xs : List V} {ru rb : List V} (sm : Sm H0 H) (hx : H0 x = none) (at_ : H x = some (.lst xs)) (ys : List V) (u : upd H x (.lst ys) un = some (.lst ru)) (u' : Gons H ru (unOf S vs)) (b : upd H x (.lst ys) ba = some (.lst rb)) (b' : Gons H rb (baOf S vs)) : Go S H0 un ba vs (upd H x (.lst ys)) := by
  have t : Tups H (upd H x (.lst ys)) := fun a zs e => by rw [upd_ne (ne_of e at_ (by intro z; cases z))]; exact e
  exact ⟨(Sm.refl H0).own hx sm at_ (ntL _) _, ⟨ru, u, u'.tups t⟩, rb, b, b'.tups t⟩
end Vs
namespace Vs
open PySem L2
section
variable {P : Program} {w : World} {K : PySem.W.Frag} {mg : Str → Option Value} {base : Heap} {T : Cs} {U : Es} {Pt : Addr}
def spCanGo (T : Cs) : Sp := fun vs H Q _ => ∃ (Ks : List Str) (S : Sh) (α : Rl → Addr) (δ : Dl) (J : List Str) (G : Jud), vs = [.ref (α .brs), .ref (α .jd)] ∧ Lay T H S α δ J G ∧ Right S J G ∧ WF Ks S ∧
  (∀ n b k, aget S.brs n = some b → k ∈ b.lines.map (·.1) → k ∈ J) ∧ (versM S.brs).length ≤ 1000000 ∧ ∀ H' p rs, Sm H H' → H p = none → H' p = some (.lst rs) → Gons H' rs (goM S) → Q (.ref p) H'
abbrev nGo : List Str := ["branches", "judged", "unseen", "bare", "number", "lines", "key", "judgement", "born", "until"]
theorem sc_go : FnScope nGo ["branches", "judged"] (defScope s_can_go) := ⟨rfl, rfl, rfl, by decide +kernel, rfl, by decide +kernel, by decide +kernel⟩
theorem ok_can_go {f : Addr} {fd : FuncData} (F : Fun K "can_go" "can_go" s_can_go f fd) (B : Bt mg) (C : Cf K T) (c1 : Fx P w K mg base CX0 "births_with_next" 1 ["line"] spBirths) : FnOk P w K mg base CX0 2 f fd ["branches", "judged"] (spCanGo T) := by
  obtain ⟨f1, fd1, g1, k1, b1, G1⟩ := c1
  refine F.ok sc_go (fun vs H Q E h => ?_) (fun cdv A outer s H vs Q E hr h => ?_)
  · obtain ⟨Ks, S, α, δ, J, G, rfl, _⟩ := h
    rfl
  · obtain ⟨Ks, S, α, δ, J, G, rfl, L, R, W, inJ, tot, kq⟩ := h
    have hu := hu_of hr
    refine ⟨_, pss_cons (ps_set (i := 2) sc_go.nd rfl (.inl rfl) (pe_lst pa_nil)) (pss_cons (ps_set (i := 3) sc_go.nd rfl (.inl rfl) (pe_lst pa_nil))
      (pss_cons (ps_for PassesOwn.never rfl (pi_list (pe_callB (cr_dI rfl) (by rfl) B.sorted (by decide +kernel) (pa_cons (pv 0) pa_nil))) (pg_name (i := 4) sc_go.nd rfl (.inl rfl))
        (pss_cons (ps_set (i := 5) sc_go.nd rfl (.inl rfl) (pe_fld (pe_dget hu (pv 0) (pv 4) (fun _ _ => rfl)) rfl))
        (pss_one (ps_for PassesOwn.never rfl (pi_list (pe_callB (call_sortedD rfl) (by rfl) B.sorted (by decide +kernel) (pa_cons (pv 5) pa_nil))) (pg_name (i := 6) sc_go.nd rfl (.inl rfl))
          (pss_cons (ps_set (i := 7) sc_go.nd rfl (.inl rfl) (pe_dget hu (pv 1) (pv 6) (fun _ _ => rfl)))
          (pss_one (ps_for PassesOwn.never rfl (pi_list (pe_call G1 hr rfl g1 k1 b1 .nil pass0 (pa_cons (pe_dget hu (pv 5) (pv 6) (fun _ _ => rfl)) pa_nil))) (pg_tup rfl (pgs_cons (pg_name (i := 8) sc_go.nd rfl (.inl rfl)) (pgs_cons (pg_name (i := 9) sc_go.nd rfl (.inl rfl)) pgs_nil)))
            (pss_one (ps_if (pt_cmp (pc_dnotin hu (pe_tup (pa_cons (pv 4) (pa_cons (pv 8) pa_nil))) (pe_fld (pv 7) rfl)))
              (pss_one (ps_expr (pe_bm PySem.F.plainAttrs_list PySem.F.slot_list_append PySem.F.type_list_append mt_append (pv 2) (pa_cons (pe_tup (pa_cons (pv 4) (pa_cons (pv 6) (pa_cons (pv 8) (pa_cons (pv 9) (pa_cons pe_str pa_nil)))))) pa_nil))))
              (pss_one (ps_if (pt_cmp (pc_dnotin hu (pe_tup (pa_cons (pv 4) (pa_cons (pv 8) pa_nil))) (pe_fld (pv 7) rfl)))
                (pss_one (ps_expr (pe_bm PySem.F.plainAttrs_list PySem.F.slot_list_append PySem.F.type_list_append mt_append (pv 3) (pa_cons (pe_tup (pa_cons (pv 4) (pa_cons (pv 6) (pa_cons (pv 8) (pa_cons (pv 9) (pa_cons pe_str pa_nil)))))) pa_nil))))
                pss_nil)))))))))))
      (pss_one (ps_ret (pe_op op_cat (pv 2) (pv 3)))))), ?_⟩
    have z0 : (0 : Nat) ≤ sizeLine := Nat.zero_le _
    refine ⟨z0, fun un hun => ⟨z0, fun ba hba => ?_⟩⟩
    have nub : un ≠ ba := fun e => by rw [← e, upd_same] at hba; cases hba
    have hba0 : H ba = none := (Sm.new hun).free hba
    have g1 : Go S H un ba [] (upd (upd H un (.lst [])) ba (.lst [])) := ⟨(Sm.new hun).trans (Sm.new hba), ⟨[], by rw [upd_ne nub]; exact upd_same, .nil⟩, [], upd_same, .nil⟩
    generalize upd (upd H un (.lst [])) ba (.lst []) = H1 at g1
    have L1 := L.sm g1.sm
    refine ⟨_, rfl, α .brs, _, S.brs.map (·.1), rfl, .inl L1.brs, enc_keys _, W.bks, fun p hp => ⟨p, rfl, ⟨_, SqL.of upd_same⟩, ?_⟩⟩
    have g2 := g1.keep (Sm.new (o := .lst ((S.brs.map (·.1)).map V.int)) hp)
    have hpl : upd H1 p (.lst ((S.brs.map (·.1)).map V.int)) p = some (.lst ((S.brs.map (·.1)).map V.int)) := upd_same
    have npu : p ≠ un := by obtain ⟨_, e, _⟩ := g1.un; exact (ne_of_none e hp).symm
    have npb : p ≠ ba := by obtain ⟨_, e, _⟩ := g1.ba; exact (ne_of_none e hp).symm
    generalize upd H1 p (.lst ((S.brs.map (·.1)).map V.int)) = H2 at g2 hpl
    refine for_list (K := K) (a := p) (xs := (S.brs.map (·.1)).map V.int) (fun i σ H3 => (∃ x4 x5 x6 x7 x8 x9, σ = [some (.ref (α .brs)), some (.ref (α .jd)), some (.ref un), some (.ref ba), x4, x5, x6, x7, x8, x9]) ∧
        Go S H un ba (versM (S.brs.take i)) H3 ∧ H3 p = some (.lst ((S.brs.map (·.1)).map V.int))) ⟨⟨_, _, _, _, _, _, rfl⟩, g2, hpl⟩ (fun i σ H3 _ ⟨_, _, h⟩ => SqL.of h) ?_ ?_
    · rintro i x σ H3 hx ⟨⟨x4, x5, x6, x7, x8, x9, rfl⟩, g3, h3p⟩
      obtain ⟨n, b, hi, rfl, hb⟩ := key_at W.bks hx
      have L3 := L.sm g3.sm
      refine ⟨_, rfl, _, rfl, _, _, rfl, L3.gBr1 hb, _, _, _, _, _, rfl, L3.br hb, C.B, C.bLn, rfl, ?_⟩
      have lkl : b.lines.length ≤ 60 := by
        have := len_le_pool (W.lks n b hb).1 (W.lks n b hb).2
        rw [List.length_map] at this
        exact Nat.le_trans this W.pool
      refine ⟨_, rfl, _, _, b.lines.map (·.1), rfl, L3.lnsR hb, enc_keys _, by rw [List.length_map]; omega, fun ys q perm srt hq => ?_⟩
      obtain rfl := sortedS_eq perm srt
      refine ⟨q, rfl, ⟨_, SqL.of upd_same⟩, ?_⟩
      have g4 := g3.keep (Sm.new (o := .lst ((sortK (b.lines.map (·.1))).map V.str)) hq)
      have hql : upd H3 q (.lst ((sortK (b.lines.map (·.1))).map V.str)) q = some (.lst ((sortK (b.lines.map (·.1))).map V.str)) := upd_same
      have hp4 : upd H3 q (.lst ((sortK (b.lines.map (·.1))).map V.str)) p = some (.lst ((S.brs.map (·.1)).map V.int)) := by rw [upd_ne (ne_of_none h3p hq)]; exact h3p
      have nqu : q ≠ un := by obtain ⟨_, e, _⟩ := g3.un; exact (ne_of_none e hq).symm
      have nqb : q ≠ ba := by obtain ⟨_, e, _⟩ := g3.ba; exact (ne_of_none e hq).symm
      generalize upd H3 q (.lst ((sortK (b.lines.map (·.1))).map V.str)) = H4 at g4 hql hp4
      refine for_list (K := K) (a := q) (xs := (sortK (b.lines.map (·.1))).map V.str) (fun j σ H5 => (∃ x6 x7 x8 x9, σ = [some (.ref (α .brs)), some (.ref (α .jd)), some (.ref un), some (.ref ba), some (.int n), some (.ref (α (.lns n))), x6, x7, x8, x9]) ∧
          Go S H un ba (versM (S.brs.take i) ++ versK n b ((sortK (b.lines.map (·.1))).take j)) H5 ∧ H5 p = some (.lst ((S.brs.map (·.1)).map V.int)) ∧ H5 q = some (.lst ((sortK (b.lines.map (·.1))).map V.str)))
        ⟨⟨_, _, _, _, rfl⟩, by rw [show versK n b ((sortK (b.lines.map (·.1))).take 0) = [] from rfl, List.append_nil]; exact g4, hp4, hql⟩ (fun j σ H5 _ ⟨_, _, _, h⟩ => SqL.of h) ?_ ?_
      · rintro j x σ H5 hx ⟨⟨x6, x7, x8, x9, rfl⟩, g5, h5p, h5q⟩
        obtain ⟨k, hk, rfl⟩ : ∃ k, (sortK (b.lines.map (·.1)))[j]? = some k ∧ x = .str k := by
          rw [List.getElem?_map] at hx
          cases e : (sortK (b.lines.map (·.1)))[j]? with
          | none => rw [e] at hx; cases hx
          | some k => rw [e] at hx; exact ⟨k, rfl, (Option.some.inj hx).symm⟩
        have kin : k ∈ b.lines.map (·.1) := mem_sortK.mp (List.mem_of_getElem? hk)
        obtain ⟨l, hl⟩ := aget_of_key kin
        have kJ := inJ n b k hb kin
        have L5 := L.sm g5.sm
        have gj := L5.gJd k
        rw [if_pos kJ] at gj
        refine ⟨_, rfl, _, rfl, _, _, rfl, gj, ?_⟩
        have gl : DGet H5 (α (.lns n)) (.str k) (some (.ref (α (.ln n k)))) := by
          have : DGet H5 (α (.lns n)) (.str k) (valV (enc Sum.inr (fun k _ => V.ref (α (.ln n k))) b.lines) (Sum.inr k)) := .inl ⟨_, Sum.inr k, L5.lnsR hb, rfl, rfl⟩
          rw [valV_enc inr_inj, hl] at this; exact this
        obtain ⟨rs, hrs, hC⟩ := L5.ln hb hl
        have hll : l.length ≤ 1000 := W.cap.l n b k l hb hl
        have eline : b.line k = l := by unfold Br.line; rw [hl]; rfl
        refine ⟨_, rfl, _, rfl, _, _, rfl, gl, α (.ln n k), rs, l, rfl, hrs, hC, by omega, fun H6 pz ts s6 hpz h6z hBw => ⟨pz, rfl, ⟨_, SqL.of h6z⟩, ?_⟩⟩
        have g6 := g5.keep s6
        have nzu : pz ≠ un := by obtain ⟨_, e, _⟩ := g5.un; exact (ne_of_none e hpz).symm
        have nzb : pz ≠ ba := by obtain ⟨_, e, _⟩ := g5.ba; exact (ne_of_none e hpz).symm
        refine for_list (K := K) (a := pz) (xs := ts.map V.ref) (fun m σ H7 => (∃ x8 x9, σ = [some (.ref (α .brs)), some (.ref (α .jd)), some (.ref un), some (.ref ba), some (.int n), some (.ref (α (.lns n))), some (.str k), some (.ref (α (.jg k))), x8, x9]) ∧
            Go S H un ba (versM (S.brs.take i) ++ versK n b ((sortK (b.lines.map (·.1))).take j) ++ (versL n k l).take m) H7 ∧ H7 p = some (.lst ((S.brs.map (·.1)).map V.int)) ∧ H7 q = some (.lst ((sortK (b.lines.map (·.1))).map V.str)) ∧ H7 pz = some (.lst (ts.map V.ref)) ∧ Bw H7 ts (withNext l))
          ⟨⟨_, _, rfl⟩, by rw [List.take_zero, List.append_nil]; exact g6, s6.lst h5p, s6.lst h5q, h6z, hBw⟩ (fun j σ H5 _ ⟨_, _, _, _, h, _⟩ => SqL.of h) ?_ ?_
        · rintro m x σ H7 hx ⟨⟨x8, x9, rfl⟩, g7, h7p, h7q, h7z, hBw⟩
          obtain ⟨t, ht, rfl⟩ : ∃ t, ts[m]? = some t ∧ x = .ref t := by
            rw [List.getElem?_map] at hx
            cases e : ts[m]? with
            | none => rw [e] at hx; cases hx
            | some t => rw [e] at hx; exact ⟨t, rfl, (Option.some.inj hx).symm⟩
          obtain ⟨y, hy, hty⟩ := LiI.paired_get hBw ht
          have hv : (versL n k l)[m]? = some (n, k, y.1, y.2) := by unfold versL; rw [List.getElem?_map, hy]; rfl
          have L7 := L.sm g7.sm
          obtain ⟨eo, ho1, ho2⟩ := L7.ow kJ
          obtain ⟨er, hr1, hr2⟩ := L7.rs kJ
          rw [R k kJ] at ho2 hr2
          have lim : (versM (S.brs.take i) ++ versK n b ((sortK (b.lines.map (·.1))).take j) ++ (versL n k l).take m).length ≤ 1000000 := by
            have a1 : (versM (S.brs.take (i + 1))).length ≤ (versM S.brs).length := fm_le _ _ _
            have a2 : versM (S.brs.take (i + 1)) = versM (S.brs.take i) ++ versB n b := fm_snoc _ hi
            have a3 : (versK n b ((sortK (b.lines.map (·.1))).take (j + 1))).length ≤ (versB n b).length := fm_le _ _ _
            have a4 : versK n b ((sortK (b.lines.map (·.1))).take (j + 1)) = versK n b ((sortK (b.lines.map (·.1))).take j) ++ versL n k (b.line k) := fm_snoc _ hk
            rw [a2, List.length_append] at a1
            rw [a4, eline, List.length_append] at a3
            rw [List.length_append, List.length_append, List.length_take]
            omega
          rw [take_snoc hv, ← List.append_assoc]
          generalize versM (S.brs.take i) ++ versK n b ((sortK (b.lines.map (·.1))).take j) ++ (versL n k l).take m = done at g7 lim
          refine ⟨t, _, rfl, SqT.of hty, rfl, _, _, rfl, _, _, rfl, rfl, ?_⟩
          refine ⟨_, rfl, _, rfl, by show 2 ≤ sizeLine; decide, fun t1 hf1 => ?_⟩
          have s8 : Sm H7 (upd H7 t1 (.tup [.int n, .int y.1])) := Sm.new hf1
          have t1at : upd H7 t1 (.tup [.int n, .int y.1]) t1 = some (.tup ((cellKey (n, y.1)).map kV)) := upd_same
          generalize upd H7 t1 (.tup [.int n, .int y.1]) = H8 at s8 t1at
          have L8 := L7.sm s8
          have dg := DGet.t (s8.dT ho1) t1at
          obtain ⟨r1, r2⟩ := repVal (p := (n, y.1)) (R := OwnAt H8) (OwRep.tups s8.tups ho2)
          refine ⟨_, rfl, _, _, _, _, _, rfl, L8.jg kJ, C.J, C.jOw, rfl, _, _, rfl, dg, _, rfl, ?_⟩
          cases eV : valV eo (cellKey (n, y.1)) with
          | none =>
            have un1 : isUn S (n, k, y.1, y.2) = true := by unfold isUn; rw [r2 eV]; rfl
            have ba1 : isBa S (n, k, y.1, y.2) = false := by unfold isBa; rw [un1]; rfl
            have g8 := g7.keep s8
            obtain ⟨sm8, ⟨ru, u1, u2⟩, rb, b1, b2⟩ := g8
            refine ifT rfl ⟨_, rfl, .inl ⟨rfl, _, SqL.of u1⟩, _, rfl, _, rfl, _, rfl, _, rfl, by show 5 ≤ sizeLine; decide, fun t2 hf2 => ?_⟩
            have s9 : Sm H8 (upd H8 t2 (gonT ((n, k, y.1, y.2), ("unseen" : Str)))) := Sm.new hf2
            have t2at : upd H8 t2 (gonT ((n, k, y.1, y.2), ("unseen" : Str))) t2 = some (gonT ((n, k, y.1, y.2), ("unseen" : Str))) := upd_same
            have t2at' : GonAt (upd H8 t2 (gonT ((n, k, y.1, y.2), ("unseen" : Str)))) (.ref t2) ((n, k, y.1, y.2), ("unseen" : Str)) := ⟨t2, rfl, t2at⟩
            have n2z : pz ≠ t2 := ne_of_none (s8.lst h7z) hf2
            show _
            generalize hH9 : upd H8 t2 (gonT ((n, k, y.1, y.2), ("unseen" : Str))) = H9 at s9 t2at'
            have e9 : H9 = upd H8 t2 (.tup [.int n, .str k, .int y.1, optV y.2, .str ("unseen" : Str)]) := hH9.symm
            rw [← e9]
            refine ⟨un, ru, _, rfl, rfl, s9.lst u1, ?_, ?_⟩
            · have := Paired.length u2
              have := unOf_len S done
              exact le1000000 (by omega)
            have at9 := s9.lst u1
            refine ⟨⟨_, _, rfl⟩, Go.put (sm8.trans s9) hun at9 _ upd_same ?_ (by rw [upd_ne nub.symm]; exact s9.lst b1) ?_, ?_, ?_, ?_, ?_⟩
            · rw [unOf_snoc, if_pos un1]; exact Paired.snoc (u2.tups s9.tups) t2at'
            · rw [baOf_snoc, if_neg (by rw [ba1]; decide)]; exact b2.tups s9.tups
            · rw [upd_ne npu]; exact s9.lst (s8.lst h7p)
            · rw [upd_ne nqu]; exact s9.lst (s8.lst h7q)
            · rw [upd_ne nzu]; exact s9.lst (s8.lst h7z)
            · exact ((hBw.tups s8.tups).tups s9.tups).tups fun a zs e => by rw [upd_ne (ne_of e at9 (by intro z; cases z))]; exact e
          | some v =>
            obtain ⟨ow, eA, _⟩ := r1 v eV
            have un1 : isUn S (n, k, y.1, y.2) = false := by unfold isUn; rw [eA]; rfl
            refine ifF rfl ⟨_, rfl, _, rfl, by show 2 ≤ sizeLine; decide, fun t1' hf1' => ?_⟩
            have s10 : Sm H8 (upd H8 t1' (.tup [.int n, .int y.1])) := Sm.new hf1'
            have t1at' : upd H8 t1' (.tup [.int n, .int y.1]) t1' = some (.tup ((cellKey (n, y.1)).map kV)) := upd_same
            generalize upd H8 t1' (.tup [.int n, .int y.1]) = H10 at s10 t1at'
            have L10 := L8.sm s10
            have dg' := DGet.t (s10.dT (s8.dT hr1)) t1at'
            obtain ⟨p1, p2⟩ := repVal (p := (n, y.1)) (R := RsnAt H10) (RsRep.tups (s8.trans s10).tups hr2)
            refine ⟨_, rfl, _, _, _, _, _, rfl, L10.jg kJ, C.J, C.jRs, rfl, _, _, rfl, dg', _, rfl, ?_⟩
            cases eW : valV er (cellKey (n, y.1)) with
            | none =>
              have ba1 : isBa S (n, k, y.1, y.2) = true := by unfold isBa; rw [un1, p2 eW]; rfl
              have g10 := g7.keep (s8.trans s10)
              obtain ⟨sm8, ⟨ru, u1, u2⟩, rb, b1, b2⟩ := g10
              refine ifT rfl ⟨_, rfl, .inl ⟨rfl, _, SqL.of b1⟩, _, rfl, _, rfl, _, rfl, _, rfl, by show 5 ≤ sizeLine; decide, fun t2 hf2 => ?_⟩
              have s9 : Sm H10 (upd H10 t2 (gonT ((n, k, y.1, y.2), ("bare" : Str)))) := Sm.new hf2
              have t2at' : GonAt (upd H10 t2 (gonT ((n, k, y.1, y.2), ("bare" : Str)))) (.ref t2) ((n, k, y.1, y.2), ("bare" : Str)) := ⟨t2, rfl, upd_same⟩
              show _
              generalize hH9 : upd H10 t2 (gonT ((n, k, y.1, y.2), ("bare" : Str))) = H9 at s9 t2at'
              have e9 : H9 = upd H10 t2 (.tup [.int n, .str k, .int y.1, optV y.2, .str ("bare" : Str)]) := hH9.symm
              rw [← e9]
              refine ⟨ba, rb, _, rfl, rfl, s9.lst b1, ?_, ?_⟩
              · have := Paired.length b2
                have := baOf_len S done
                exact le1000000 (by omega)
              have at9 := s9.lst b1
              have s710 := s8.trans s10
              refine ⟨⟨_, _, rfl⟩, Go.put (sm8.trans s9) hba0 at9 _ (by rw [upd_ne nub]; exact s9.lst u1) ?_ upd_same ?_, ?_, ?_, ?_, ?_⟩
              · rw [unOf_snoc, if_neg (by rw [un1]; decide)]; exact u2.tups s9.tups
              · rw [baOf_snoc, if_pos ba1]; exact Paired.snoc (b2.tups s9.tups) t2at'
              · rw [upd_ne npb]; exact s9.lst (s710.lst h7p)
              · rw [upd_ne nqb]; exact s9.lst (s710.lst h7q)
              · rw [upd_ne nzb]; exact s9.lst (s710.lst h7z)
              · exact ((hBw.tups s710.tups).tups s9.tups).tups fun a zs e => by rw [upd_ne (ne_of e at9 (by intro z; cases z))]; exact e
            | some v2 =>
              obtain ⟨rr, eB, _⟩ := p1 v2 eW
              have ba1 : isBa S (n, k, y.1, y.2) = false := by unfold isBa; rw [un1, eB]; rfl
              have s710 := s8.trans s10
              obtain ⟨sm8, ⟨ru, u1, u2⟩, rb, b1, b2⟩ := g7.keep s710
              refine ifF rfl ⟨⟨_, _, rfl⟩, ⟨sm8, ⟨ru, u1, ?_⟩, rb, b1, ?_⟩, s710.lst h7p, s710.lst h7q, s710.lst h7z, hBw.tups s710.tups⟩
              · rw [unOf_snoc, if_neg (by rw [un1]; decide)]; exact u2
              · rw [baOf_snoc, if_neg (by rw [ba1]; decide)]; exact b2
        · rintro σ H7 ⟨⟨x8, x9, rfl⟩, g7, h7p, h7q, h7z, _⟩
          refine ⟨⟨_, _, _, _, rfl⟩, ?_, h7p, h7q⟩
          have e : (ts.map V.ref).length = (versL n k l).length := by rw [List.length_map, Paired.length hBw]; unfold versL; rw [List.length_map]
          rw [e, List.take_length] at g7
          unfold versK at g7 ⊢
          rw [fm_snoc _ hk, eline, ← List.append_assoc]
          exact g7
      · rintro σ H5 ⟨⟨x6, x7, x8, x9, rfl⟩, g5, h5p, h5q⟩
        refine ⟨⟨_, _, _, _, _, _, rfl⟩, ?_, h5p⟩
        rw [show ((sortK (b.lines.map (·.1))).map V.str).length = (sortK (b.lines.map (·.1))).length from List.length_map .., List.take_length] at g5
        unfold versM at g5 ⊢
        rw [fm_snoc _ hi]
        exact g5
    · rintro σ H3 ⟨⟨x4, x5, x6, x7, x8, x9, rfl⟩, g3, h3p⟩
      rw [show ((S.brs.map (·.1)).map V.int).length = S.brs.length by simp, List.take_length] at g3
      obtain ⟨sm, ⟨ru, u1, u2⟩, rb, b1, b2⟩ := g3
      refine ⟨_, rfl, _, rfl, un, ba, ru, rb, rfl, rfl, u1, b1, ?_, fun z hz => ?_⟩
      · have e1 := Paired.length u2
        have e2 := Paired.length b2
        have := unOf_len S (versM S.brs)
        have := baOf_len S (versM S.brs)
        rw [sizeLine_eq]; omega
      · exact kq _ z (ru ++ rb) (sm.trans (Sm.new hz)) (sm.free hz) upd_same (Paired.app (u2.tups (Sm.new hz).tups) (b2.tups (Sm.new hz).tups))
end
end Vs
/-! ## A version taken away -/
namespace Vs
open PySem L2
def cutC (l : List Cel) (born : Int) : List Cel := l.filter fun c => decide (c.1 ≠ born)
def cutL (ls : List (Str × List Cel)) (k : Str) (born : Int) : List (Str × List Cel) := match aget ls k with
  | none => ls
  | some l => if cutC l born = [] then adel ls k else aput ls k (cutC l born)
def Sh.takeV (S : Sh) (n : Int) (k : Str) (born : Int) : Sh := match aget S.brs n with
  | none => S
  | some b => S.setBr n { b with lines := cutL b.lines k born }
theorem cut_ix : ∀ {l : List Cel} {j : Nat} {c : Cel}, Rise l → l[j]? = some c → l.eraseIdx j = cutC l c.1
  | [], _, _, _, h => by cases h
  | d :: l, 0, c, r, h => by
    obtain rfl : d = c := Option.some.inj h
    obtain ⟨h1, h2⟩ := List.pairwise_cons.mp r
    show l = cutC (d :: l) d.1
    unfold cutC
    rw [List.filter_cons, if_neg (by simp), List.filter_eq_self.mpr]
    intro x hx
    have := h1 x hx
    simp; omega
  | d :: l, j + 1, c, r, h => by
    obtain ⟨h1, h2⟩ := List.pairwise_cons.mp r
    have h' : l[j]? = some c := h
    have hc := h1 c (List.mem_of_getElem? h')
    show d :: l.eraseIdx j = cutC (d :: l) c.1
    unfold cutC
    rw [List.filter_cons, if_pos (by simp; omega), cut_ix h2 h']
    rfl
theorem cnt_ix {l : List Cel} {j : Nat} {c : Cel} (r : Rise l) (h : l[j]? = some c) : cnt l c.1 = j + 1 := by
  have hj := (List.getElem?_eq_some_iff.mp h).1
  refine cnt_split (by omega) (fun i d hd hi => ?_) (fun i d hd hi => ?_)
  · by_cases e : i = j
    · subst e; rw [h] at hd; cases hd; exact Int.le_refl _
    · exact Int.le_of_lt (r.get hd h (by omega))
  · have := r.get h hd (by omega)
    omega
theorem adel_set {κ β : Type} [DecidableEq κ] (l : List (κ × β)) (k : κ) (x : β) : (l.map fun p => if p.1 = k then (p.1, x) else p).filter (fun p => decide (p.1 ≠ k)) = l.filter fun p => decide (p.1 ≠ k) := by
  induction l with
  | nil => rfl
  | cons p l ih =>
    rw [List.map_cons]
    by_cases e : p.1 = k
    · rw [if_pos e, List.filter_cons, if_neg (by simp [e]), List.filter_cons, if_neg (by simp [e]), ih]
    · rw [if_neg e, List.filter_cons, if_pos (by simp [e]), List.filter_cons, if_pos (by simp [e]), ih]
theorem adel_aput {κ β : Type} [DecidableEq κ] (l : List (κ × β)) (k : κ) (x : β) : adel (aput l k x) k = adel l k := by
  unfold aput
  split
  · exact adel_set l k x
  · unfold adel
    rw [List.filter_append]
    simp
/-- of a branch: where a key's cells are, after a cut -/
theorem cutL_get (ls : List (Str × List Cel)) (k : Str) (born : Int) (j : Str) : aget (cutL ls k born) j = if j = k then (match aget ls k with | none => none | some l => if cutC l born = [] then none else some (cutC l born)) else aget ls j := by
  unfold cutL
  cases e : aget ls k with
  | none =>
    dsimp only
    by_cases q : j = k
    · rw [if_pos q, q, e]
    · rw [if_neg q]
  | some l =>
    dsimp only
    by_cases z : cutC l born = []
    · rw [if_pos z, if_pos z, aget_del]
    · rw [if_neg z, if_neg z, aget_put]
theorem cutL_line (b : Br) (k : Str) (born : Int) (j : Str) : ({ b with lines := cutL b.lines k born } : Br).line j = if j = k then cutC (b.line k) born else b.line j := by
  unfold Br.line
  show (aget (cutL b.lines k born) j).getD [] = _
  rw [cutL_get]
  by_cases q : j = k
  · rw [if_pos q, if_pos q]
    cases e : aget b.lines k with
    | none => rfl
    | some l =>
      dsimp only
      by_cases z : cutC l born = []
      · rw [if_pos z]; exact z.symm
      · rw [if_neg z]; rfl
  · rw [if_neg q, if_neg q]
theorem cutL_keys {ls : List (Str × List Cel)} {k : Str} {born : Int} : ((cutL ls k born).map (·.1)).Sublist (ls.map (·.1)) := by
  unfold cutL
  cases e : aget ls k with
  | none => exact List.Sublist.refl _
  | some l =>
    dsimp only
    by_cases z : cutC l born = []
    · rw [if_pos z]; exact (List.filter_sublist).map _
    · rw [if_neg z, keys_aput_old _ e]; exact List.Sublist.refl _
theorem takeV_get (S : Sh) (n : Int) (k : Str) (born : Int) (m : Int) : aget (S.takeV n k born).brs m = if m = n then (aget S.brs n).map fun b => { b with lines := cutL b.lines k born } else aget S.brs m := by
  unfold Sh.takeV
  cases e : aget S.brs n with
  | none =>
    dsimp only
    by_cases q : m = n
    · rw [if_pos q, q, e]; rfl
    · rw [if_neg q]
  | some b =>
    dsimp only
    rw [setBr_get]
    by_cases q : m = n
    · rw [if_pos q, if_pos q]; rfl
    · rw [if_neg q, if_neg q]
theorem takeV_keys (S : Sh) (n : Int) (k : Str) (born : Int) : (S.takeV n k born).brs.map (·.1) = S.brs.map (·.1) := by
  unfold Sh.takeV
  cases e : aget S.brs n with
  | none => rfl
  | some b => exact keys_aput_old _ e
theorem takeV_hns (S : Sh) (n : Int) (k : Str) (born : Int) : (S.takeV n k born).hns = S.hns ∧ (S.takeV n k born).now = S.now ∧ (S.takeV n k born).bm = S.bm ∧ (S.takeV n k born).hm = S.hm := by
  unfold Sh.takeV
  cases e : aget S.brs n with
  | none => exact ⟨rfl, rfl, rfl, rfl⟩
  | some b => exact ⟨rfl, rfl, rfl, rfl⟩
theorem takeV_line (S : Sh) (n : Int) (k : Str) (born : Int) (m : Int) (j : Str) : lineAt (S.takeV n k born).brs m j = if m = n ∧ j = k then cutC (lineAt S.brs n k) born else lineAt S.brs m j := by
  unfold lineAt
  rw [takeV_get]
  by_cases q : m = n
  · rw [if_pos q, q]
    cases e : aget S.brs n with
    | none =>
      by_cases y : j = k
      · rw [if_pos ⟨rfl, y⟩]; rfl
      · rw [if_neg (fun z => y z.2)]; rfl
    | some b =>
      show ({ b with lines := cutL b.lines k born } : Br).line j = _
      rw [cutL_line]
      by_cases y : j = k
      · rw [if_pos y, if_pos ⟨rfl, y⟩]
      · rw [if_neg y, if_neg (fun z => y z.2)]
  · rw [if_neg q, if_neg (fun z => q z.1)]
/-- what a version taken leaves whole -/
theorem WF.takeV {Ks : List Str} {S : Sh} (W : WF Ks S) (n : Int) (k : Str) (born : Int) : WF Ks (S.takeV n k born) := by
  obtain ⟨e1, e2, e3, e4⟩ := takeV_hns S n k born
  have up : ∀ m b', aget (S.takeV n k born).brs m = some b' → ∃ b, aget S.brs m = some b ∧ b'.ben = b.ben ∧ b'.mom = b.mom ∧ b'.alive = b.alive ∧ b'.marks = b.marks ∧ (b' = b ∨ (m = n ∧ b'.lines = cutL b.lines k born)) := fun m b' h => by
    rw [takeV_get] at h
    by_cases q : m = n
    · rw [if_pos q] at h
      cases e : aget S.brs n with
      | none => rw [e] at h; cases h
      | some b =>
        rw [e] at h
        obtain rfl := Option.some.inj h
        exact ⟨b, by rw [q]; exact e, rfl, rfl, rfl, rfl, .inr ⟨q, rfl⟩⟩
    · rw [if_neg q] at h
      exact ⟨b', h, rfl, rfl, rfl, rfl, .inl rfl⟩
  have dn : ∀ m b, aget S.brs m = some b → ∃ b', aget (S.takeV n k born).brs m = some b' := fun m b h => by
    rw [takeV_get]
    by_cases q : m = n
    · rw [if_pos q, ← q, h]; exact ⟨_, rfl⟩
    · rw [if_neg q]; exact ⟨b, h⟩
  have lnUp : ∀ m b' j l', aget (S.takeV n k born).brs m = some b' → aget b'.lines j = some l' → ∃ b l, aget S.brs m = some b ∧ aget b.lines j = some l ∧ l'.Sublist l ∧ l' ≠ [] := fun m b' j l' h hl => by
    obtain ⟨b, hb, _, _, _, _, z⟩ := up m b' h
    rcases z with z | ⟨_, z⟩
    · subst z
      exact ⟨b', l', hb, hl, List.Sublist.refl _, (W.ln m b' j l' hb hl).2.1⟩
    · rw [z, cutL_get] at hl
      by_cases q : j = k
      · rw [if_pos q] at hl
        cases e : aget b.lines k with
        | none => rw [e] at hl; cases hl
        | some l =>
          rw [e] at hl
          dsimp only at hl
          by_cases y : cutC l born = []
          · rw [if_pos y] at hl; cases hl
          · rw [if_neg y] at hl
            obtain rfl := Option.some.inj hl
            exact ⟨b, l, hb, by rw [q]; exact e, List.filter_sublist, y⟩
      · rw [if_neg q] at hl
        exact ⟨b, l', hb, hl, List.Sublist.refl _, (W.ln m b j l' hb hl).2.1⟩
  constructor
  · rw [takeV_keys]; exact W.bks
  · obtain ⟨b, hb⟩ := W.b0; exact dn 0 b hb
  · intro m b' h
    obtain ⟨b, hb, z1, _⟩ := up m b' h
    rw [z1]; exact W.root m b hb
  · intro m b' q h hq
    obtain ⟨b, hb, z1, _⟩ := up m b' h
    obtain ⟨y1, c, y2⟩ := W.ben m b q hb (by rw [← z1]; exact hq)
    exact ⟨y1, dn q c y2⟩
  · intro m b' h
    obtain ⟨b, hb, _, z2, _⟩ := up m b' h
    rw [z2, e2, e3]; exact W.bnd m b hb
  · intro m b' h
    obtain ⟨b, hb, _, _, _, _, z⟩ := up m b' h
    obtain ⟨y1, y2⟩ := W.lks m b hb
    rcases z with z | ⟨_, z⟩
    · rw [z]; exact ⟨y1, y2⟩
    · rw [z]; exact ⟨y1.sublist cutL_keys, fun j hj => y2 j (cutL_keys.subset hj)⟩
  · intro m b' j l' h hl
    obtain ⟨b, l, hb, hbl, sub, ne⟩ := lnUp m b' j l' h hl
    obtain ⟨y1, _, y3⟩ := W.ln m b j l hb hbl
    rw [e2]
    exact ⟨rise_sub sub y1, ne, fun c hc => y3 c (sub.subset hc)⟩
  · intro m b' h
    obtain ⟨b, hb, _, _, _, z, _⟩ := up m b' h
    rw [z]; exact W.mks m b hb
  · intro m b' j x h hm
    obtain ⟨b, hb, _, _, _, z, _⟩ := up m b' h
    rw [e2]; rw [z] at hm; exact W.mkb m b j x hb hm
  · rw [e1]; exact W.hks
  · rw [e1, e2, e4]
    intro m h hh
    obtain ⟨y1, y2, ⟨b, y3⟩, y4⟩ := W.hn m h hh
    exact ⟨y1, y2, dn _ b y3, y4⟩
  · rw [e1]; exact W.dks
  · exact W.key
  · exact W.pool
  · rw [e2, e3, e4]; exact W.sz
  · refine ⟨by rw [e1]; exact W.cap.h, ?_, fun m b' j l' h hl => ?_⟩
    · have := congrArg List.length (takeV_keys S n k born)
      rw [List.length_map, List.length_map] at this
      rw [this]; exact W.cap.b
    · obtain ⟨b, l, hb, hbl, sub, ne⟩ := lnUp m b' j l' h hl
      exact Nat.le_trans sub.length_le (W.cap.l m b j l hb hbl)
end Vs
namespace Vs
open PySem L2
section
variable {P : Program} {w : World} {K : PySem.W.Frag} {mg : Str → Option Value} {base : Heap} {T : Cs} {U : Es} {Pt : Addr}
def spTake (T : Cs) : Sp := fun vs H Q _ => ∃ (S : Sh) (α : Rl → Addr) (δ : Dl) (J : List Str) (G : Jud) (n : Int) (k : Str) (b : Br) (l : List Cel) (c : Cel), vs = [.ref (α .brs), .int n, .str k, .int c.1] ∧ Lay T H S α δ J G ∧ δ.Thaw ∧
  aget S.brs n = some b ∧ aget b.lines k = some l ∧ Rise l ∧ l.length ≤ 1000 ∧ c ∈ l ∧ ∀ H', Mv T H S α J H' (S.takeV n k c.1) α δ J G → Q .non H'
abbrev nTake : List Str := ["branches", "number", "key", "born", "lines", "line"]
theorem sc_take : FnScope nTake ["branches", "number", "key", "born"] (defScope s_take_version) := ⟨rfl, rfl, rfl, by decide +kernel, rfl, by decide +kernel, by decide +kernel⟩
theorem cels_erase {H : Hp} : ∀ {rs : List V} {l : List Cel} (j : Nat), Cels H rs l → Cels H (rs.eraseIdx j) (l.eraseIdx j)
  | _, _, _, .nil => .nil
  | _, _, 0, .cons r t => t
  | _, _, j + 1, .cons r t => .cons r (cels_erase j t)
theorem cels_empty {H : Hp} {rs : List V} {l : List Cel} (h : Cels H rs l) : rs.isEmpty = l.isEmpty := by cases h <;> rfl
theorem ok_take_version {f : Addr} {fd : FuncData} (F : Fun K "take_version" "take_version" s_take_version f fd) (B : Bt mg) (C : Cf K T) (c1 : Fx P w K mg base CX0 "newest" 1 ["line", "moment"] (spNewest K)) : FnOk P w K mg base CX0 2 f fd ["branches", "number", "key", "born"] (spTake T) := by
  obtain ⟨f1, fd1, g1, k1, b1, G1⟩ := c1
  refine F.ok sc_take (fun vs H Q E h => ?_) (fun cdv A outer s H vs Q E hr h => ?_)
  · obtain ⟨S, α, δ, J, G, n, k, b, l, c, rfl, _⟩ := h
    rfl
  · obtain ⟨S, α, δ, J, G, n, k, b, l, c, rfl, L, Z, hb, hl, ri, hl1, hc, kq⟩ := h
    have hu := hu_of hr
    refine ⟨_, pss_cons (ps_set (i := 4) sc_take.nd rfl (.inl rfl) (pe_fld (pe_dget hu (pv 0) (pv 1) (fun _ _ => rfl)) rfl))
      (pss_cons (ps_set (i := 5) sc_take.nd rfl (.inl rfl) (pe_dget hu (pv 4) (pv 2) (fun _ _ => rfl)))
      (pss_cons (ps_delL (pv 5) (pe_call G1 hr rfl g1 k1 b1 .nil pass0 (pa_cons (pv 5) (pa_cons (pv 3) pa_nil))))
      (pss_one (ps_if (pt_not (pt_truth (pv 5) (by intro _; rfl))) (pss_one (ps_ddel (pv 4) (pv 2))) pss_nil)))), ?_⟩
    obtain ⟨rs, hrs, hC⟩ := L.ln hb hl
    have gl : DGet H (α (.lns n)) (.str k) (some (.ref (α (.ln n k)))) := by
      have : DGet H (α (.lns n)) (.str k) (valV (enc Sum.inr (fun k _ => V.ref (α (.ln n k))) b.lines) (Sum.inr k)) := .inl ⟨_, Sum.inr k, L.lnsR hb, rfl, rfl⟩
      rw [valV_enc inr_inj, hl] at this; exact this
    obtain ⟨j, hj⟩ := List.mem_iff_getElem?.mp hc
    have hjl := (List.getElem?_eq_some_iff.mp hj).1
    have rl := Cels.length hC
    have ec := cnt_ix ri hj
    refine ⟨_, rfl, _, rfl, _, _, rfl, L.gBr1 hb, _, _, _, _, _, rfl, L.br hb, C.B, C.bLn, rfl, ?_⟩
    refine ⟨_, rfl, _, rfl, _, _, rfl, gl, ?_⟩
    refine ⟨_, rfl, _, rfl, _, rfl, α (.ln n k), c.1, rs, l, rfl, SqL.of hrs, hC, ri, ?_⟩
    rw [ec]
    refine ⟨α (.ln n k), rs, _, j, rfl, rfl, hrs, by omega, by omega, ?_, ?_⟩
    · have e : (((j + 1 : Nat) : Int) - 1) = (j : Int) := by omega
      rw [e, seqIndex_of (by omega) (by omega)]; rfl
    obtain ⟨L1, st1⟩ := L.setLine hb hl (cels_erase j hC)
    rw [cut_ix ri hj] at L1 st1
    have hb1 : aget (S.setBr n { b with lines := aput b.lines k (cutC l c.1) }).brs n = some { b with lines := aput b.lines k (cutC l c.1) } := by rw [setBr_get, if_pos rfl]
    have lk : aget (aput b.lines k (cutC l c.1)) k = some (cutC l c.1) := aget_put_same _ _ _
    obtain ⟨rs1, h1r, hC1⟩ := L1.ln hb1 lk
    have e1 : rs1.isEmpty = (cutC l c.1).isEmpty := cels_empty hC1
    refine ⟨_, rfl, _, .inl ⟨rs1, SqL.of h1r, rfl⟩, ?_⟩
    rw [e1]
    have eT : S.takeV n k c.1 = S.setBr n { b with lines := if cutC l c.1 = [] then adel b.lines k else aput b.lines k (cutC l c.1) } := by
      unfold Sh.takeV
      rw [hb]
      dsimp only
      unfold cutL
      rw [hl]
    cases hz : cutC l c.1 with
    | nil =>
      rw [hz] at L1 st1 hb1 eT
      rw [if_pos rfl] at eT
      refine ifT rfl ⟨_, rfl, _, rfl, _, _, Sum.inr k, rfl, L1.lns0 hb1 (Z n), rfl, by rw [valV_enc inr_inj, aget_put_same]; rfl, ?_⟩
      obtain ⟨L2, st2⟩ := L1.delLine hb1 (Z n) k
      rw [setBr_setBr] at L2 st2
      have e2 : ({ ({ b with lines := aput b.lines k [] } : Br) with lines := adel (aput b.lines k []) k } : Br) = { b with lines := adel b.lines k } := by rw [adel_aput]
      have e3 : adel ({ b with lines := aput b.lines k [] } : Br).lines k = adel b.lines k := adel_aput _ _ _
      refine kq _ ?_
      rw [eT]
      rw [e3] at L2 st2
      exact ⟨L2, st1.trans st2⟩
    | cons d r =>
      refine ifF rfl (kq _ ?_)
      rw [hz] at L1 st1 eT
      rw [if_neg (fun z => by cases z)] at eT
      rw [eT]
      exact ⟨L1, st1⟩
end
end Vs
/-! ## New marks; a branch or a judgement that goes -/
namespace Vs
open PySem L2
section
variable {T : Cs} {H H1 : Hp} {S S' : Sh} {α α' : Rl → Addr} {δ δ' : Dl} {J J' : List Str} {G G' : Jud}
def aMk (α : Rl → Addr) (n : Int) (D : Addr) : Rl → Addr
  | .mks m => if m = n then D else α (.mks m)
  | r => α r
theorem Lay.newMks (L : Lay T H S α δ J G) {n : Int} {b : Br} (hb : aget S.brs n = some b) {D : Addr} (hD : H D = none) (s : Sm H H1) {ms : List (Str × Int)} (h1 : H1 D = some (.dK (enc .inr (fun _ m => .int m) ms))) :
    Mv T H S α J (upd H1 (α (.br n)) (.ins T.B (δ (.br n)) (fBr n { b with marks := ms } (aMk α n D)))) (S.setBr n { b with marks := ms }) (aMk α n D) δ J G := by
  have br1 := s.ins (L.br hb)
  have at_n : aget (S.setBr n { b with marks := ms }).brs n = some { b with marks := ms } := by rw [setBr_get, if_pos rfl]
  have off : ∀ m, m ≠ n → aget (S.setBr n { b with marks := ms }).brs m = aget S.brs m := fun m q => by rw [setBr_get, if_neg q]
  have tp : Tups H1 (upd H1 (α (.br n)) (.ins T.B (δ (.br n)) (fBr n { b with marks := ms } (aMk α n D)))) := fun a xs h => by rw [upd_ne (ne_of h br1 (by intro z; cases z))]; exact h
  have eD : aMk α n D (.mks n) = D := if_pos rfl
  have eb : ∀ m c, aget (S.setBr n { b with marks := ms }).brs m = some c → ∃ c', aget S.brs m = some c' := fun m c h => by
    by_cases q : m = n
    · rw [q]; exact ⟨b, hb⟩
    · rw [off m q] at h; exact ⟨c, h⟩
  have cl : ∀ r, Live (S.setBr n { b with marks := ms }) J r → r = .mks n ∨ (Live S J r ∧ aMk α n D r = α r) := fun r hr => by
    cases r with
    | mks m =>
      by_cases q : m = n
      · exact .inl (by rw [q])
      · obtain ⟨c, hc⟩ := hr
        exact .inr ⟨eb m c hc, if_neg q⟩
    | br m => obtain ⟨c, hc⟩ := hr; exact .inr ⟨eb m c hc, rfl⟩
    | lns m => obtain ⟨c, hc⟩ := hr; exact .inr ⟨eb m c hc, rfl⟩
    | ln m k =>
      obtain ⟨c, l, hc, hl⟩ := hr
      refine .inr ⟨?_, rfl⟩
      by_cases q : m = n
      · subst q
        rw [at_n] at hc; cases hc
        exact ⟨b, l, hb, hl⟩
      · rw [off m q] at hc; exact ⟨c, l, hc, hl⟩
    | sh => exact .inr ⟨hr, rfl⟩
    | brs => exact .inr ⟨hr, rfl⟩
    | hns => exact .inr ⟨hr, rfl⟩
    | jd => exact .inr ⟨hr, rfl⟩
    | hn m => exact .inr ⟨hr, rfl⟩
    | dr m => exact .inr ⟨hr, rfl⟩
    | jg k => exact .inr ⟨hr, rfl⟩
    | ow k => exact .inr ⟨hr, rfl⟩
    | rs k => exact .inr ⟨hr, rfl⟩
  have lbn : Live S J (.br n) := ⟨b, hb⟩
  refine ⟨L.move (s.tups.trans tp) (fun r hr => ?_) (L.injOf fun r hr => ?_), L.stepS s lbn _ fun r hr => ?_⟩
  · rcases cl r hr with z | ⟨h0, e⟩
    · subst z
      refine .inr ⟨_, ?_, { b with marks := ms }, at_n, rfl⟩
      rw [eD, upd_ne (Ne.symm (L.nofr hD lbn))]; exact h1
    · by_cases q : r = .br n
      · subst q
        exact .inr ⟨_, upd_same, { b with marks := ms }, at_n, rfl⟩
      · refine .inl ⟨h0, e, ?_, fun o c => ?_⟩
        · obtain ⟨o, e1, c⟩ := L.at_ r h0
          rw [upd_ne (L.ne h0 lbn q), e1]
          exact s.keep _ _ e1 fun ps z => Cont.nt (z ▸ c)
        · cases r with
          | brs =>
            rw [show o = _ from c]
            show HO.dK _ = HO.dK _
            rw [enc_key, enc_key]
            show _ = HO.dK (((aput S.brs n { b with marks := ms }).map (·.1)).map fun k => (Sum.inl k, V.ref (α (.br k))))
            rw [keys_aput_old _ hb]
          | br m =>
            obtain ⟨c', hc', rfl⟩ := c
            have qm : m ≠ n := fun z => q (by rw [z])
            refine ⟨c', by rw [off m qm]; exact hc', ?_⟩
            show HO.ins _ _ [_, _, _, _, ("marks", V.ref (α (.mks m)))] = HO.ins _ _ [_, _, _, _, ("marks", V.ref (if m = n then D else α (.mks m)))]
            rw [if_neg qm]; rfl
          | lns m =>
            obtain ⟨c', hc', z⟩ := c
            by_cases qm : m = n
            · subst qm
              rw [hb] at hc'; cases hc'
              exact ⟨_, at_n, z⟩
            · exact ⟨c', by rw [off m qm]; exact hc', z⟩
          | mks m =>
            obtain ⟨c', hc', z⟩ := c
            by_cases qm : m = n
            · subst qm
              exact absurd (e.symm.trans eD) (L.nofr hD (r := .mks m) h0)
            · exact ⟨c', by rw [off m qm]; exact hc', z⟩
          | ln m k =>
            obtain ⟨c', l, rs, hc', z⟩ := c
            by_cases qm : m = n
            · subst qm
              rw [hb] at hc'; cases hc'
              exact ⟨_, l, rs, at_n, z⟩
            · exact ⟨c', l, rs, by rw [off m qm]; exact hc', z⟩
          | sh => exact c
          | hns => exact c
          | jd => exact c
          | hn m => exact c
          | dr m => exact c
          | jg k => exact c
          | ow k => exact c
          | rs k => exact c
  · rcases cl r hr with z | h0
    · subst z
      refine .inr ⟨by rw [eD]; exact hD, fun r' hr' y e' => ?_⟩
      rcases cl r' hr' with z | ⟨h2, e2⟩
      · exact z.symm
      · obtain ⟨o, q⟩ := L.there h2
        rw [e2, q] at y; cases y
    · exact .inl h0
  · rcases cl r hr with z | h0
    · subst z; exact .inr (by rw [eD]; exact hD)
    · exact .inl h0
/-- a branch goes -/
theorem Lay.delBr (L : Lay T H S α δ J G) (n : Int) :
    Mv T H S α J (upd H (α .brs) (.dK (dropK (enc .inl (fun n _ => .ref (α (.br n))) S.brs) (.inl n)))) { S with brs := adel S.brs n } α δ J G := by
  rw [dropK_enc inl_inj]
  have old : ∀ m h, aget (adel S.brs n) m = some h → aget S.brs m = some h := fun m h z => by
    rw [aget_del] at z
    by_cases q : m = n
    · rw [if_pos q] at z; cases z
    · rw [if_neg q] at z; exact z
  refine L.put (r0 := .brs) trivial rfl fun r hr hl => ?_
  cases r with
  | brs => exact absurd rfl hr
  | br m =>
    obtain ⟨h', z⟩ := hl
    exact ⟨⟨h', old m h' z⟩, fun o ⟨h2, e2, c⟩ => ⟨h', z, by rw [old m h' z] at e2; cases e2; exact c⟩⟩
  | lns m =>
    obtain ⟨h', z⟩ := hl
    exact ⟨⟨h', old m h' z⟩, fun o ⟨h2, e2, c⟩ => ⟨h', z, by rw [old m h' z] at e2; cases e2; exact c⟩⟩
  | mks m =>
    obtain ⟨h', z⟩ := hl
    exact ⟨⟨h', old m h' z⟩, fun o ⟨h2, e2, c⟩ => ⟨h', z, by rw [old m h' z] at e2; cases e2; exact c⟩⟩
  | ln m k =>
    obtain ⟨h', l, z, y⟩ := hl
    exact ⟨⟨h', l, old m h' z, y⟩, fun o ⟨h2, l2, rs, e2, c⟩ => ⟨h', l2, rs, z, by rw [old m h' z] at e2; cases e2; exact c⟩⟩
  | sh => exact ⟨hl, fun _ c => c⟩
  | hns => exact ⟨hl, fun _ c => c⟩
  | jd => exact ⟨hl, fun _ c => c⟩
  | hn m => exact ⟨hl, fun _ c => c⟩
  | dr m => exact ⟨hl, fun _ c => c⟩
  | jg k => exact ⟨hl, fun _ c => c⟩
  | ow k => exact ⟨hl, fun _ c => c⟩
  | rs k => exact ⟨hl, fun _ c => c⟩
theorem dropJ (J : List Str) (g : Str → V) (k : Str) : dropK (J.map fun j => ((Sum.inr j : Key), g j)) (.inr k) = (J.filter fun j => decide (j ≠ k)).map fun j => ((Sum.inr j : Key), g j) := by
  have := dropK_enc (f := (Sum.inr : Str → Key)) (g := fun j (_ : Unit) => g j) inr_inj (J.map fun j => (j, ())) k
  have e1 : enc (Sum.inr : Str → Key) (fun j (_ : Unit) => g j) (J.map fun j => (j, ())) = J.map fun j => ((Sum.inr j : Key), g j) := by
    unfold enc; rw [List.map_map]; rfl
  rw [e1] at this
  rw [this, enc_key, keys_adel, List.map_map, show (J.map ((fun x => x.fst) ∘ fun j => (j, ()))) = J from by
    rw [show ((fun x : Str × Unit => x.fst) ∘ fun j => (j, ())) = id from rfl, List.map_id]]
/-- a judgement goes -/
theorem Lay.delJg (L : Lay T H S α δ J G) (k : Str) :
    Mv T H S α J (upd H (α .jd) (.dK (dropK (J.map fun k => (.inr k, .ref (α (.jg k)))) (.inr k)))) S α δ (J.filter fun j => decide (j ≠ k)) G := by
  rw [dropJ J (fun j => V.ref (α (.jg j))) k]
  have old : ∀ j, j ∈ (J.filter fun j => decide (j ≠ k)) → j ∈ J := fun j h => (List.mem_filter.mp h).1
  refine L.put (r0 := .jd) trivial rfl fun r hr hl => ?_
  cases r with
  | jd => exact absurd rfl hr
  | jg j => exact ⟨old j hl, fun o c => ⟨hl, c.2⟩⟩
  | ow j => exact ⟨old j hl, fun o c => ⟨hl, c.2⟩⟩
  | rs j => exact ⟨old j hl, fun o c => ⟨hl, c.2⟩⟩
  | sh => exact ⟨hl, fun _ c => c⟩
  | brs => exact ⟨hl, fun _ c => c⟩
  | hns => exact ⟨hl, fun _ c => c⟩
  | br m => exact ⟨hl, fun _ c => c⟩
  | lns m => exact ⟨hl, fun _ c => c⟩
  | mks m => exact ⟨hl, fun _ c => c⟩
  | ln m k => exact ⟨hl, fun _ c => c⟩
  | hn m => exact ⟨hl, fun _ c => c⟩
  | dr m => exact ⟨hl, fun _ c => c⟩
end
end Vs
namespace Vs
open PySem L2
/-! ### first_moments -/
def minI (a b : Int) : Int := if b < a then b else a
def firstA (acc : List (Int × Int)) (h : Hn) : List (Int × Int) := aput acc h.br (minI h.mom ((aget acc h.br).getD h.mom))
def firstM (hs : List (Int × Hn)) : List (Int × Int) := hs.foldl (fun acc p => firstA acc p.2) []
theorem firstM_snoc {hs : List (Int × Hn)} {i : Nat} {p : Int × Hn} (h : hs[i]? = some p) : firstM (hs.take (i + 1)) = firstA (firstM (hs.take i)) p.2 := by
  unfold firstM; rw [take_snoc h, List.foldl_append]; rfl
section
variable {P : Program} {w : World} {K : PySem.W.Frag} {mg : Str → Option Value} {base : Heap} {T : Cs} {U : Es} {Pt : Addr}
def spFirstM (T : Cs) : Sp := fun vs H Q _ => ∃ (Ks : List Str) (S : Sh) (α : Rl → Addr) (δ : Dl) (J : List Str) (G : Jud), vs = [.ref (α .hns)] ∧ Lay T H S α δ J G ∧ WF Ks S ∧
  ∀ H' p, Sm H H' → H p = none → H' p = some (.dK (enc .inl (fun _ m => .int m) (firstM S.hns))) → Q (.ref p) H'
abbrev nFirstM : List Str := ["hands", "first", "hand"]
theorem sc_firstM : FnScope nFirstM ["hands"] (defScope s_first_moments) := ⟨rfl, rfl, rfl, by decide +kernel, rfl, by decide +kernel, by decide +kernel⟩
theorem hn_at {Ks : List Str} {S : Sh} (W : WF Ks S) (α : Rl → Addr) {i : Nat} {x : V} (h : ((enc Sum.inl (fun n _ => V.ref (α (.hn n))) S.hns).map (·.2))[i]? = some x) : ∃ n y, S.hns[i]? = some (n, y) ∧ x = .ref (α (.hn n)) ∧ aget S.hns n = some y := by
  unfold enc at h
  rw [List.map_map, List.getElem?_map] at h
  cases e : S.hns[i]? with
  | none => rw [e] at h; cases h
  | some p =>
    rw [e] at h
    exact ⟨p.1, p.2, rfl, (Option.some.inj h).symm, aget_of_mem (nodup_of_lt W.hks) (List.mem_of_getElem? e)⟩
theorem ok_first_moments {f : Addr} {fd : FuncData} (F : Fun K "first_moments" "first_moments" s_first_moments f fd) (B : Bt mg) (C : Cf K T) : FnOk P w K mg base CX0 1 f fd ["hands"] (spFirstM T) := by
  refine F.ok sc_firstM (fun vs H Q E h => ?_) (fun cdv A outer s H vs Q E hr h => ?_)
  · obtain ⟨Ks, S, α, δ, J, G, rfl, _⟩ := h
    rfl
  · obtain ⟨Ks, S, α, δ, J, G, rfl, L, W, kq⟩ := h
    have hu := hu_of hr
    refine ⟨_, pss_cons (ps_set (i := 1) sc_firstM.nd rfl (.inl rfl) pe_dnewK)
      (pss_cons (ps_for PassesOwn.never rfl (pi_list (pe_listVals rfl (pv 0) (by rfl) B.list rfl)) (pg_name (i := 2) sc_firstM.nd rfl (.inl rfl))
        (pss_one (ps_dput hu (pv 1) (pe_fld (pv 2) rfl) (pe_callB (call_min2 rfl) (by rfl) B.min (by decide +kernel) (pa_cons (pe_fld (pv 2) rfl) (pa_cons (pe_dget2 hu (pv 1) (pe_fld (pv 2) rfl) (pe_fld (pv 2) rfl) ⟨rfl, rfl, rfl, rfl⟩) pa_nil))) rfl)))
      (pss_one (ps_ret (pv 1)))), ?_⟩
    intro fp hfp
    have s1 : Sm H (upd H fp (.dK [])) := Sm.new hfp
    have e1 : upd H fp (.dK []) fp = some (.dK []) := upd_same
    generalize upd H fp (.dK []) = H1 at s1 e1
    have L1 := L.sm s1
    refine ⟨_, rfl, _, _, rfl, .inl L1.hns, fun p hp => ⟨p, rfl, ⟨_, SqL.of upd_same⟩, ?_⟩⟩
    have s2 := s1.trans (Sm.new (o := .lst ((enc Sum.inl (fun n _ => V.ref (α (.hn n))) S.hns).map (·.2))) hp)
    have hpl : upd H1 p (.lst ((enc Sum.inl (fun n _ => V.ref (α (.hn n))) S.hns).map (·.2))) p = some (.lst ((enc Sum.inl (fun n _ => V.ref (α (.hn n))) S.hns).map (·.2))) := upd_same
    have e2 : upd H1 p (.lst ((enc Sum.inl (fun n _ => V.ref (α (.hn n))) S.hns).map (·.2))) fp = some (.dK []) := by rw [upd_ne (ne_of_none e1 hp)]; exact e1
    generalize upd H1 p (.lst ((enc Sum.inl (fun n _ => V.ref (α (.hn n))) S.hns).map (·.2))) = H2 at s2 hpl e2
    refine for_list (K := K) (a := p) (xs := (enc Sum.inl (fun n _ => V.ref (α (.hn n))) S.hns).map (·.2)) (fun i σ H3 => (∃ x, σ = [some (.ref (α .hns)), some (.ref fp), x]) ∧ Sm H H3 ∧ H3 p = some (.lst ((enc Sum.inl (fun n _ => V.ref (α (.hn n))) S.hns).map (·.2))) ∧
        H3 fp = some (.dK (enc .inl (fun _ m => .int m) (firstM (S.hns.take i)))) ∧ (firstM (S.hns.take i)).length ≤ i) ⟨⟨_, rfl⟩, s2, hpl, e2, Nat.le_refl _⟩ (fun i σ H3 _ ⟨_, _, h, _⟩ => SqL.of h) ?_ ?_
    · rintro i x σ H3 hx ⟨⟨x2, rfl⟩, s3, h3p, h3f, hlen⟩
      obtain ⟨n, h, hi, rfl, hh⟩ := hn_at W α hx
      have hil : i < S.hns.length := (List.getElem?_eq_some_iff.mp hi).1
      have L3 := L.sm s3
      have npf : p ≠ fp := ne_of h3p h3f (by intro z; cases z)
      refine ⟨_, rfl, _, _, _, _, _, rfl, L3.hn hh, C.N, C.nMom, rfl, _, rfl, ?_⟩
      have dg : DGet H3 fp (.int h.br) ((aget (firstM (S.hns.take i)) h.br).map V.int) := by
        rw [← valV_enc inl_inj (firstM (S.hns.take i)) h.br (g := fun _ m => V.int m)]; exact DGet.k (k := Sum.inl h.br) h3f
      refine ⟨fp, rfl, .inl ⟨_, .inl h3f⟩, _, rfl, _, _, _, _, _, rfl, L3.hn hh, C.N, C.nBr, rfl, _, rfl, _, _, _, _, _, rfl, L3.hn hh, C.N, C.nMom, rfl, _, dg, ?_⟩
      have eg : ((aget (firstM (S.hns.take i)) h.br).map V.int).getD (.int h.mom) = .int ((aget (firstM (S.hns.take i)) h.br).getD h.mom) := by
        cases aget (firstM (S.hns.take i)) h.br <;> rfl
      refine ⟨_, _, by rw [eg], _, rfl, _, rfl, _, _, _, _, _, rfl, L3.hn hh, C.N, C.nBr, rfl, fp, _, rfl, DPut.k (k := Sum.inl h.br) h3f (by rw [enc_length]; exact le1000000 (by have := W.lenH; omega)), ?_⟩
      refine ⟨⟨_, rfl⟩, (Sm.refl H).own hfp s3 h3f (ntD _) _, by rw [upd_ne npf]; exact h3p, ?_, ?_⟩
      · rw [firstM_snoc hi, upd_same]
        have e := putK_enc (f := Sum.inl) (g := fun _ m => V.int m) (g' := fun _ m => V.int m) inl_inj (firstM (S.hns.take i)) h.br (minI h.mom ((aget (firstM (S.hns.take i)) h.br).getD h.mom)) (.int (minI h.mom ((aget (firstM (S.hns.take i)) h.br).getD h.mom))) rfl (fun _ _ _ => rfl)
        exact congrArg (fun z => some (HO.dK z)) e
      · rw [firstM_snoc hi]
        exact Nat.le_trans (aput_len _ _ _) (Nat.succ_le_succ hlen)
    · rintro σ H3 ⟨⟨x2, rfl⟩, s3, h3p, h3f, hlen⟩
      rw [show ((enc Sum.inl (fun n _ => V.ref (α (.hn n))) S.hns).map (·.2)).length = S.hns.length by rw [List.length_map, enc_length], List.take_length] at h3f
      exact ⟨_, rfl, kq _ fp s3 hfp h3f⟩
end
end Vs
/-! ## dict comprehensions over items, over a list -/
namespace Vs
open PySem L2
abbrev DcTurn (g : TG) (tt : TT) (tk tv : TE) (vs : List Nat) (σ : L2.St) (D : Addr) (x : V) (H : Hp) (N : Hp → Prop) : Prop :=
  g x (wipe σ vs) H fun σ2 H2 => wipe σ2 vs = wipe σ vs ∧ tt σ2 H2 fun b H3 => if b = true then tk σ2 H3 fun y H4 => tv σ2 H4 fun z H5 => ∃ kvs k, y = kV k ∧ H5 D = some (.dK kvs) ∧ kvs.length < sizeLine ∧ N (upd H5 D (.dK (putK kvs k z))) else N H3
theorem dc_items {d : Addr} {o : Obj} {es : List (Key × V)} {g : TG} {tt : TT} {tk tv : TE} {vs : List Nat} {σ : L2.St} {H1 : Hp} {D : Addr} {fin : Hp → Prop} (Pv : Nat → Hp → Prop) (first : Pv 0 (upd H1 D (.dK []))) (still : ∀ i H, Pv i H → H d = some (.frz o (.dK es)))
    (turn : ∀ i k v t H, es[i]? = some (k, v) → Pv i H → H t = none → DcTurn g tt tk tv vs σ D (.ref t) (upd H t (.tup [kV k, v])) (Pv (i + 1))) (last : ∀ H, Pv es.length H → fin H) :
    ∃ W : Nat → Nat → Hp → Prop, (∃ m, W 0 m (upd H1 D (.dK []))) ∧ ∀ i m H, W i m H →
      ((Iti d o es).stop i H ∧ fin H) ∨ ((Iti d o es).go i H ∧ ∃ N : Hp → Prop, (∀ H', N H' → ∃ m', m' < m ∧ W (i + 1) m' H') ∧ ∀ x H', (Iti d o es).yld i H x H' → DcTurn g tt tk tv vs σ D x H' N) := by
  refine ⟨fun i m H => m = es.length - i ∧ i ≤ es.length ∧ Pv i H, ⟨es.length, rfl, Nat.zero_le _, first⟩, fun i m H ⟨em, hi, p⟩ => ?_⟩
  subst em
  rcases Nat.lt_or_ge i es.length with lt | ge
  · refine .inr ⟨⟨still i H p, lt⟩, Pv (i + 1), fun H' q => ⟨es.length - (i + 1), by omega, rfl, lt, q⟩, fun x H' y => ?_⟩
    obtain ⟨t, k, v, e, ex, ht, eH⟩ := y
    subst ex; subst eH
    exact turn i k v t H e p ht
  · obtain rfl : i = es.length := by omega
    exact .inl ⟨⟨still _ H p, ge⟩, last H p⟩
theorem dc_list {K : PySem.W.Frag} {a : Addr} {xs : List V} {g : TG} {tt : TT} {tk tv : TE} {vs : List Nat} {σ : L2.St} {H1 : Hp} {D : Addr} {fin : Hp → Prop} (Pv : Nat → Hp → Prop) (first : Pv 0 (upd H1 D (.dK []))) (still : ∀ i H, Pv i H → SqL K H a xs)
    (turn : ∀ i x H, xs[i]? = some x → Pv i H → DcTurn g tt tk tv vs σ D x H (Pv (i + 1))) (last : ∀ H, Pv xs.length H → fin H) :
    ∃ W : Nat → Nat → Hp → Prop, (∃ m, W 0 m (upd H1 D (.dK []))) ∧ ∀ i m H, W i m H →
      ((Itl K a).stop i H ∧ fin H) ∨ ((Itl K a).go i H ∧ ∃ N : Hp → Prop, (∀ H', N H' → ∃ m', m' < m ∧ W (i + 1) m' H') ∧ ∀ x H', (Itl K a).yld i H x H' → DcTurn g tt tk tv vs σ D x H' N) := by
  refine ⟨fun i m H => m = xs.length - i ∧ i ≤ xs.length ∧ Pv i H, ⟨xs.length, rfl, Nat.zero_le _, first⟩, fun i m H ⟨em, hi, p⟩ => ?_⟩
  subst em
  have sq := still i H p
  rcases Nat.lt_or_ge i xs.length with lt | ge
  · refine .inr ⟨⟨xs, xs[i], sq, List.getElem?_eq_getElem lt⟩, Pv (i + 1), fun H' q => ⟨xs.length - (i + 1), by omega, rfl, lt, q⟩, fun x H' y => ?_⟩
    obtain ⟨eH, y⟩ := y
    subst eH
    exact turn i x _ (y xs sq) p
  · obtain rfl : i = xs.length := by omega
    exact .inl ⟨⟨xs, sq, ge⟩, last H p⟩
end Vs
namespace Vs
open PySem L2
/-! ### take_marks -/
def mkB (fm : List (Int × Int)) (now : Int) (n : Int) (b : Br) : Br := { b with marks := b.marks.filter fun p => decide ((aget fm n).getD now < p.2) }
def mkS (fm : List (Int × Int)) (now : Int) (S : Sh) (n : Int) : Sh := match aget S.brs n with
  | none => S
  | some b => S.setBr n (mkB fm now n b)
def Sh.markTo (S : Sh) (ns : List Int) : Sh := ns.foldl (mkS (firstM S.hns) S.now) S
def Sh.takeM (S : Sh) : Sh := S.markTo (S.brs.map (·.1))
theorem mkS_keys (fm : List (Int × Int)) (now : Int) (S : Sh) (n : Int) : (mkS fm now S n).brs.map (·.1) = S.brs.map (·.1) := by
  unfold mkS
  cases e : aget S.brs n with
  | none => rfl
  | some b => exact keys_aput_old _ e
theorem enc_at {κ β : Type} {f : κ → Key} {g : κ → β → V} {l : List (κ × β)} {i : Nat} {k : Key} {v : V} (h : (enc f g l)[i]? = some (k, v)) : ∃ x y, l[i]? = some (x, y) ∧ k = f x ∧ v = g x y := by
  unfold enc at h
  rw [List.getElem?_map] at h
  cases e : l[i]? with
  | none => rw [e] at h; cases h
  | some p => rw [e] at h; cases (Option.some.inj h); exact ⟨p.1, p.2, rfl, rfl, rfl⟩
theorem not_before {κ β : Type} {l : List (κ × β)} (hn : (l.map (·.1)).Nodup) {i : Nat} {x : κ} {y : β} (h : l[i]? = some (x, y)) : x ∉ (l.take i).map (·.1) := fun m => by
  rw [List.map_take] at m
  obtain ⟨j, hj⟩ := List.mem_iff_getElem?.mp m
  rw [List.getElem?_take] at hj
  by_cases lt : j < i
  · rw [if_pos lt] at hj
    have e2 : (l.map (·.1))[i]? = some x := by rw [List.getElem?_map, h]; rfl
    obtain ⟨j1, j2⟩ := List.getElem?_eq_some_iff.mp hj
    obtain ⟨i1, i2⟩ := List.getElem?_eq_some_iff.mp e2
    have := (List.getElem_inj hn).mp (j2.trans i2.symm)
    omega
  · rw [if_neg lt] at hj; cases hj
theorem upd_back {H : Hp} {a : Addr} {x : HO} (h : H a = some x) : upd H a x = H := by
  funext c
  by_cases e : c = a
  · subst e; rw [upd_same, h]
  · rw [upd_ne e]
theorem upd_comm {H : Hp} {a b : Addr} {x y : HO} (n : a ≠ b) : upd (upd H a x) b y = upd (upd H b y) a x := by
  funext c
  by_cases e1 : c = a
  · subst e1; rw [upd_ne n, upd_same, upd_same]
  · by_cases e2 : c = b
    · subst e2; rw [upd_same, upd_ne e1, upd_same]
    · rw [upd_ne e2, upd_ne e1, upd_ne e1, upd_ne e2]
section
variable {P : Program} {w : World} {K : PySem.W.Frag} {mg : Str → Option Value} {base : Heap} {T : Cs} {U : Es} {Pt : Addr}
def OffMk (α α' : Rl → Addr) : Prop := ∀ r, (∀ n, r ≠ .mks n) → α' r = α r
def spMarks (T : Cs) : Sp := fun vs H Q _ => ∃ (Ks : List Str) (S : Sh) (α : Rl → Addr) (δ : Dl) (J : List Str) (G : Jud), vs = [.ref (α .brs), .ref (α .hns), .int S.now] ∧ Lay T H S α δ J G ∧ WF Ks S ∧
  ∀ H' α', OffMk α α' → Mv T H S α J H' S.takeM α' δ J G → Q .non H'
abbrev nMarks : List Str := ["branches", "hands", "now", "first", "number", "branch", "moment", "key", "told"]
theorem sc_marks : FnScope nMarks ["branches", "hands", "now"] (defScope s_take_marks) := ⟨rfl, rfl, rfl, by decide +kernel, rfl, by decide +kernel, by decide +kernel⟩
theorem ok_take_marks {f : Addr} {fd : FuncData} (F : Fun K "take_marks" "take_marks" s_take_marks f fd) (B : Bt mg) (C : Cf K T) (c1 : Fx P w K mg base CX0 "first_moments" 1 ["hands"] (spFirstM T)) : FnOk P w K mg base CX0 2 f fd ["branches", "hands", "now"] (spMarks T) := by
  obtain ⟨f1, fd1, g1, k1, b1, G1⟩ := c1
  refine F.ok sc_marks (fun vs H Q E h => ?_) (fun cdv A outer s H vs Q E hr h => ?_)
  · obtain ⟨Ks, S, α, δ, J, G, rfl, _⟩ := h
    rfl
  · obtain ⟨Ks, S, α, δ, J, G, rfl, L, W, kq⟩ := h
    have hu := hu_of hr
    refine ⟨_, pss_cons (ps_set (i := 3) sc_marks.nd rfl (.inl rfl) (pe_call G1 hr rfl g1 k1 b1 .nil pass0 (pa_cons (pv 1) pa_nil)))
      (pss_one (ps_for PassesOwn.never rfl (pi_list (pe_callB (cr_dI rfl) (by rfl) B.sorted (by decide +kernel) (pa_cons (pv 0) pa_nil))) (pg_name (i := 4) sc_marks.nd rfl (.inl rfl))
        (pss_cons (ps_set (i := 5) sc_marks.nd rfl (.inl rfl) (pe_dget hu (pv 0) (pv 4) (fun _ _ => rfl)))
        (pss_cons (ps_set (i := 6) sc_marks.nd rfl (.inr rfl) (pe_dget2 hu (pv 3) (pv 4) (pv 2) ⟨rfl, rfl, rfl, rfl⟩))
        (pss_one (ps_fld (pv 5) (pe_lock (pe_dc (own := [("key", 7), ("told", 8)]) (g := gTup K 2 (gCons (gName 7) (gCons (gName 8) gNil))) (tt := tTest (tOp (rI0 fun i j => .bl (decide (j < i))) (tVar 8) (tVar 6))) (tk := tVar 7) (tv := tVar 8) rfl sc_marks.nd (pi_items (pe_fld (pv 5) rfl))
          (blkOk_by (own := [("key", 7), ("told", 8)]) (N := nMarks) (sc := defScope s_take_marks) (by decide +kernel))
          (fun _ _ _ _ _ => pg_tup rfl (pgs_cons (pg_name (i := 7) sc_marks.nd rfl (.inl rfl)) (pgs_cons (pg_name (i := 8) sc_marks.nd rfl (.inl rfl)) pgs_nil)))
          (fun _ _ _ _ _ => by exact pts_one (pt_cmpR op_gt (pv 8) (pv 6) (nomark _)))
          (fun _ _ _ _ _ => by exact (pv 7)) (fun _ _ _ _ _ => by exact (pv 8)))) rfl)))))), ?_⟩
    refine ⟨_, rfl, Ks, S, α, δ, J, G, rfl, L, W, fun H1 fp s1 hfp h1f => ?_⟩
    have L1 := L.sm s1
    refine ⟨_, rfl, α .brs, _, S.brs.map (·.1), rfl, .inl L1.brs, enc_keys _, W.bks, fun p hp => ⟨p, rfl, ⟨_, SqL.of upd_same⟩, ?_⟩⟩
    have s2 := s1.trans (Sm.new (o := .lst ((S.brs.map (·.1)).map V.int)) hp)
    have hpl : upd H1 p (.lst ((S.brs.map (·.1)).map V.int)) p = some (.lst ((S.brs.map (·.1)).map V.int)) := upd_same
    have h2f := (Sm.new (o := .lst ((S.brs.map (·.1)).map V.int)) hp).dK h1f
    generalize upd H1 p (.lst ((S.brs.map (·.1)).map V.int)) = H2 at s2 hpl h2f
    have L2 := L.sm s2
    have nFp : ¬ Foot S α J p := fun ⟨r, hr, e⟩ => L1.nofr hp hr e
    have nFf : ¬ Foot S α J fp := fun ⟨r, hr, e⟩ => L.nofr hfp hr e
    refine for_list (K := K) (a := p) (xs := (S.brs.map (·.1)).map V.int) (fun i σ H3 => (∃ x4 x5 x6 x7 x8, σ = [some (.ref (α .brs)), some (.ref (α .hns)), some (.int S.now), some (.ref fp), x4, x5, x6, x7, x8]) ∧
        ∃ α3, OffMk α α3 ∧ Mv T H2 S α J H3 (S.markTo ((S.brs.map (·.1)).take i)) α3 δ J G ∧ (S.markTo ((S.brs.map (·.1)).take i)).brs.map (·.1) = S.brs.map (·.1) ∧ ∀ n b, aget (S.markTo ((S.brs.map (·.1)).take i)).brs n = some b → ∃ b0, aget S.brs n = some b0 ∧ b.marks.Sublist b0.marks)
      ⟨⟨_, _, _, _, _, rfl⟩, α, fun _ _ => rfl, ⟨L2, Step.refl _ _⟩, rfl, fun n b h => ⟨b, h, List.Sublist.refl _⟩⟩ (fun i σ H3 _ ⟨_, α3, _, ⟨_, st⟩, _⟩ => SqL.of (st.keep p _ hpl (ntL _) nFp).1) ?_ ?_
    · rintro i x σ H3 hx ⟨⟨x4, x5, x6, x7, x8, rfl⟩, α3, off3, ⟨L3, st3⟩, keys3, sub3⟩
      obtain ⟨n, b0, hi, rfl, hb0⟩ := key_at W.bks hx
      have hin : (S.brs.map (·.1))[i]? = some n := by rw [List.getElem?_map, hi]; rfl
      have eS : S.markTo ((S.brs.map (·.1)).take (i + 1)) = mkS (firstM S.hns) S.now (S.markTo ((S.brs.map (·.1)).take i)) n := by
        unfold Sh.markTo; rw [take_snoc hin, List.foldl_append]; rfl
      rw [eS]
      generalize S.markTo ((S.brs.map (·.1)).take i) = S3 at L3 st3 keys3 sub3
      obtain ⟨b, hb⟩ : ∃ b, aget S3.brs n = some b := aget_of_key (by rw [keys3]; exact List.mem_of_getElem? hin)
      obtain ⟨b00, e00, sub⟩ := sub3 n b hb
      rw [hb0] at e00; cases e00
      have ndm : (b.marks.map (·.1)).Nodup := (W.mks n b0 hb0).1.sublist (sub.map _)
      have lenm : b.marks.length ≤ 60 := by
        have a1 := len_le_pool (W.mks n b0 hb0).1 (W.mks n b0 hb0).2
        rw [List.length_map] at a1
        exact Nat.le_trans sub.length_le (Nat.le_trans a1 W.pool)
      have eBrs : α3 .brs = α .brs := off3 _ (fun _ z => by cases z)
      have h3f := (st3.keep fp _ h2f (ntD _) nFf).1
      have gB : DGet H3 (α .brs) (.int n) (some (.ref (α3 (.br n)))) := eBrs ▸ L3.gBr1 hb
      refine ⟨_, rfl, _, rfl, _, _, rfl, gB, ?_⟩
      have gF : DGet H3 fp (.int n) ((aget (firstM S.hns) n).map V.int) := by
        rw [← valV_enc inl_inj (firstM S.hns) n (g := fun _ m => V.int m)]; exact DGet.k (k := Sum.inl n) h3f
      refine ⟨_, rfl, fp, rfl, .inl ⟨_, .inl h3f⟩, _, rfl, _, rfl, _, gF, ?_⟩
      have eg : ((aget (firstM S.hns) n).map V.int).getD (.int S.now) = .int ((aget (firstM S.hns) n).getD S.now) := by
        cases aget (firstM S.hns) n <;> rfl
      rw [eg]
      have hd : H3 (α3 (.mks n)) = some (.dK (enc .inr (fun _ m => .int m) b.marks)) := L3.mks hb
      refine ⟨α3 (.mks n), _, hd, trivial, fun od => ?_⟩
      have nbd : α3 (.br n) ≠ α3 (.mks n) := L3.ne (r := .br n) (r' := .mks n) ⟨b, hb⟩ ⟨b, hb⟩ (by intro z; cases z)
      refine ⟨_, rfl, _, _, _, _, _, rfl, by rw [upd_ne nbd]; exact L3.br hb, C.B, C.bMk, rfl, α3 (.mks n), od, _, rfl, upd_same, fun D hD => ?_⟩
      have nDd : D ≠ α3 (.mks n) := fun e => by rw [e, upd_same] at hD; cases hD
      have hD3 : H3 D = none := by rw [upd_ne nDd] at hD; exact hD
      refine dc_items (fun j H4 => H4 (α3 (.mks n)) = some (.frz od (.dK (enc .inr (fun _ m => .int m) b.marks))) ∧ Sm H3 (upd H4 (α3 (.mks n)) (.dK (enc .inr (fun _ m => .int m) b.marks))) ∧
          H4 D = some (.dK (enc .inr (fun _ m => .int m) ((b.marks.take j).filter fun q => decide ((aget (firstM S.hns) n).getD S.now < q.2))))) ⟨?_, ?_, upd_same⟩ (fun _ _ h => h.1) ?_ ?_
      · rw [upd_ne nDd.symm]; exact upd_same
      · rw [upd_comm nDd, upd_upd, upd_back hd]; exact Sm.new hD3
      · rintro j k v t H4 hj ⟨h4d, s4, h4D⟩ ht
        obtain ⟨key, m, hjm, rfl, rfl⟩ := enc_at hj
        have ntd : t ≠ α3 (.mks n) := fun e => by rw [e, h4d] at ht; cases ht
        have ntD' : D ≠ t := ne_of_none h4D ht
        have s5 : Sm H3 (upd (upd H4 t (.tup [.str key, .int m])) (α3 (.mks n)) (.dK (enc .inr (fun _ m => .int m) b.marks))) := by
          rw [upd_comm ntd]
          exact s4.trans (Sm.new (by rw [upd_ne ntd]; exact ht))
        have d5 : upd H4 t (.tup [.str key, .int m]) (α3 (.mks n)) = some (.frz od (.dK (enc .inr (fun _ m => .int m) b.marks))) := by rw [upd_ne ntd.symm]; exact h4d
        have D5 : upd H4 t (.tup [.str key, .int m]) D = some (.dK (enc .inr (fun _ m => .int m) ((b.marks.take j).filter fun q => decide ((aget (firstM S.hns) n).getD S.now < q.2)))) := by rw [upd_ne ntD']; exact h4D
        have t5 : upd H4 t (.tup [.str key, .int m]) t = some (.tup [.str key, .int m]) := upd_same
        show DcTurn _ _ _ _ _ _ _ _ (upd H4 t (.tup [.str key, .int m])) _
        generalize upd H4 t (.tup [.str key, .int m]) = H5 at s5 d5 D5 t5
        refine ⟨t, _, rfl, SqT.of t5, rfl, _, _, rfl, _, _, rfl, rfl, rfl, _, rfl, _, rfl, _, _, rfl, rfl, _, rfl, ?_⟩
        rw [take_snoc hjm, List.filter_append]
        by_cases c : (aget (firstM S.hns) n).getD S.now < m
        · refine ifT (decide_eq_true c) ⟨_, rfl, _, rfl, _, Sum.inr key, rfl, D5, ?_, ?_, ?_, ?_⟩
          · rw [enc_length]
            exact le1000000 (Nat.le_trans (List.length_filter_le _ _) (by rw [List.length_take]; omega))
          · rw [upd_ne nDd.symm]; exact d5
          · rw [upd_comm nDd]
            exact (Sm.refl H3).own hD3 s5 (by rw [upd_ne nDd]; exact D5) (ntD _) _
          · rw [upd_same, putK_enc (f := Sum.inr) (g := fun _ m => V.int m) (g' := fun _ m => V.int m) inr_inj _ key m (.int m) rfl (fun _ _ _ => rfl), aput_new, List.filter_cons, if_pos (by simpa using c), List.filter_nil]
            exact aget_none_of fun z => not_before ndm hjm ((List.filter_sublist.map _).subset z)
        · refine ifF (decide_eq_false c) ⟨d5, s5, ?_⟩
          rw [List.filter_cons, if_neg (by simpa using c), List.filter_nil, List.append_nil]
          exact D5
      · rintro H4 ⟨h4d, s4, h4D⟩
        rw [enc_length, List.take_length] at h4D
        refine ⟨h4d, ?_⟩
        have D4 : upd H4 (α3 (.mks n)) (.dK (enc .inr (fun _ m => .int m) b.marks)) D = some (.dK (enc .inr (fun _ m => .int m) (b.marks.filter fun q => decide ((aget (firstM S.hns) n).getD S.now < q.2)))) := by rw [upd_ne nDd]; exact h4D
        generalize upd H4 (α3 (.mks n)) (.dK (enc .inr (fun _ m => .int m) b.marks)) = H5 at s4 D4
        have L5 := L3.sm s4
        refine ⟨_, rfl, _, _, _, _, rfl, L5.br hb, C.B, C.bMk, by show 5 < 1000; decide, ?_⟩
        have mv := L3.newMks hb hD3 s4 D4
        have eP : fBr n { b with marks := b.marks.filter fun q => decide ((aget (firstM S.hns) n).getD S.now < q.2) } (aMk α3 n D) = putF "marks" (V.ref D) (fBr n b α3) := by
          unfold fBr
          rw [show aMk α3 n D (.mks n) = D from if_pos rfl]; rfl
        rw [eP] at mv
        have e2 : mkS (firstM S.hns) S.now S3 n = S3.setBr n (mkB (firstM S.hns) S.now n b) := by unfold mkS; rw [hb]
        refine ⟨⟨_, _, _, _, _, rfl⟩, aMk α3 n D, fun r hr => ?_, ?_, ?_, ?_⟩
        · rw [← off3 r hr]
          cases r with
          | mks m => exact absurd rfl (hr m)
          | _ => rfl
        · rw [e2]; exact ⟨mv.1, st3.trans mv.2⟩
        · rw [mkS_keys]; exact keys3
        · rw [e2]
          intro m c hc
          rw [setBr_get] at hc
          by_cases q : m = n
          · rw [if_pos q] at hc
            cases hc
            exact ⟨b0, by rw [q]; exact hb0, (List.filter_sublist).trans sub⟩
          · rw [if_neg q] at hc; exact sub3 m c hc
    · rintro σ H3 ⟨⟨x4, x5, x6, x7, x8, rfl⟩, α3, off3, ⟨L3, st3⟩, keys3, _⟩
      rw [show ((S.brs.map (·.1)).map V.int).length = (S.brs.map (·.1)).length from List.length_map .., List.take_length] at L3 st3
      exact kq _ α3 off3 ⟨L3, (Step.sm s2).trans st3⟩
end
end Vs
/-! ## d[None] = v, behind which d is no longer read -/
namespace Vs
open PySem PySem.Spec PyProof.Rows L2
def spent : HO := .ext fun _ => True
def sDPutN (td ty tv : TE) : TS := fun D σ H => tv σ H fun v H1 => td σ H1 fun x H2 => ty σ H2 fun y H3 => ∃ a H4, x = .ref a ∧ (DPut H3 a y v H4 ∨ (y = .non ∧ H4 = upd H3 a spent ∧ ∃ es, H3 a = some (.dK es))) ∧ D.nx σ H4
section
variable {X : Cx} {o i value : Expr} {td ty tv : TE} {pos pos' : Pos}
theorem set_none {pins : List (Addr × Obj)} {σ : L2.St} {H : Hp} {s : Shared} {a : Addr} {es : List (Key × V)} {r : Value} {A : Around} {E : Value → Shared → Prop} {Q : Unit → Shared → Prop} (I : Inv X pins σ H s) (e : H a = some (.dK es)) (post : ∀ s', Inv X pins σ (upd H a spent) s' → Q () s') :
    wpAny (model X.prog X.w) A (setItem (.ref a) .none r) Q E s := by
  obtain ⟨size, low, ws, rel, dd⟩ := dk_of I.hok e
  obtain ⟨m, hm, _⟩ := none_map dd
  have le : s.heap.DictLe a sizeLine := by
    obtain ⟨ob, en, ep, ho, hx, hdt, hk, hp, hn⟩ := dd
    intro ob' en' ep' ho' hd'
    rw [ho] at ho'; cases ho'
    rw [hdt] at hd'; cases hd'
    have := hp.length
    have l2 := rel.length
    simp at this
    omega
  refine wpAny_setItem_of (k := none) (knd := noneKind X.prog X.w) (show (noneKind X.prog X.w).is none .none = true from rfl) hm (fun h' hm' sb => post _ ?_) le
  have there : ∃ q, h'.get? a = some q := let ⟨q, _, _, hq, _⟩ := hm'; ⟨q, hq⟩
  exact d_write I (by rw [e]; exact True.intro) sb there ⟨trivial, there, fun _ _ _ _ => trivial⟩
theorem ps_dputN (hu : X.A.units + 1 < cLine) (ho : PE X o td) (hi : PE X i ty) (hv : PE X value tv) (hs : swapsWith value (some (.Subscript o i pos')) pos.line X.env = pure false) :
    PS X (.Assign [.Subscript o i pos'] value pos) (sDPutN td ty tv) := by
  constructor
  intro pins s σ H D I pre
  refine wpAny_Assign_Subscript (thn (hv.run pins s σ H _ I pre) fun r z1 ⟨v, H1, I1, rv, q1⟩ => thn (ho.run pins z1 σ H1 _ I1 q1) fun u z2 ⟨x, H2, I2, rx, q2⟩ => thn (hi.run pins z2 σ H2 _ I2 q2) fun iv z3 ⟨y, H3, I3, ry, a, H4, ex, g, q3⟩ => ?_) hs
  subst ex
  obtain rfl : u = Value.ref a := rx
  rcases g with g | ⟨ey, eH, es, g⟩
  · exact d_setItem hu I3 g ry rv fun z4 I4 => ⟨σ, H4, I4, q3⟩
  · subst ey; subst eH
    obtain rfl : iv = Value.none := ry
    exact set_none I3 g fun z4 I4 => ⟨σ, _, I4, q3⟩
end
end Vs
/-! ## sorted(d, reverse=True), the keys of d whole numbers that rise -/
namespace Vs
open PySem PySem.Spec PyProof.Rows L2
section
variable {X : Cx}
theorem cr_dIR (calm : X.calm = true) : CallRK X (.builtin "sorted") [Str.ofString "reverse"] (fun vs zs H Q => ∃ (d : Addr) (kvs : List (Key × V)) (ks : List Int), vs = [.ref d] ∧ zs = [.bl true] ∧ Rd H d (.dK kvs) ∧ kvs.map (·.1) = ks.map Sum.inl ∧ ks.Pairwise (· < ·) ∧
    ∀ p, H p = none → Q (.ref p) (upd H p (.lst (ks.reverse.map V.int)))) := by
  intro pins z σ H vs zs us ws0 Q I rel rz pre
  obtain ⟨d, kvs, ks, rfl, rfl, rd, keys, rise, post⟩ := pre
  obtain ⟨u, eu, ru⟩ := vals1 rel
  subst eu; cases ru
  obtain ⟨w1, rfl, e1⟩ := vals1 rz
  obtain rfl : w1 = Value.bool true := e1
  obtain ⟨size, low, ws, kv, dict⟩ := dk_rd I.hok rd
  obtain ⟨ep, raw⟩ := dict.dictAt
  have wk : ws.map (·.1) = ks.map Sum.inl := kv.keys.symm.trans keys
  have wl : ws.length = ks.length := by
    have e := congrArg List.length wk
    simpa using e
  have kl : ks.length ≤ sizeLine := by
    have e := congrArg List.length keys
    rw [List.length_map, List.length_map] at e
    omega
  refine call_function_entry_kw kind_sorted plain_sorted entry_sorted (PyProof.Rows.args_sorted_rev _ _) ?_
  unfold Builtin.«sorted»
  refine wpAny_bind (m := checkCount "sorted" 1 1 _) (wpAny_pure ?_)
  refine wpAny_bind (PySem.W.kdu_collect (A := X.A.in1) (PySem.W.kdl_dict (knd := mixKind X.prog X.w) (kvs := ws) (ep := ep) low) (I.ok.hd calm) raw (by omega) fun g tk acc keep got => ?_)
  have al : acc.toList.length = ks.length := by rw [Array.length_toList, got.1, wl]
  have ia : IntsAre acc.toList ks := ints_each al fun j v e => by
    obtain ⟨k, x, e1, e2⟩ := got.2 j v (by rw [← Array.getElem?_toList]; exact e)
    have e3 : (ws.map (·.1))[j]? = some k := by rw [List.getElem?_map, e1]; rfl
    rw [wk, List.getElem?_map] at e3
    cases e4 : ks[j]? with
    | none => rw [e4] at e3; cases e3
    | some y =>
      rw [e4] at e3
      obtain rfl : Sum.inl y = k := Option.some.inj e3
      rcases keyIs_shape (show keyIs (Sum.inl y) v = true from e2) with ⟨i, t, ek, ev⟩ | ⟨i, t, ek, ev⟩
      · cases ek; exact ⟨y, t, rfl, ev⟩
      · cases ek
  have J : Inv X pins σ H { z with heap := g, toks := tk } := I.kept keep
  refine wpAny_bind (wpAny_newList ?_ (by rw [al]; exact kl))
  have at0 : (g.push (seqObj "list" acc.toList.toArray 0)).get? g.objs.size = some (seqObj "list" acc.toList.toArray 0) := Heap.get?_push_size _ rfl
  show wpAny _ _ _ _ _ { z with heap := g.push (seqObj "list" acc.toList.toArray 0), toks := tk }
  refine wpAny_bind (wpAny_holding (wpAny_call_entry_kw slot_list_sort ⟨_, at0, rfl⟩ entry_list_sort
    (SrtR.list_sort_ordR (b := true) (s := { z with heap := g.push (seqObj "list" acc.toList.toArray 0), toks := tk }) SrtO.swo_int at0 (by rw [al]; exact kl) (fun two => SrtO.ints_sortable ia two) fun out o1 o2 => ⟨_, rfl, ?_⟩) (PyProof.Rows.args_list_sort_rev _ _)))
  obtain ⟨ns, i1, i2, i3⟩ := SrtR.ints_outR (b := true) ia o1 o2
  have io : ns = ks.reverse := by
    have h3 : ns.Pairwise (· ≥ ·) := i3
    have h4 : ns.reverse.Pairwise (· ≤ ·) := by rw [List.pairwise_reverse]; exact h3
    have := ints_unique h4 rise ((List.reverse_perm _).trans i2)
    rw [← this, List.reverse_reverse]
  obtain ⟨ep', at1⟩ := sortedHeap_at (vs := acc.toList) (out := out.toArray.reverse) at0
  rw [io] at i1
  have i1' : IntsAre (out.toArray.reverse).toList ks.reverse := i1
  refine wpAny_pure ⟨_, rfl, .ref g.objs.size, upd H g.objs.size (.lst (ks.reverse.map V.int)), J.laid (t' := tk) (fun b o e => ?_) (Nat.le_refl _)
    (show ObjOk X.prog X.w _ _ _ (.lst (ks.reverse.map V.int)) from ⟨by rw [List.length_map, List.length_reverse]; exact kl, _, ep', vals_of_ints i1', by rw [Array.toArray_toList]; exact at1⟩), rfl, post _ (J.hok.fresh (Nat.le_refl _))⟩
  have lt : b < g.objs.size := Heap.lt_size e
  show (sortedHeap _ _ _ out.toArray.reverse).get? b = some o
  rw [sortedHeap_old (Nat.ne_of_lt lt) (by rw [size_push']; exact Nat.lt_succ_of_lt lt)]
  exact Heap.get?_push_of_some _ e
end
end Vs
/-! ## name = {k: v for .. in ..}, the name a local -/
namespace Vs
open PySem PySem.Spec PyProof.Rows L2
section
variable {X : Cx}
theorem ps_setDc {i : Nat} {y : Str} {py : Pos} {kx vx tg iter : Expr} {ifs : List Expr} {scope : Scope} {own : List (Str × Nat)} {pos spos : Pos} {wi : TI} {g : TG} {tt : TT} {tk tv : TE} (calm : X.calm = true) (nd : X.N.Nodup) (hy : X.N[i]? = some y) (hyl : X.env.scope.names.lookup y = some .local)
    (sw : swapsWith (.DictComp kx vx [⟨tg, iter, ifs, 0⟩] scope pos) (some (.Name y py)) spos.line X.env = pure true) (hi : PI X tg iter wi) (ok : BlkOk X.N X.env.scope scope own)
    (hg : ∀ (z : Shared) (H : Hp) (C : Addr) (cl : List (Str × Addr)) (fp : List Addr), PG (X.blk z H scope (compEnvC scope cl C X.env) fp) tg g) (ht : ∀ (z : Shared) (H : Hp) (C : Addr) (cl : List (Str × Addr)) (fp : List Addr), PTs (X.blk z H scope (compEnvC scope cl C X.env) fp) ifs tt)
    (hk : ∀ (z : Shared) (H : Hp) (C : Addr) (cl : List (Str × Addr)) (fp : List Addr), PE (X.blk z H scope (compEnvC scope cl C X.env) fp) kx tk) (he : ∀ (z : Shared) (H : Hp) (C : Addr) (cl : List (Str × Addr)) (fp : List Addr), PE (X.blk z H scope (compEnvC scope cl C X.env) fp) vx tv)
    (hs : ∀ x, foldedSetIterable iter X.env x = pure x := by intro _; rfl) : PS X (.Assign [.Name y py] (.DictComp kx vx [⟨tg, iter, ifs, 0⟩] scope pos) spos) (tAsg (tDc wi g tt tk tv (own.map (·.2))) (gName i)) := by
  constructor
  intro pins s σ H D I pre
  rw [exec_Assign_Name_used _ _ _ _ sw]
  refine wpAny_bind (wpAny_standAt (wpAny_bind ?_))
  show wpAny _ X.A (do let _ ← comprehension (.DictComp kx vx [⟨tg, iter, ifs, 0⟩] scope pos) scope X.env (firstIterPos [⟨tg, iter, ifs, 0⟩] pos) newDict false (eval iter X.env) (some (assign (.Name y py) X.env))) _ _ s
  have pre : tDc wi g tt tk tv (own.map (·.2)) σ H (fun x H1 => gName i x σ H1 D.nx) := pre
  refine wpAny_bind (thn (dc_core (Qf := fun _ z => SP X pins D .next z) calm nd I hi ok hg ht hk he hs pre fun N C z m H' I' q ns f => ?_) fun _ z hq => wpAny_pure (wpAny_pure hq))
  show wpAny _ _ (assign (.Name y py) X.env (.ref N)) _ _ _
  refine wpAny_assign_Name (store_ok2 (v := V.ref N) I' nd hy (.inl hyl) rfl (fun z2 I2 ⟨a, sb, ha⟩ => ?_) (.inr hyl))
  obtain ⟨f0, f1, f2, f3, f4, f5⟩ := f
  have ca : C ≠ a := ha.elim (fun e => by rw [e]; exact f1) fun e q => f4 y a e q.symm
  exact ⟨m, ns.sameBut sb ca, fun h3 sb3 => ⟨_, H', I2.turned (t' := z2.toks) (fun b o hb e => (sb3.2 b hb).trans e) f0 f1 f3 f4 f5, q⟩⟩
theorem sw_dc {kx vx : Expr} {gs : List Comprehension} {scope : Scope} {pos py : Pos} {y : Str} {l : Nat} {env : Env} (fn : env.scope.kind = .function) (loc : env.scope.names.lookup y = some .local) (hl : (py.line == pos.line) = true)
    (own : (scope.names.any fun (n, k) => n == y && (k == .local || k == .cell)) = false) : swapsWith (.DictComp kx vx gs scope pos) (some (.Name y py)) l env = pure true := by
  have ky : env.kindOf y = some .local := loc
  have kf : env.blockKind = .function := by unfold Env.blockKind; rw [fn]; rfl
  unfold swapsWith
  simp only [kf, ky, own, Expr.pos, hl]
  rfl
end
end Vs
namespace Vs
open PySem L2
/-! ### take_branches -/
def goB (st : List Int × Sh) (n : Int) : List Int × Sh := match aget st.2.brs n with
  | none => st
  | some b => if b.alive = true ∨ b.lines ≠ [] ∨ n ∈ st.1 then (b.ben.toList ++ st.1, st.2) else (st.1, { st.2 with brs := adel st.2.brs n })
def Sh.goTo (S : Sh) (ns : List Int) : List Int × Sh := ns.foldl goB (S.hns.map (·.2.br), S)
def Sh.takeB (S : Sh) : Sh := (S.goTo (S.brs.map (·.1)).reverse).2
theorem goTo_snoc (S : Sh) {ns : List Int} {i : Nat} {n : Int} (h : ns[i]? = some n) : S.goTo (ns.take (i + 1)) = goB (S.goTo (ns.take i)) n := by
  unfold Sh.goTo; rw [take_snoc h, List.foldl_append]; rfl
theorem goB_off (st : List Int × Sh) (n m : Int) (h : m ≠ n) : aget (goB st n).2.brs m = aget st.2.brs m := by
  unfold goB
  cases e : aget st.2.brs n with
  | none => rfl
  | some b =>
    dsimp only
    split
    · rfl
    · show aget (adel st.2.brs n) m = _
      rw [aget_del, if_neg h]
theorem Lay.away {T : Cs} {H : Hp} {S : Sh} {α : Rl → Addr} {δ : Dl} {J : List Str} {G : Jud} (L : Lay T H S α δ J G) {D : Addr} (n : ¬ Foot S α J D) {es : List (Key × V)} (h : H D = some (.dK es)) (o : HO) : Lay T (upd H D o) S α δ J G :=
  L.keep (fun a xs e => by rw [upd_ne (ne_of e h (by intro z; cases z))]; exact e) fun r hr => upd_ne fun e => n ⟨r, hr, e⟩
theorem Step.own {H H' : Hp} {F F' : Addr → Prop} (st : Step H F H' F') {D : Addr} (hD : H D = none) (o : HO) : Step H F (upd H' D o) F' := by
  refine ⟨fun a x h t n => ?_, fun P hP => ?_, fun a xs h => ?_⟩
  · obtain ⟨h1, h2⟩ := st.keep a x h t n
    exact ⟨by rw [upd_ne (ne_of_none h hD)]; exact h1, h2⟩
  · obtain ⟨ps, e, t⟩ := st.tab P hP
    obtain ⟨qs, e', _⟩ := hP
    exact ⟨ps, by rw [upd_ne (ne_of_none e' hD)]; exact e, t⟩
  · rw [upd_ne (ne_of_none h hD)]; exact st.tups a xs h
section
variable {P : Program} {w : World} {K : PySem.W.Frag} {mg : Str → Option Value} {base : Heap} {T : Cs} {U : Es} {Pt : Addr}
def spTakeB (T : Cs) : Sp := fun vs H Q _ => ∃ (Ks : List Str) (S : Sh) (α : Rl → Addr) (δ : Dl) (J : List Str) (G : Jud), vs = [.ref (α .brs), .ref (α .hns)] ∧ Lay T H S α δ J G ∧ WF Ks S ∧ δ.Thaw ∧
  ∀ H', Mv T H S α J H' S.takeB α δ J G → Q .non H'
abbrev nTakeB : List Str := ["branches", "hands", "needed", "latest_first", "number", "branch", "hand"]
theorem sc_takeB : FnScope nTakeB ["branches", "hands"] (defScope s_take_branches) := ⟨rfl, rfl, rfl, by decide +kernel, rfl, by decide +kernel, by decide +kernel⟩
theorem ok_take_branches {f : Addr} {fd : FuncData} (F : Fun K "take_branches" "take_branches" s_take_branches f fd) (B : Bt mg) (C : Cf K T) : FnOk P w K mg base CX0 1 f fd ["branches", "hands"] (spTakeB T) := by
  refine F.ok sc_takeB (fun vs H Q E h => ?_) (fun cdv A outer s H vs Q E hr h => ?_)
  · obtain ⟨Ks, S, α, δ, J, G, rfl, _⟩ := h
    rfl
  · obtain ⟨Ks, S, α, δ, J, G, rfl, L, W, Z, kq⟩ := h
    have hu := hu_of hr
    refine ⟨_, pss_cons (ps_setDc (i := 2) (own := [("hand", 6)]) (g := gName 6) (tt := tYes) (tk := tFld K (tVar 6) "branch") (tv := tC (.bl true)) rfl sc_takeB.nd rfl rfl (sw_dc rfl rfl rfl (by decide +kernel)) (pi_list (pe_listVals rfl (pv 1) (by rfl) B.list rfl))
        (blkOk_by (own := [("hand", 6)]) (N := nTakeB) (sc := defScope s_take_branches) (by decide +kernel)) (fun _ _ _ _ _ => pg_name (i := 6) sc_takeB.nd rfl (.inl rfl)) (fun _ _ _ _ _ => pts_nil)
        (fun _ _ _ _ _ => by exact pe_fld (pv 6) rfl) (fun _ _ _ _ _ => by exact pe_bl))
      (pss_cons (ps_set (i := 3) sc_takeB.nd rfl (.inl rfl) (pe_callBK (cr_dIR rfl) (by rfl) B.sorted (by decide +kernel) (pa_cons (pv 0) pa_nil) (pk_cons pe_bl pk_nil)))
      (pss_one (ps_for PassesOwn.never rfl (pi_list (pv 3)) (pg_name (i := 4) sc_takeB.nd rfl (.inl rfl))
        (pss_cons (ps_set (i := 5) sc_takeB.nd rfl (.inl rfl) (pe_dget hu (pv 0) (pv 4) (fun _ _ => rfl)))
        (pss_one (ps_if (PW.pt (pw_or (pt_val (pe_fld (pv 5) rfl)) (pw_or (pt_truth (pe_fld (pv 5) rfl) (by intro _; rfl)) (pw_or1 (pt_cmp (pc_din hu (pv 4) (pv 2)))))))
          (pss_one (ps_dputN hu (pv 2) (pe_fld (pv 5) rfl) pe_bl rfl))
          (pss_one (ps_ddel (pv 0) (pv 4))))))))), ?_⟩
    refine ⟨_, rfl, _, _, rfl, .inl L.hns, fun p hp => ⟨p, rfl, ⟨_, SqL.of upd_same⟩, fun D hD => ?_⟩⟩
    have s1 : Sm H (upd H p (.lst ((enc Sum.inl (fun n _ => V.ref (α (.hn n))) S.hns).map (·.2)))) := Sm.new hp
    have hpl : upd H p (.lst ((enc Sum.inl (fun n _ => V.ref (α (.hn n))) S.hns).map (·.2))) p = some (.lst ((enc Sum.inl (fun n _ => V.ref (α (.hn n))) S.hns).map (·.2))) := upd_same
    generalize upd H p (.lst ((enc Sum.inl (fun n _ => V.ref (α (.hn n))) S.hns).map (·.2))) = H1 at s1 hpl hD
    have hD0 : H D = none := s1.free hD
    have npD : p ≠ D := ne_of_none hpl hD
    refine dc_list (K := K) (a := p) (xs := (enc Sum.inl (fun n _ => V.ref (α (.hn n))) S.hns).map (·.2)) (fun i H2 => Sm H H2 ∧ H2 p = some (.lst ((enc Sum.inl (fun n _ => V.ref (α (.hn n))) S.hns).map (·.2))) ∧
        ∃ es : List (Key × V), H2 D = some (.dK es) ∧ es.length ≤ i ∧ ∀ q : Int, (valV es (.inl q)).isSome = decide (q ∈ ((S.hns.take i).map fun h => h.2.br)))
      ⟨s1.trans (Sm.new hD), by rw [upd_ne npD]; exact hpl, [], upd_same, Nat.le_refl _, fun q => rfl⟩ (fun i H2 h => SqL.of h.2.1) ?_ ?_
    · rintro i x H2 hx ⟨s2, h2p, es, h2D, hlen, hval⟩
      obtain ⟨n, h, hi, rfl, hh⟩ := hn_at W α hx
      have hil : i < S.hns.length := (List.getElem?_eq_some_iff.mp hi).1
      have L2 := L.sm s2
      refine ⟨rfl, ?_⟩
      dsimp only [tYes]
      rw [if_pos rfl]
      refine ⟨_, rfl, _, _, _, _, _, rfl, L2.hn hh, C.N, C.nBr, rfl, es, Sum.inl h.br, rfl, h2D, le1000000 (by have := W.lenH; omega), (Sm.refl H).own hD0 s2 h2D (ntD _) _, by rw [upd_ne npD]; exact h2p, _, upd_same, ?_, fun q => ?_⟩
      · exact Nat.le_trans (length_putK es _ _) (Nat.succ_le_succ hlen)
      · rw [valV_put, take_snoc hi, List.map_append, List.map_cons, List.map_nil]
        by_cases e : q = h.br
        · rw [if_pos (by rw [e])]; subst e; simp
        · rw [if_neg (fun y => e (Sum.inl.inj y)), hval q]; simp [e]
    · rintro H2 ⟨s2, h2p, es, h2D, hlen, hval⟩
      rw [show ((enc Sum.inl (fun n _ => V.ref (α (.hn n))) S.hns).map (·.2)).length = S.hns.length by rw [List.length_map, enc_length]] at hlen hval
      rw [List.take_length] at hval
      have L2 := L.sm s2
      refine ⟨_, rfl, α .brs, _, S.brs.map (·.1), rfl, rfl, .inl L2.brs, enc_keys _, W.bks, fun pr hpr => ?_⟩
      generalize hR : (S.brs.map (·.1)).reverse = R
      have hRm : ∀ n, n ∈ R → ∃ b, aget S.brs n = some b := fun n hn => aget_of_key (by rw [← hR] at hn; exact List.mem_reverse.mp hn)
      have hRp : R.Pairwise (· > ·) := by rw [← hR, List.pairwise_reverse]; exact W.bks
      have s3 := s2.trans (Sm.new (o := .lst (R.map V.int)) hpr)
      have h3r : upd H2 pr (.lst (R.map V.int)) pr = some (.lst (R.map V.int)) := upd_same
      have h3D : upd H2 pr (.lst (R.map V.int)) D = some (.dK es) := by rw [upd_ne (ne_of_none h2D hpr)]; exact h2D
      generalize upd H2 pr (.lst (R.map V.int)) = H3 at s3 h3r h3D
      have L3 := L.sm s3
      have nFr : ¬ Foot S α J pr := fun ⟨r, hr, e⟩ => L2.nofr hpr hr e
      have nFD : ¬ Foot S α J D := fun ⟨r, hr, e⟩ => L.nofr hD0 hr e
      refine ⟨_, rfl, pr, rfl, ⟨_, SqL.of h3r⟩, ?_⟩
      refine for_list (K := K) (a := pr) (xs := R.map V.int) (fun i σ H4 => (∃ x4 x5 x6, σ = [some (.ref (α .brs)), some (.ref (α .hns)), some (.ref D), some (.ref pr), x4, x5, x6]) ∧
          Lay T H4 (S.goTo (R.take i)).2 α δ J G ∧ Step H (Foot S α J) H4 (Foot (S.goTo (R.take i)).2 α J) ∧ ¬ Foot (S.goTo (R.take i)).2 α J D ∧ H4 pr = some (.lst (R.map V.int)) ∧ (∃ o, H4 D = some o) ∧ (i < R.length → ∃ es : List (Key × V), H4 D = some (.dK es) ∧ es.length ≤ S.hns.length + i ∧ ∀ q : Int, (valV es (.inl q)).isSome = decide (q ∈ (S.goTo (R.take i)).1)) ∧
          ∀ m, m ∉ R.take i → aget (S.goTo (R.take i)).2.brs m = aget S.brs m)
        ⟨⟨_, _, _, rfl⟩, L3, Step.sm s3, nFD, h3r, ⟨_, h3D⟩, fun _ => ⟨es, h3D, hlen, hval⟩, fun _ _ => rfl⟩ (fun i σ H4 _ ⟨_, _, _, _, h, _⟩ => SqL.of h) ?_ ?_
      · rintro i x σ H4 hx ⟨⟨x4, x5, x6, rfl⟩, L4, st4, nF4, h4r, _, nd4, off4⟩
        obtain ⟨n, hn, rfl⟩ : ∃ n, R[i]? = some n ∧ x = .int n := by
          rw [List.getElem?_map] at hx
          cases e : R[i]? with
          | none => rw [e] at hx; cases hx
          | some k => rw [e] at hx; exact ⟨k, rfl, (Option.some.inj hx).symm⟩
        have hil : i < R.length := (List.getElem?_eq_some_iff.mp hn).1
        obtain ⟨b, hb⟩ := hRm n (List.mem_of_getElem? hn)
        have nin : n ∉ R.take i := fun z => by
          obtain ⟨j, hj⟩ := List.mem_iff_getElem?.mp z
          rw [List.getElem?_take] at hj
          by_cases lt : j < i
          · rw [if_pos lt] at hj
            obtain ⟨j1, j2⟩ := List.getElem?_eq_some_iff.mp hj
            obtain ⟨i1, i2⟩ := List.getElem?_eq_some_iff.mp hn
            have := (List.pairwise_iff_getElem.mp hRp) j i j1 i1 lt
            omega
          · rw [if_neg lt] at hj; cases hj
        have hb4 : aget (S.goTo (R.take i)).2.brs n = some b := by rw [off4 n nin]; exact hb
        obtain ⟨es4, h4D, l4, v4⟩ := nd4 hil
        have nrD : pr ≠ D := ne_of h4r h4D (by intro z; cases z)
        have eG : S.goTo (R.take (i + 1)) = goB (S.goTo (R.take i)) n := goTo_snoc S hn
        have off5 : ∀ m, m ∉ R.take (i + 1) → aget (S.goTo (R.take (i + 1))).2.brs m = aget S.brs m := fun m hm => by
          rw [take_snoc hn] at hm
          have h1 : m ∉ R.take i := fun z => hm (List.mem_append.mpr (.inl z))
          have h2 : m ≠ n := fun z => hm (List.mem_append.mpr (.inr (by simp [z])))
          rw [eG, goB_off _ _ _ h2]; exact off4 m h1
        have last : n = 0 → ¬ i + 1 < R.length := fun z lt => by
          have := (List.pairwise_iff_getElem.mp hRp) i (i + 1) hil lt (Nat.lt_succ_self _)
          obtain ⟨b', hb'⟩ := hRm (R[i + 1]) (List.getElem_mem _)
          have b1 := (W.bnd _ _ hb').1
          have e1 : R[i] = n := (List.getElem?_eq_some_iff.mp hn).2
          omega
        have root := W.root n b hb
        generalize hst : S.goTo (R.take i) = st at *
        have brk := L4.gBr1 hb4
        refine ⟨_, rfl, _, rfl, _, _, rfl, brk, ?_⟩
        have key : ∀ Q' : Bool → Hp → Prop, ((b.alive = true ∨ b.lines ≠ [] ∨ n ∈ st.1) → Q' true H4) → (¬ (b.alive = true ∨ b.lines ≠ [] ∨ n ∈ st.1) → Q' false H4) →
            tOr (tB (tFld K (tVar 5) "alive")) (tOr (fun σ H Q => tFld K (tVar 5) "lines" σ H fun x H' => ∃ k, TruV K x H' k ∧ Q k H') (tB (tDIn (tVar 4) (tVar 2)))) [some (.ref (α .brs)), some (.ref (α .hns)), some (.ref D), some (.ref pr), some (.int n), some (.ref (α (.br n))), x6] H4 Q' := fun Q' hA hB => by
          refine ⟨_, rfl, _, _, _, _, _, rfl, L4.br hb4, C.B, C.bAl, rfl, _, rfl, ?_⟩
          by_cases c1 : b.alive = true
          · exact ifT c1 (hA (.inl c1))
          · refine ifF (by simpa using c1) ⟨_, rfl, _, _, _, _, _, rfl, L4.br hb4, C.B, C.bLn, rfl, _, .inr (.inr ⟨_, L4.lns0 hb4 (Z n), rfl⟩), ?_⟩
            have ee : (enc (Sum.inr : Str → Key) (fun k _ => V.ref (α (.ln n k))) b.lines).isEmpty = b.lines.isEmpty := by unfold enc; rw [List.isEmpty_map]
            rw [ee]
            cases hbl : b.lines with
            | cons x y => exact ifT rfl (hA (.inr (.inl (by rw [hbl]; intro z; cases z))))
            | nil =>
              have dg : DGet H4 D (.int n) (valV es4 (.inl n)) := DGet.k (k := Sum.inl n) h4D
              refine ifF rfl ⟨_, rfl, _, rfl, D, _, rfl, dg, _, rfl, ?_⟩
              rw [v4 n]
              by_cases c3 : n ∈ st.1
              · rw [decide_eq_true c3]; exact hA (.inr (.inr c3))
              · rw [decide_eq_false c3]; exact hB fun z => z.elim c1 fun z => z.elim (fun z => z hbl) c3
        refine key _ (fun c => ?_) (fun c => ?_)
        · refine ifT rfl ?_
          have eG' : goB st n = (b.ben.toList ++ st.1, st.2) := by unfold goB; rw [hb4]; dsimp only; rw [if_pos c]
          have lsz : es4.length < sizeLine := le1000000 (by
            have a1 := W.lenH
            have a2 := W.cap.h
            have a3 := W.cap.b
            have a4 : R.length ≤ 1000 := by rw [← hR, List.length_reverse, List.length_map]; exact a3
            omega)
          rw [eG, eG']
          refine ⟨_, rfl, _, rfl, _, _, _, _, _, rfl, L4.br hb4, C.B, C.bBen, rfl, ?_⟩
          cases hq : b.ben with
          | none =>
            have n0 : n = 0 := root.mp hq
            refine ⟨D, _, rfl, .inr ⟨rfl, rfl, es4, h4D⟩, ⟨_, _, _, rfl⟩, L4.away nF4 h4D _, st4.own hD0 _, nF4, by rw [upd_ne nrD]; exact h4r, ⟨_, upd_same⟩, fun lt => absurd lt (last n0), ?_⟩
            rw [eG, eG'] at off5; exact off5
          | some q =>
            refine ⟨D, _, rfl, .inl (DPut.k (k := Sum.inl q) h4D lsz), ⟨_, _, _, rfl⟩, L4.away nF4 h4D _, st4.own hD0 _, nF4, by rw [upd_ne nrD]; exact h4r, ⟨_, upd_same⟩, fun lt => ⟨_, upd_same, ?_, fun z => ?_⟩, ?_⟩
            · have := length_putK es4 (Sum.inl q) (V.bl true); omega
            · rw [valV_put]
              show _ = decide (z ∈ q :: st.1)
              by_cases e : z = q
              · rw [if_pos (by rw [e])]; simp [e]
              · rw [if_neg (fun y => e (Sum.inl.inj y)), v4 z]; simp [e]
            · rw [eG, eG'] at off5; exact off5
        · refine ifF rfl ?_
          have eG' : goB st n = (st.1, { st.2 with brs := adel st.2.brs n }) := by unfold goB; rw [hb4]; dsimp only; rw [if_neg c]
          rw [eG, eG']
          refine ⟨_, rfl, _, rfl, _, _, Sum.inl n, rfl, L4.brs, rfl, by rw [valV_enc inl_inj, hb4]; rfl, ?_⟩
          obtain ⟨L5, st5⟩ := L4.delBr n
          have nDb : D ≠ α .brs := fun e => nF4 ⟨.brs, trivial, e.symm⟩
          have nrb : pr ≠ α .brs := fun e => by rw [e, L4.brs] at h4r; cases h4r
          have kD := st5.keep D _ h4D (ntD _) nF4
          refine ⟨⟨_, _, _, rfl⟩, L5, st4.trans st5, kD.2, by rw [upd_ne nrb]; exact h4r, ⟨_, kD.1⟩, fun lt => ⟨es4, kD.1, by omega, v4⟩, ?_⟩
          rw [eG, eG'] at off5; exact off5
      · rintro σ H4 ⟨⟨x4, x5, x6, rfl⟩, L4, st4, _⟩
        rw [show (R.map V.int).length = R.length from List.length_map .., List.take_length] at L4 st4
        refine kq _ ⟨?_, ?_⟩
        · unfold Sh.takeB; rw [hR]; exact L4
        · unfold Sh.takeB; rw [hR]; exact st4
end
end Vs
/-! ## What a sweep takes, version by version -/
namespace Vs
open PySem L2
section
variable {d : Addr} {o : Obj} {es : List (Key × V)}
/-- for k in d, d locked -/
theorem for_keys {g : TG} {tb : TS} {D : Ends} {σ : L2.St} {H : Hp} (Pv : Nat → L2.St → Hp → Prop) (first : Pv 0 σ H) (still : ∀ i σ H, Pv i σ H → H d = some (.frz o (.dK es)))
    (turn : ∀ i k v σ H, es[i]? = some (k, v) → Pv i σ H → g (kV k) σ H fun σ2 H2 => tb { D with nx := Pv (i + 1), ct := Pv (i + 1), bk := D.nx } σ2 H2) (last : ∀ σ H, Pv es.length σ H → D.nx σ H) :
    ∃ W : Nat → Nat → L2.St → Hp → Prop, (∃ m, W 0 m σ H) ∧ ∀ i m σ H, W i m σ H →
      ((Itk d o es).stop i H ∧ D.nx σ H) ∨ ((Itk d o es).go i H ∧ ∃ N : L2.St → Hp → Prop, (∀ σ' H', N σ' H' → ∃ m', m' < m ∧ W (i + 1) m' σ' H') ∧ ∀ x H', (Itk d o es).yld i H x H' → g x σ H' fun σ2 H2 => tb { D with nx := N, ct := N, bk := D.nx } σ2 H2) := by
  refine ⟨fun i m σ H => m = es.length - i ∧ i ≤ es.length ∧ Pv i σ H, ⟨es.length, rfl, Nat.zero_le _, first⟩, fun i m σ H ⟨em, hi, p⟩ => ?_⟩
  subst em
  rcases Nat.lt_or_ge i es.length with lt | ge
  · refine .inr ⟨⟨still i σ H p, lt⟩, Pv (i + 1), fun σ' H' q => ⟨es.length - (i + 1), by omega, rfl, lt, q⟩, fun x H' y => ?_⟩
    obtain ⟨eH, k, v, e, ex⟩ := y
    subst ex; subst eH
    exact turn i k v σ _ e p
  · obtain rfl : i = es.length := by omega
    exact .inl ⟨⟨still _ σ H p, ge⟩, last σ H p⟩
/-- [.. for k in d], d locked -/
theorem lc_keys {g : TG} {tt : TT} {te : TE} {vs : List Nat} {σ : L2.St} {H1 : Hp} {D : Addr} {Qd : Hp → Prop} (Pv : Nat → Hp → Prop) (first : Pv 0 (upd H1 D (.lst []))) (still : ∀ i H, Pv i H → H d = some (.frz o (.dK es)))
    (turn : ∀ i k v H, es[i]? = some (k, v) → Pv i H → g (kV k) (wipe σ vs) H fun σ2 H2 => wipe σ2 vs = wipe σ vs ∧ tt σ2 H2 fun b H3 => if b = true then te σ2 H3 fun y H4 => ∃ acc, H4 D = some (.lst acc) ∧ acc.length < sizeLine ∧ Pv (i + 1) (upd H4 D (.lst (acc ++ [y]))) else Pv (i + 1) H3)
    (last : ∀ H, Pv es.length H → Qd H) :
    ∃ W : Nat → Nat → Hp → Prop, (∃ m, W 0 m (upd H1 D (.lst []))) ∧ ∀ i m H, W i m H →
      ((Itk d o es).stop i H ∧ Qd H) ∨ ((Itk d o es).go i H ∧ ∃ N : Hp → Prop, (∀ H', N H' → ∃ m', m' < m ∧ W (i + 1) m' H') ∧ ∀ x H', (Itk d o es).yld i H x H' → g x (wipe σ vs) H' fun σ2 H2 => wipe σ2 vs = wipe σ vs ∧ tt σ2 H2 fun b H3 => if b = true then te σ2 H3 fun y H4 => ∃ acc, H4 D = some (.lst acc) ∧ acc.length < sizeLine ∧ N (upd H4 D (.lst (acc ++ [y]))) else N H3) := by
  refine ⟨fun i m H => m = es.length - i ∧ i ≤ es.length ∧ Pv i H, ⟨es.length, rfl, Nat.zero_le _, first⟩, fun i m H ⟨em, hi, p⟩ => ?_⟩
  subst em
  rcases Nat.lt_or_ge i es.length with lt | ge
  · refine .inr ⟨⟨still i H p, lt⟩, Pv (i + 1), fun H' q => ⟨es.length - (i + 1), by omega, rfl, lt, q⟩, fun x H' y => ?_⟩
    obtain ⟨eH, k, v, e, ex⟩ := y
    subst ex; subst eH
    exact turn i k v _ e p
  · obtain rfl : i = es.length := by omega
    exact .inl ⟨⟨still _ H p, ge⟩, last H p⟩
end
section
variable {T : Cs} {H H' : Hp} {S S' : Sh} {α α' : Rl → Addr} {δ δ' : Dl} {J J' : List Str} {G G' : Jud}
/-- the lines of a branch, locked or not -/
theorem Lay.setFz (L : Lay T H S α δ J G) {n : Int} {b : Br} (hb : aget S.brs n = some b) (x : Option Obj) :
    Mv T H S α J (upd H (α (.lns n)) (thw x (.dK (enc .inr (fun k _ => .ref (α (.ln n k))) b.lines)))) S α ⟨δ.d, fun m => if m = n then x else δ.fz m⟩ J G := by
  have l0 : Live S J (.lns n) := ⟨b, hb⟩
  refine ⟨L.move (L.updTups l0 _) (fun r hr => ?_) L.inj, L.step (fun a o h nn => ?_) (L.updTups l0 _) fun r hr => .inl ⟨hr, rfl⟩⟩
  · by_cases e : r = .lns n
    · subst e
      refine .inr ⟨_, upd_same, b, hb, ?_⟩
      show _ = thw (if n = n then x else δ.fz n) _
      rw [if_pos rfl]
    · refine .inl ⟨hr, rfl, upd_ne (L.ne hr l0 e), fun o c => ?_⟩
      cases r with
      | lns m =>
        obtain ⟨b', hb', c⟩ := c
        refine ⟨b', hb', ?_⟩
        show o = thw (if m = n then x else δ.fz m) _
        rw [if_neg (fun z => e (by rw [z]))]; exact c
      | _ => exact c
  · rw [upd_ne (Ne.symm (nn (.lns n) l0))]; exact h
end
/-! ### the versions that go -/
abbrev V3 := Int × Str × Int
def id3 (g : Gon) : V3 := (g.1.1, g.1.2.1, g.1.2.2.1)
def v3 (v : Vn) : V3 := (v.1, v.2.1, v.2.2.1)
def takeAll (S : Sh) (gs : List Gon) : Sh := gs.foldl (fun S g => S.takeV g.1.1 g.1.2.1 g.1.2.2.1) S
def Sh.sweepTo (S : Sh) (m : Nat) : Sh := (takeAll S ((goM S).take m)).takeM.takeB
theorem takeAll_snoc (S : Sh) {gs : List Gon} {i : Nat} {g : Gon} (h : gs[i]? = some g) : takeAll S (gs.take (i + 1)) = (takeAll S (gs.take i)).takeV g.1.1 g.1.2.1 g.1.2.2.1 := by
  unfold takeAll; rw [take_snoc h, List.foldl_append]; rfl
theorem takeAll_line (gs : List Gon) : ∀ (S : Sh) (m : Int) (j : Str), lineAt (takeAll S gs).brs m j = (lineAt S.brs m j).filter fun c => decide ((m, j, c.1) ∉ gs.map id3) := by
  induction gs with
  | nil =>
    intro S m j
    show lineAt S.brs m j = _
    rw [List.filter_eq_self.mpr]
    intro c _
    simp
  | cons g gs ih =>
    intro S m j
    show lineAt (takeAll (S.takeV g.1.1 g.1.2.1 g.1.2.2.1) gs).brs m j = _
    rw [ih, takeV_line]
    by_cases q : m = g.1.1 ∧ j = g.1.2.1
    · rw [if_pos q, q.1, q.2]
      unfold cutC
      rw [List.filter_filter]
      apply List.filter_congr
      intro c _
      have e : ((g.1.1, g.1.2.1, c.1) = id3 g) ↔ c.1 = g.1.2.2.1 := ⟨fun z => congrArg (fun t : V3 => t.2.2) z, fun z => by unfold id3; rw [z]⟩
      rw [List.map_cons]
      simp only [List.mem_cons, not_or, e]
      by_cases h1 : c.1 = g.1.2.2.1 <;> by_cases h2 : (g.1.1, g.1.2.1, c.1) ∈ gs.map id3 <;> simp [h1, h2]
    · rw [if_neg q]
      apply List.filter_congr
      intro c _
      have e : ¬ (m, j, c.1) = id3 g := fun z => q ⟨congrArg (fun t : V3 => t.1) z, congrArg (fun t : V3 => t.2.1) z⟩
      rw [List.map_cons]
      simp only [List.mem_cons, not_or, e, not_false_eq_true, true_and]
theorem WF.takeAll {Ks : List Str} (gs : List Gon) : ∀ {S : Sh}, WF Ks S → WF Ks (takeAll S gs) := by
  induction gs with
  | nil => intro S W; exact W
  | cons g gs ih => intro S W; exact ih (W.takeV _ _ _)
theorem takeAll_hns (gs : List Gon) : ∀ (S : Sh), (takeAll S gs).hns = S.hns ∧ (takeAll S gs).now = S.now ∧ (takeAll S gs).bm = S.bm ∧ (takeAll S gs).hm = S.hm := by
  induction gs with
  | nil => intro S; exact ⟨rfl, rfl, rfl, rfl⟩
  | cons g gs ih =>
    intro S
    obtain ⟨a, b, c, d⟩ := ih (S.takeV g.1.1 g.1.2.1 g.1.2.2.1)
    obtain ⟨a', b', c', d'⟩ := takeV_hns S g.1.1 g.1.2.1 g.1.2.2.1
    exact ⟨a.trans a', b.trans b', c.trans c', d.trans d'⟩
theorem withNext_mem : ∀ {l : List Cel} {q : Int × Option Int}, q ∈ withNext l → ∃ c ∈ l, c.1 = q.1
  | [], _, h => by cases h
  | c :: l, q, h => by
    rcases List.mem_cons.mp h with z | z
    · exact ⟨c, List.mem_cons_self, by rw [z]⟩
    · obtain ⟨c', h1, h2⟩ := withNext_mem z
      exact ⟨c', List.mem_cons_of_mem _ h1, h2⟩
theorem withNext_pw : ∀ {l : List Cel}, Rise l → (withNext l).Pairwise fun a b => a.1 ≠ b.1
  | [], _ => List.Pairwise.nil
  | c :: l, r => by
    obtain ⟨h1, h2⟩ := List.pairwise_cons.mp r
    refine List.pairwise_cons.mpr ⟨fun q hq => ?_, withNext_pw h2⟩
    obtain ⟨c', h3, h4⟩ := withNext_mem hq
    have := h1 c' h3
    show c.1 ≠ q.1
    omega
theorem withNext_keys : ∀ (l : List Cel), (withNext l).map (·.1) = l.map (·.1)
  | [] => rfl
  | c :: l => by show c.1 :: (withNext l).map (·.1) = _; rw [withNext_keys l]; rfl
theorem versM_mem {Ks : List Str} {S : Sh} (W : WF Ks S) {v : Vn} (h : v ∈ versM S.brs) : ∃ c ∈ lineAt S.brs v.1 v.2.1, c.1 = v.2.2.1 := by
  unfold versM at h
  obtain ⟨p, hp, h⟩ := List.mem_flatMap.mp h
  unfold versB versK at h
  obtain ⟨k, hk, h⟩ := List.mem_flatMap.mp h
  unfold versL at h
  obtain ⟨q, hq, rfl⟩ := List.mem_map.mp h
  obtain ⟨c, h1, h2⟩ := withNext_mem hq
  have hb : aget S.brs p.1 = some p.2 := aget_of_mem (nodup_of_lt W.bks) hp
  exact ⟨c, by show c ∈ lineAt S.brs p.1 k; rw [lineAt_of hb]; exact h1, h2⟩
theorem versM_pw {Ks : List Str} {S : Sh} (W : WF Ks S) : (versM S.brs).Pairwise fun a b => v3 a ≠ v3 b := by
  unfold versM
  rw [List.pairwise_flatMap]
  constructor
  · intro p hp
    have hb : aget S.brs p.1 = some p.2 := aget_of_mem (nodup_of_lt W.bks) hp
    unfold versB versK
    rw [List.pairwise_flatMap]
    constructor
    · intro k hk
      unfold versL
      rw [List.pairwise_map]
      exact (withNext_pw (W.rise hb k)).imp fun {a b} n z => n (congrArg (fun t : V3 => t.2.2) z)
    · refine (sortK_nodup (W.lks _ _ hb).1).imp fun {a b} n x hx y hy z => ?_
      obtain ⟨q, _, rfl⟩ := List.mem_map.mp hx
      obtain ⟨q', _, rfl⟩ := List.mem_map.mp hy
      exact n (congrArg (fun t : V3 => t.2.1) z)
  · have := W.bks
    rw [List.pairwise_map] at this
    refine this.imp fun {a b} lt x hx y hy z => ?_
    unfold versB versK at hx hy
    obtain ⟨k, _, hx⟩ := List.mem_flatMap.mp hx
    obtain ⟨k', _, hy⟩ := List.mem_flatMap.mp hy
    obtain ⟨q, _, rfl⟩ := List.mem_map.mp hx
    obtain ⟨q', _, rfl⟩ := List.mem_map.mp hy
    have : a.1 = b.1 := congrArg (fun t : V3 => t.1) z
    omega
theorem isUn_v3 {S : Sh} {a b : Vn} (h : v3 a = v3 b) : isUn S a = isUn S b := by
  have e1 : a.1 = b.1 := congrArg (fun t : V3 => t.1) h
  have e2 : a.2.1 = b.2.1 := congrArg (fun t : V3 => t.2.1) h
  have e3 : a.2.2.1 = b.2.2.1 := congrArg (fun t : V3 => t.2.2) h
  unfold isUn; rw [e1, e2, e3]
theorem goM_mem {Ks : List Str} {S : Sh} (W : WF Ks S) {g : Gon} (h : g ∈ goM S) : g.1 ∈ versM S.brs := by
  unfold goM unOf baOf at h
  rcases List.mem_append.mp h with z | z
  · obtain ⟨v, hv, rfl⟩ := List.mem_map.mp z
    exact (List.mem_filter.mp hv).1
  · obtain ⟨v, hv, rfl⟩ := List.mem_map.mp z
    exact (List.mem_filter.mp hv).1
theorem goM_nd {Ks : List Str} {S : Sh} (W : WF Ks S) : ((goM S).map id3).Nodup := by
  unfold List.Nodup
  rw [List.pairwise_map]
  unfold goM unOf baOf
  rw [List.pairwise_append]
  refine ⟨?_, ?_, ?_⟩
  · rw [List.pairwise_map]; exact (versM_pw W).sublist List.filter_sublist
  · rw [List.pairwise_map]; exact (versM_pw W).sublist List.filter_sublist
  · intro x hx y hy z
    obtain ⟨v, hv, rfl⟩ := List.mem_map.mp hx
    obtain ⟨u, hu, rfl⟩ := List.mem_map.mp hy
    have h1 := (List.mem_filter.mp hv).2
    have h2 := (List.mem_filter.mp hu).2
    have h3 : isUn S v = isUn S u := isUn_v3 z
    unfold isBa at h2
    rw [← h3, h1] at h2
    simp at h2
/-- the next one is still there -/
theorem next_there {Ks : List Str} {S : Sh} (W : WF Ks S) {gs : List Gon} (hs : ∀ g ∈ gs, g ∈ goM S) (nd : (gs.map id3).Nodup) {i : Nat} {g : Gon} (h : gs[i]? = some g) :
    ∃ b l c, aget (takeAll S (gs.take i)).brs g.1.1 = some b ∧ aget b.lines g.1.2.1 = some l ∧ c ∈ l ∧ c.1 = g.1.2.2.1 := by
  obtain ⟨c, hc, ec⟩ := versM_mem W (goM_mem W (hs g (List.mem_of_getElem? h)))
  have hc' : c ∈ lineAt (takeAll S (gs.take i)).brs g.1.1 g.1.2.1 := by
    rw [takeAll_line]
    refine List.mem_filter.mpr ⟨hc, decide_eq_true fun z => ?_⟩
    rw [List.map_take] at z
    obtain ⟨j, hj⟩ := List.mem_iff_getElem?.mp z
    rw [List.getElem?_take] at hj
    by_cases lt : j < i
    · rw [if_pos lt] at hj
      have e2 : (gs.map id3)[i]? = some (id3 g) := by rw [List.getElem?_map, h]; rfl
      rw [ec] at hj
      obtain ⟨j1, j2⟩ := List.getElem?_eq_some_iff.mp hj
      obtain ⟨i1, i2⟩ := List.getElem?_eq_some_iff.mp e2
      have := (List.getElem_inj nd).mp (j2.trans i2.symm)
      omega
    · rw [if_neg lt] at hj; cases hj
  unfold lineAt at hc'
  cases eb : aget (takeAll S (gs.take i)).brs g.1.1 with
  | none => rw [eb] at hc'; cases hc'
  | some b =>
    rw [eb] at hc'
    have hc' : c ∈ (aget b.lines g.1.2.1).getD [] := hc'
    cases el : aget b.lines g.1.2.1 with
    | none => rw [el] at hc'; cases hc'
    | some l => rw [el] at hc'; exact ⟨b, l, c, rfl, el, hc', ec⟩
/-! ### other marks -/
theorem WF.setMk {Ks : List Str} {S : Sh} (W : WF Ks S) {n : Int} {b : Br} (hb : aget S.brs n = some b) {ms : List (Str × Int)} (sub : ms.Sublist b.marks) : WF Ks (S.setBr n { b with marks := ms }) := by
  have up : ∀ m b', aget (S.setBr n { b with marks := ms }).brs m = some b' → ∃ b0, aget S.brs m = some b0 ∧ b'.ben = b0.ben ∧ b'.mom = b0.mom ∧ b'.lines = b0.lines ∧ b'.marks.Sublist b0.marks := fun m b' h => by
    rw [setBr_get] at h
    by_cases q : m = n
    · rw [if_pos q] at h; cases h
      exact ⟨b, by rw [q]; exact hb, rfl, rfl, rfl, sub⟩
    · rw [if_neg q] at h; exact ⟨b', h, rfl, rfl, rfl, List.Sublist.refl _⟩
  have dn : ∀ m b, aget S.brs m = some b → ∃ b', aget (S.setBr n { b with marks := ms }).brs m = some b' := fun m b0 h => by
    rw [setBr_get]
    by_cases q : m = n
    · rw [if_pos q]; exact ⟨_, rfl⟩
    · rw [if_neg q]; exact ⟨b0, h⟩
  have dn' : ∀ m b0, aget S.brs m = some b0 → ∃ b', aget (S.setBr n { b with marks := ms }).brs m = some b' := fun m b0 h => by
    rw [setBr_get]
    by_cases q : m = n
    · rw [if_pos q]; exact ⟨_, rfl⟩
    · rw [if_neg q]; exact ⟨b0, h⟩
  have keys : (S.setBr n { b with marks := ms }).brs.map (·.1) = S.brs.map (·.1) := keys_aput_old _ hb
  constructor
  · rw [keys]; exact W.bks
  · obtain ⟨c, hc⟩ := W.b0; exact dn' 0 c hc
  · intro m b' h
    obtain ⟨b0, h0, z1, _⟩ := up m b' h
    rw [z1]; exact W.root m b0 h0
  · intro m b' q h hq
    obtain ⟨b0, h0, z1, _⟩ := up m b' h
    obtain ⟨y1, c, y2⟩ := W.ben m b0 q h0 (by rw [← z1]; exact hq)
    exact ⟨y1, dn' q c y2⟩
  · intro m b' h
    obtain ⟨b0, h0, _, z2, _⟩ := up m b' h
    rw [z2]; exact W.bnd m b0 h0
  · intro m b' h
    obtain ⟨b0, h0, _, _, z, _⟩ := up m b' h
    rw [z]; exact W.lks m b0 h0
  · intro m b' j l' h hl
    obtain ⟨b0, h0, _, _, z, _⟩ := up m b' h
    rw [z] at hl; exact W.ln m b0 j l' h0 hl
  · intro m b' h
    obtain ⟨b0, h0, _, _, _, z⟩ := up m b' h
    exact ⟨(W.mks m b0 h0).1.sublist (z.map _), fun k hk => (W.mks m b0 h0).2 k ((z.map _).subset hk)⟩
  · intro m b' j x h hm
    obtain ⟨b0, h0, _, _, _, z⟩ := up m b' h
    have hin := z.subset (aget_mem hm)
    exact W.mkb m b0 j x h0 (aget_of_mem (W.mks m b0 h0).1 hin)
  · exact W.hks
  · intro m h hh
    obtain ⟨y1, y2, ⟨c, y3⟩, y4⟩ := W.hn m h hh
    exact ⟨y1, y2, dn' _ c y3, y4⟩
  · exact W.dks
  · exact W.key
  · exact W.pool
  · exact W.sz
  · refine ⟨W.cap.h, ?_, fun m b' j l' h hl => ?_⟩
    · have := congrArg List.length keys
      rw [List.length_map, List.length_map] at this
      rw [this]; exact W.cap.b
    · obtain ⟨b0, h0, _, _, z, _⟩ := up m b' h
      rw [z] at hl; exact W.cap.l m b0 j l' h0 hl
theorem WF.mkS {Ks : List Str} {S : Sh} (W : WF Ks S) (fm : List (Int × Int)) (now n : Int) : WF Ks (mkS fm now S n) := by
  unfold Vs.mkS
  cases e : aget S.brs n with
  | none => exact W
  | some b => exact W.setMk e List.filter_sublist
theorem WF.takeM {Ks : List Str} {S : Sh} (W : WF Ks S) : WF Ks S.takeM := by
  unfold Sh.takeM Sh.markTo
  generalize S.brs.map (·.1) = ns
  generalize firstM S.hns = fm
  generalize S.now = now
  induction ns generalizing S with
  | nil => exact W
  | cons n ns ih => exact ih (W.mkS fm now n)
theorem mkS_hns (fm : List (Int × Int)) (now : Int) (S : Sh) (n : Int) : (mkS fm now S n).hns = S.hns ∧ (mkS fm now S n).now = S.now := by
  unfold Vs.mkS
  cases e : aget S.brs n with
  | none => exact ⟨rfl, rfl⟩
  | some b => exact ⟨rfl, rfl⟩
end Vs
/-! ## [elt for .. for .. for ..] -/
namespace Vs
open PySem PySem.Spec PyProof.Rows L2
abbrev tri (elt a0 b0 a1 b1 a2 b2 : Expr) (c0 c1 c2 : List Expr) (scope : Scope) (pos : Pos) : Expr := .ListComp elt [⟨a0, b0, c0, 0⟩, ⟨a1, b1, c1, 0⟩, ⟨a2, b2, c2, 0⟩] scope pos
def wayOut (e : Expr) (d : Nat) (tg src nxt : Expr) (ifs : List Expr) (it acc : Value) (env : Env) : Sem Fin := do
  standAt src.pos
  match ← pyNext it with
  | none => pure (.done .next)
  | some v =>
    letOwnedTupleGo tg it v
    assign tg env v
    let mut ok := true
    for c in ifs do
      if ok then ok ← isTrue c env (eval c env)
    if ok then
      let x ← eval nxt env
      standAt nxt.pos
      let x ← foldedSetIterable nxt env x
      let _ ← runOwn (.compStart e (d + 1) (← holding [x] (pyIter x)) acc env) env
    again (.compLoop e d it acc env)
def wayIn (e : Expr) (d : Nat) (elt tg src : Expr) (ifs : List Expr) (it acc : Value) (env : Env) : Sem Fin := do
  standAt src.pos
  match ← pyNext it with
  | none => pure (.done .next)
  | some v =>
    letOwnedTupleGo tg it v
    assign tg env v
    let mut ok := true
    for c in ifs do
      if ok then ok ← isTrue c env (eval c env)
    if ok then
      (do let _ ← call (.builtin "list.append") [acc, ← eval elt env])
    again (.compLoop e d it acc env)
section
variable {prog : Program} {w : World} {A : Around} {R : Result → Shared → Prop} {s : Shared} {el elt tg src nxt : Expr} {gs : List Comprehension} {scope : Scope} {pos : Pos} {ifs : List Expr} {d : Nat} {it acc : Value} {env : Env}
abbrev er (prog : Program) (w : World) (A : Around) (env : Env) (R : Result → Shared → Prop) : Value → Shared → Prop := notedBy (model prog w) A env fun x z => R (.error x) z
abbrev okRun (ifs : List Expr) (env : Env) : Sem Bool := forIn ifs true fun c r => if r = true then do let ok ← isTrue c env (eval c env); pure (ForInStep.yield ok) else pure (ForInStep.yield r)
theorem way_out (teq : compTurn (.ListComp el gs scope pos) d it acc env = wayOut (.ListComp el gs scope pos) d tg src nxt ifs it acc env) (hs : ∀ x, foldedSetIterable nxt env x = pure x) (I : Nat → Shared → Prop)
    (turn : ∀ n s, I n s → wpAny (model prog w) A (pyNext it) (fun r z1 => match r with
      | none => R (.ok .next) z1
      | some v => wpAny (model prog w) A (letOwnedTupleGo tg it v) (fun _ z2 => wpAny (model prog w) A (assign tg env v) (fun _ z3 => wpAny (model prog w) A (okRun ifs env) (fun ok z4 =>
            if ok = true then wpAny (model prog w) A (eval nxt env) (fun x z5 => wpAny (model prog w) A (pyIter x) (fun jt z6 =>
              codeAny (model prog w) A (.compStart (.ListComp el gs scope pos) (d + 1) jt acc env) (fun r z7 => match r with
                | .ok _ => ∃ m, m < n ∧ I m z7
                | .error _ => False) z6) (er prog w A env R) z5) (er prog w A env R) z4
            else ∃ m, m < n ∧ I m z4) (er prog w A env R) z3) (er prog w A env R) z2) (er prog w A env R) z1) (er prog w A env R) s)
    (n : Nat) (h : I n s) : codeAny (model prog w) A (.compLoop (.ListComp el gs scope pos) d it acc env) R s := by
  refine codeAny_loop rfl I (fun n s hI => ?_) n h
  show wpAny _ A ((compTurn (.ListComp el gs scope pos) d it acc env).onRaise (fun x => do noteFrame x env; theTreesLotGoes x)) _ _ s
  refine wpAny_noted ?_
  rw [teq]
  unfold wayOut
  refine wpAny_bind (wpAny_standAt (wpAny_bind (wpAny_mono (turn n s hI) (fun r z1 k1 => ?_) fun _ _ y => y)))
  cases r with
  | none => exact wpAny_pure k1
  | some v =>
    refine wpAny_bind (wpAny_mono k1 (fun _ z2 k2 => ?_) fun _ _ y => y)
    refine wpAny_bind (wpAny_mono k2 (fun _ z3 k3 => wpAny_bind (wpAny_mono k3 (fun ok z4 k4 => ?_) fun _ _ y => y)) fun _ _ y => y)
    cases ok with
    | false => exact wpAny_pure ⟨rfl, k4⟩
    | true =>
      refine wpAny_bind (wpAny_mono k4 (fun x z5 k5 => ?_) fun _ _ y => y)
      refine wpAny_bind (wpAny_standAt (wpAny_bind (wpAny_of_eq (hs x) (wpAny_bind (wpAny_holding (wpAny_mono k5 (fun jt z6 k6 => ?_) fun _ _ y => y))))))
      refine wpAny_bind (wpAny_runOwn ?_)
      rw [Around.mark_none]
      refine codeAny_mono k6 fun r z7 hr => ?_
      cases r with
      | ok f => first | exact wpAny_pure ⟨rfl, hr⟩ | exact wpAny_bind (wpAny_pure (wpAny_pure ⟨rfl, hr⟩))
      | error x => exact hr.elim
theorem way_in (teq : compTurn (.ListComp el gs scope pos) d it acc env = wayIn (.ListComp el gs scope pos) d elt tg src ifs it acc env) (I : Nat → Shared → Prop)
    (turn : ∀ n s, I n s → wpAny (model prog w) A (pyNext it) (fun r z1 => match r with
      | none => R (.ok .next) z1
      | some v => wpAny (model prog w) A (letOwnedTupleGo tg it v) (fun _ z2 => wpAny (model prog w) A (assign tg env v) (fun _ z3 => wpAny (model prog w) A (okRun ifs env) (fun ok z4 =>
            if ok = true then wpAny (model prog w) A (eval elt env) (fun x z5 => wpAny (model prog w) A (call (.builtin "list.append") [acc, x]) (fun _ z6 => ∃ m, m < n ∧ I m z6) (er prog w A env R) z5) (er prog w A env R) z4
            else ∃ m, m < n ∧ I m z4) (er prog w A env R) z3) (er prog w A env R) z2) (er prog w A env R) z1) (er prog w A env R) s)
    (n : Nat) (h : I n s) : codeAny (model prog w) A (.compLoop (.ListComp el gs scope pos) d it acc env) R s := by
  refine codeAny_loop rfl I (fun n s hI => ?_) n h
  show wpAny _ A ((compTurn (.ListComp el gs scope pos) d it acc env).onRaise (fun x => do noteFrame x env; theTreesLotGoes x)) _ _ s
  refine wpAny_noted ?_
  rw [teq]
  unfold wayIn
  refine wpAny_bind (wpAny_standAt (wpAny_bind (wpAny_mono (turn n s hI) (fun r z1 k1 => ?_) fun _ _ y => y)))
  cases r with
  | none => exact wpAny_pure k1
  | some v =>
    refine wpAny_bind (wpAny_mono k1 (fun _ z2 k2 => ?_) fun _ _ y => y)
    refine wpAny_bind (wpAny_mono k2 (fun _ z3 k3 => wpAny_bind (wpAny_mono k3 (fun ok z4 k4 => ?_) fun _ _ y => y)) fun _ _ y => y)
    cases ok with
    | false => exact wpAny_pure ⟨rfl, k4⟩
    | true =>
      exact wpAny_bind (wpAny_bind (wpAny_mono k4 (fun x z5 k5 => wpAny_bind (wpAny_mono k5 (fun _ z6 k6 => wpAny_pure (wpAny_pure ⟨rfl, k6⟩)) fun _ _ y => y)) fun _ _ y => y))
end
section
variable {prog : Program} {w : World} {A : Around} {R : Result → Shared → Prop} {s : Shared} {elt a0 b0 a1 b1 a2 b2 : Expr} {c0 c1 c2 : List Expr} {scope : Scope} {pos : Pos} {it acc : Value} {env : Env}
theorem tri_0 : compTurn (tri elt a0 b0 a1 b1 a2 b2 c0 c1 c2 scope pos) 0 it acc env = wayOut (tri elt a0 b0 a1 b1 a2 b2 c0 c1 c2 scope pos) 0 a0 b0 b1 c0 it acc env := by rfl
theorem tri_1 : compTurn (tri elt a0 b0 a1 b1 a2 b2 c0 c1 c2 scope pos) 1 it acc env = wayOut (tri elt a0 b0 a1 b1 a2 b2 c0 c1 c2 scope pos) 1 a1 b1 b2 c1 it acc env := by rfl
theorem tri_2 : compTurn (tri elt a0 b0 a1 b1 a2 b2 c0 c1 c2 scope pos) 2 it acc env = wayIn (tri elt a0 b0 a1 b1 a2 b2 c0 c1 c2 scope pos) 2 elt a2 b2 c2 it acc env := by rfl
theorem tri_start1 (h0 : codeAny (model prog w) A (.compLoop (tri elt a0 b0 a1 b1 a2 b2 c0 c1 c2 scope pos) 1 it acc env) R s)
    (h : wpAny (model prog w) A (pyIter it) (fun jt z => codeAny (model prog w) A (.compLoop (tri elt a0 b0 a1 b1 a2 b2 c0 c1 c2 scope pos) 1 jt acc env) R z) (er prog w A env R) s) :
    codeAny (model prog w) A (.compStart (tri elt a0 b0 a1 b1 a2 b2 c0 c1 c2 scope pos) 1 it acc env) R s := by
  refine codeAny_of_tree ?_
  show wpAny _ _ ((compStart (tri elt a0 b0 a1 b1 a2 b2 c0 c1 c2 scope pos) 1 it acc env).onRaise (fun x => do noteFrame x env; standAt theWindowsPlace)) _ _ s
  refine wpAny_notedAt ?_
  unfold compStart
  show wpAny _ _ (ask >>= _) _ _ s
  refine wpAny_bind (wpAny_askSetting (wpAny_ite ?_))
  split
  · first | exact wpAny_bind (wpAny_pure (wpAny_pure (And.intro rfl h0))) | exact wpAny_pure (And.intro rfl h0)
  · first
      | exact wpAny_bind (wpAny_rule (wpAny_bind (wpAny_standAt (wpAny_bind (wpAny_mono h (fun jt z y => wpAny_pure (And.intro rfl y)) fun _ _ x => x)))))
      | (refine wpAny_bind (wpAny_rule ?_); show wpAny _ _ (standAt b1.pos >>= _) _ _ s; exact wpAny_bind (wpAny_standAt (wpAny_bind (wpAny_mono h (fun jt z y => wpAny_pure (And.intro rfl y)) fun _ _ x => x))))
theorem tri_start2 (h0 : codeAny (model prog w) A (.compLoop (tri elt a0 b0 a1 b1 a2 b2 c0 c1 c2 scope pos) 2 it acc env) R s)
    (h : wpAny (model prog w) A (pyIter it) (fun jt z => codeAny (model prog w) A (.compLoop (tri elt a0 b0 a1 b1 a2 b2 c0 c1 c2 scope pos) 2 jt acc env) R z) (er prog w A env R) s) :
    codeAny (model prog w) A (.compStart (tri elt a0 b0 a1 b1 a2 b2 c0 c1 c2 scope pos) 2 it acc env) R s := by
  refine codeAny_of_tree ?_
  show wpAny _ _ ((compStart (tri elt a0 b0 a1 b1 a2 b2 c0 c1 c2 scope pos) 2 it acc env).onRaise (fun x => do noteFrame x env; standAt theWindowsPlace)) _ _ s
  refine wpAny_notedAt ?_
  unfold compStart
  show wpAny _ _ (ask >>= _) _ _ s
  refine wpAny_bind (wpAny_askSetting (wpAny_ite ?_))
  split
  · first | exact wpAny_bind (wpAny_pure (wpAny_pure (And.intro rfl h0))) | exact wpAny_pure (And.intro rfl h0)
  · first
      | exact wpAny_bind (wpAny_rule (wpAny_bind (wpAny_standAt (wpAny_bind (wpAny_mono h (fun jt z y => wpAny_pure (And.intro rfl y)) fun _ _ x => x)))))
      | (refine wpAny_bind (wpAny_rule ?_); show wpAny _ _ (standAt b2.pos >>= _) _ _ s; exact wpAny_bind (wpAny_standAt (wpAny_bind (wpAny_mono h (fun jt z y => wpAny_pure (And.intro rfl y)) fun _ _ x => x))))
end
/-! ### the loops within the block -/
def tIn (wi : TI) (g : TG) (tt : TT) (vs : List Nat) (body : L2.St → Hp → (Hp → Prop) → Prop) : L2.St → Hp → (Hp → Prop) → Prop := fun σ H Nx => wi σ H fun J H4 => ∃ W : Nat → Nat → Hp → Prop, (∃ m, W 0 m H4) ∧ ∀ j k H, W j k H →
  (J.stop j H ∧ Nx H) ∨ (J.go j H ∧ ∃ N1 : Hp → Prop, (∀ H', N1 H' → ∃ k', k' < k ∧ W (j + 1) k' H') ∧ ∀ x H', J.yld j H x H' → g x (wipe σ vs) H' fun σ3 H5 => wipe σ3 vs = wipe σ vs ∧ tt σ3 H5 fun b H6 => if b = true then body σ3 H6 N1 else N1 H6)
def bEnd (te : TE) (D : Addr) : L2.St → Hp → (Hp → Prop) → Prop := fun σ H Nx => te σ H fun y H7 => ∃ acc, H7 D = some (.lst acc) ∧ acc.length < sizeLine ∧ Nx (upd H7 D (.lst (acc ++ [y])))
/-- slots that know what σ knew outside vs -/
def KeepO (σ σ' : L2.St) (vs : List Nat) : Prop := σ.length = σ'.length ∧ ∀ (j : Nat) v, σ[j]? = some (some v) → j ∉ vs → σ'[j]? = some (some v)
section
variable {X : Cx} {e elt tg src : Expr} {ifs : List Expr} {wi : TI} {g : TG} {tt : TT} {te : TE} {vs : List Nat} {d : Nat} {D : Addr} {body : L2.St → Hp → (Hp → Prop) → Prop}
abbrev Fin0 (X : Cx) (pins : List (Addr × Obj)) (σ : L2.St) (vs : List Nat) (Nx : Hp → Prop) : Result → Shared → Prop := fun r z => match r with
  | .ok _ => ∃ σ' H', Inv X pins σ' H' z ∧ KeepO σ σ' vs ∧ Nx H'
  | .error _ => False
theorem keepO_wipe (σ : L2.St) (vs : List Nat) : KeepO σ (wipe σ vs) vs := ⟨(wipe_length _ _).symm, fun j v h n => by rw [wipe_out n]; exact h⟩
/-- a loop at depth d within the block, its body a way that brings the block on -/
theorem run_in (hc : X.calm = true) (hxe : X.xe = fun _ _ => False) {pins : List (Addr × Obj)} {s : Shared} {σ : L2.St} {H : Hp} {Nx : Hp → Prop} (I : Inv X pins σ H s) (hi : PI X tg src wi) (pg : PG X tg g) (pt : PTs X ifs tt) (h : tIn wi g tt vs body σ H Nx)
    (loop : ∀ (it : Addr) (R : Result → Shared → Prop) (L : Nat → Shared → Prop) (z : Shared) (n : Nat), L n z →
      (∀ n z, L n z → wpAny (model X.prog X.w) X.A (pyNext (.ref it)) (fun r z1 => match r with
        | none => R (.ok .next) z1
        | some v => wpAny (model X.prog X.w) X.A (letOwnedTupleGo tg (.ref it) v) (fun _ z2 => wpAny (model X.prog X.w) X.A (assign tg X.env v) (fun _ z3 => wpAny (model X.prog X.w) X.A (okRun ifs X.env) (fun ok z4 =>
          if ok = true then ∃ (P : List (Addr × Obj)) (σ' : L2.St) (H' : Hp) (N1 : Hp → Prop), Inv X P σ' H' z4 ∧ body σ' H' N1 ∧ ∀ z5 σ5 H5, Inv X P σ5 H5 z5 → KeepO σ' σ5 vs → N1 H5 → ∃ m, m < n ∧ L m z5
          else ∃ m, m < n ∧ L m z4) (fun _ _ => False) z3) (fun _ _ => False) z2) (fun _ _ => False) z1) (fun _ _ => False) z) →
      codeAny (model X.prog X.w) X.A (.compLoop e d (.ref it) (.ref D) X.env) R z)
    (begin_ : ∀ (it : Addr) (R : Result → Shared → Prop) (z : Shared), codeAny (model X.prog X.w) X.A (.compLoop e d (.ref it) (.ref D) X.env) R z → (∀ E : Value → Shared → Prop, wpAny (model X.prog X.w) X.A (pyIter (.ref it)) (fun jt z => codeAny (model X.prog X.w) X.A (.compLoop e d jt (.ref D) X.env) R z) E z) →
      codeAny (model X.prog X.w) X.A (.compStart e d (.ref it) (.ref D) X.env) R z) :
    wpAny (model X.prog X.w) X.A (eval src X.env) (fun x z => wpAny (model X.prog X.w) X.A (pyIter x) (fun jt z' => codeAny (model X.prog X.w) X.A (.compStart e d jt (.ref D) X.env) (Fin0 X pins σ vs Nx) z') (fun _ _ => False) z) (fun _ _ => False) s := by
  have hrun := hi.run pins s σ H _ I h
  rw [hxe] at hrun
  refine thnF hrun fun xv s1 hx => thnF hx fun jv s2 h2 => ?_
  obtain ⟨it, fp, tn, J, H2, e2, I2, T, st2, f2, W, ⟨m0, w0⟩, turn⟩ := h2
  subst e2
  have stat : ∀ {H' : Hp}, (∀ b ∈ fp, H' b = none) → ∀ b ∈ fp, FpOk X pins H' b := fun hn b hb => ⟨hn b hb, (f2 b hb).2⟩
  have lp : codeAny (model X.prog X.w) X.A (.compLoop e d (.ref it) (.ref D) X.env) (Fin0 X pins σ vs Nx) s2 := by
    refine loop it (Fin0 X pins σ vs Nx) (fun k z => ∃ j H', Inv X pins (wipe σ vs) H' z ∧ tn j z.heap ∧ (∀ b ∈ fp, H' b = none) ∧ W j k H') s2 m0 ⟨0, H2, I2.weak (wipe_length _ _) (fun j v q => (wipe_some q).1), st2, fun b hb => (f2 b hb).1, w0⟩ ?_
    rintro k z ⟨j, H3, I3, st3, n3, w3⟩
    rcases turn j k H3 w3 with ⟨stop, nx⟩ | ⟨go, N1, hN1, step⟩
    · refine thnF (T.done X rfl rfl rfl hc j _ z (wipe σ vs) H3 (fun _ _ => False) I3 (stat n3) st3 stop) fun r z1 ⟨hr, I4⟩ => ?_
      subst hr
      exact ⟨wipe σ vs, H3, I4, keepO_wipe σ vs, nx⟩
    · refine thnF (T.item X rfl rfl rfl hc j _ z (wipe σ vs) H3 (fun _ _ => False) I3 (stat n3) st3 go) fun r z1 ⟨u, hr, h4⟩ => ?_
      subst hr
      refine thnF h4 fun _ z2 ⟨x, H5, I5, r5, y5, st5, n5⟩ => ?_
      have I5' := I5.pinned (stat n5) (T.obj _ _ st5)
      have pgr := pg.run _ z2 (wipe σ vs) H5 x u _ I5' r5 (step x H5 y5)
      rw [hxe] at pgr
      refine thnF pgr fun _ z3 ⟨σ6, H6, I6, hw6, q6⟩ => ?_
      have ptr := pt.run _ z3 σ6 H6 _ I6 q6
      rw [hxe] at ptr
      refine thnF ptr fun b z4 ⟨H7, I7, q7⟩ => ?_
      have fin : ∀ {z' : Shared} {H' : Hp} {σ' : L2.St}, Inv X (pins ++ pinsAt fp z2.heap) σ' H' z' → KeepO σ6 σ' vs → N1 H' → ∃ m, m < k ∧ ∃ j H', Inv X pins (wipe σ vs) H' z' ∧ tn j z'.heap ∧ (∀ b ∈ fp, H' b = none) ∧ W j m H' := fun {z' H' σ'} I' ko nx => by
        obtain ⟨m', hm, w'⟩ := hN1 H' nx
        have pin' : ∀ b ∈ fp, ∀ o, z2.heap.get? b = some o → z'.heap.get? b = some o ∧ H' b = none := fun b hb o q =>
          let y := I'.pin (b, o) (List.mem_append_right _ (List.mem_append_right _ (mem_pinsAt hb q)))
          ⟨y.1, y.2.1⟩
        refine ⟨m', hm, j + 1, H', I'.unpinned.weak ?_ ?_, T.keep _ _ _ st5 fun b hb o q => (pin' b hb o q).1, fun b hb => ?_, w'⟩
        · rw [← hw6, wipe_length]; exact ko.1
        · intro i v q
          rw [← hw6] at q
          obtain ⟨q1, q2⟩ := wipe_some q
          exact ko.2 i v q1 q2
        · obtain ⟨o, q, _⟩ := T.obj _ _ st5 b hb
          exact (pin' b hb o q).2
      cases b with
      | false =>
        simp only [Bool.false_eq_true, if_false] at q7 ⊢
        exact fin I7 ⟨rfl, fun _ _ q _ => q⟩ q7
      | true =>
        simp only [if_true] at q7 ⊢
        exact ⟨_, σ6, H7, N1, I7, q7, fun z5 σ5 H5 I5 ko nx => fin I5 ko nx⟩
  exact begin_ it _ s2 lp fun E => T.self X.A 0 _ _ _ st2 lp
end
end Vs
namespace Vs
open PySem PySem.Spec PyProof.Rows L2
section
variable {X : Cx}
def tLc3 (wi : TI) (g : TG) (tt : TT) (wi1 : TI) (g1 : TG) (tt1 : TT) (wi2 : TI) (g2 : TG) (tt2 : TT) (te : TE) (vs vs1 vs2 : List Nat) : TE := fun σ H Q => wi σ H fun J H1 => ∀ D, H1 D = none → ∃ W : Nat → Nat → Hp → Prop, (∃ m, W 0 m (upd H1 D (.lst []))) ∧ ∀ i m H, W i m H →
  (J.stop i H ∧ Q (.ref D) H) ∨ (J.go i H ∧ ∃ Nx : Hp → Prop, (∀ H', Nx H' → ∃ m', m' < m ∧ W (i + 1) m' H') ∧ ∀ x H', J.yld i H x H' → g x (wipe σ vs) H' fun σ2 H2 => wipe σ2 vs = wipe σ vs ∧ tt σ2 H2 fun b H3 =>
    if b = true then tIn wi1 g1 tt1 vs1 (tIn wi2 g2 tt2 vs2 (bEnd te D)) σ2 H3 Nx else Nx H3)
abbrev Al (X : Cx) (scope : Scope) (p : Cx → Prop) : Prop := ∀ (s : Shared) (H : Hp) (C : Addr) (cl : List (Str × Addr)) (fp : List Addr), p (X.blk s H scope (compEnvC scope cl C X.env) fp)
theorem pe_lc3 {elt a0 b0 a1 b1 a2 b2 : Expr} {c0 c1 c2 : List Expr} {scope : Scope} {own : List (Str × Nat)} {vs1 vs2 : List Nat} {pos : Pos} {wi wi1 wi2 : TI} {g g1 g2 : TG} {tt tt1 tt2 : TT} {te : TE}
    (hc : X.calm = true) (hN : X.N.Nodup) (hi : PI X a0 b0 wi) (ok : BlkOk X.N X.env.scope scope own) (hv : ∀ i ∈ vs1, i ∈ own.map (·.2)) (hv2 : ∀ i ∈ vs2, i ∈ vs1)
    (hg : Al X scope fun Y => PG Y a0 g) (ht : Al X scope fun Y => PTs Y c0 tt) (hi1 : Al X scope fun Y => PI Y a1 b1 wi1) (hg1 : Al X scope fun Y => PG Y a1 g1) (ht1 : Al X scope fun Y => PTs Y c1 tt1)
    (hi2 : Al X scope fun Y => PI Y a2 b2 wi2) (hg2 : Al X scope fun Y => PG Y a2 g2) (ht2 : Al X scope fun Y => PTs Y c2 tt2) (he : Al X scope fun Y => PE Y elt te)
    (hs : ∀ x, foldedSetIterable b0 X.env x = pure x := by intro _; rfl) (hs1 : ∀ env x, foldedSetIterable b1 env x = pure x := by intro _ _; rfl) (hs2 : ∀ env x, foldedSetIterable b2 env x = pure x := by intro _ _; rfl) :
    PE X (tri elt a0 b0 a1 b1 a2 b2 c0 c1 c2 scope pos) (tLc3 wi g tt wi1 g1 tt1 wi2 g2 tt2 te (own.map (·.2)) vs1 vs2) := by
  refine ⟨fun pins s σ H Q I h => ?_⟩
  rw [eval_ListComp]
  have hfree : ∀ y ∈ scope.names, y.2 = .free → ∃ c, X.env.cells.lookup y.1 = some c := fun y hy q => (ok.free y hy q).elim (fun k => I.ok.has _ (.inl k)) fun k => I.ok.has _ (.inr k)
  refine wpAny_comprehension_free (use := none) rfl hs (closure_ok hfree) ok.kind (fun y hy q => by rw [ok.uniq y hy, q]) (thn (hi.run pins s σ H _ I h) fun xv s1 hx => thn hx fun itv s2 h2 => ?_)
  obtain ⟨it, fp, tn, J, H2, q2, I2, T, st2, f2, q⟩ := h2
  subst q2
  refine wpAny_newObj_type (newEnv_comp ?_) (by show 0 ≤ sizeLine; decide)
  generalize hD : s2.heap.objs.size = D
  obtain ⟨W, ⟨m0, w0⟩, turn⟩ := q D (I2.hok.fresh (Nat.le_of_eq hD))
  generalize hs3 : ({ s2 with heap := s2.heap.push { cls := .type "list", data := .seq ([] : List Value).toArray } } : Shared) = s3
  have I3 : Inv X pins σ (upd H2 D (.lst [])) s3 := by
    rw [← hs3]
    refine I2.laid (t' := s2.toks) (fun b o y => Heap.get?_push_of_some _ y) (Nat.le_of_eq hD) ⟨Nat.zero_le _, [], 0, .nil, ?_⟩
    rw [← hD]; exact Heap.get?_push_size _ rfl
  have h3 : s3.heap = s2.heap.push { cls := .type "list", data := .seq ([] : List Value).toArray } := by rw [← hs3]
  have f3 : ∀ b ∈ fp, FpOk X pins (upd H2 D (.lst [])) b ∧ b < s3.heap.objs.size := fun b hb => by
    have lt : b < s2.heap.objs.size := let ⟨o, y, _⟩ := T.obj _ _ st2 b hb; Heap.lt_size y
    refine ⟨⟨?_, (f2 b hb).2⟩, by rw [h3, Heap.size_push]; exact Nat.lt_succ_of_lt lt⟩
    rw [upd_ne (by rw [← hD]; exact Nat.ne_of_lt lt)]; exact (f2 b hb).1
  have st3 : tn 0 s3.heap := T.keep _ _ _ st2 fun b _ o y => by rw [h3]; exact Heap.get?_push_of_some _ y
  have I4 := block_start I3 ok hN f3
  generalize hcl : cellsFrom (s3.heap.objs.size + 1) scope.names (cloFrom X.env.cells scope.names []) = cl at I4
  have pg := hg s3 (upd H2 D (.lst [])) s3.heap.objs.size cl fp
  have pt := ht s3 (upd H2 D (.lst [])) s3.heap.objs.size cl fp
  have pe := he s3 (upd H2 D (.lst [])) s3.heap.objs.size cl fp
  have pi1 := hi1 s3 (upd H2 D (.lst [])) s3.heap.objs.size cl fp
  have pg1 := hg1 s3 (upd H2 D (.lst [])) s3.heap.objs.size cl fp
  have pt1 := ht1 s3 (upd H2 D (.lst [])) s3.heap.objs.size cl fp
  have pi2 := hi2 s3 (upd H2 D (.lst [])) s3.heap.objs.size cl fp
  have pg2 := hg2 s3 (upd H2 D (.lst [])) s3.heap.objs.size cl fp
  have pt2 := ht2 s3 (upd H2 D (.lst [])) s3.heap.objs.size cl fp
  have nfp : ∀ b ∈ fp, (upd H2 D (.lst [])) b = none := fun b hb => (f3 b hb).1.1
  show codeAny _ _ (.compStart (tri elt a0 b0 a1 b1 a2 b2 c0 c1 c2 scope pos) 0 (.ref it) (.ref D) (compEnvC scope cl s3.heap.objs.size X.env)) (compPost (model X.prog X.w) X.A X.xe none (fun v s' => ∃ x H', Inv X pins σ H' s' ∧ RelV x v ∧ Q x H') (.ref D) s3.heap.objs.size) { s3 with heap := pushCells (s3.heap.push { cls := .type "dict", data := .dict #[] }) scope.names }
  generalize hce : compEnvC scope cl s3.heap.objs.size X.env = ce at I4 pg pt pe pi1 pg1 pt1 pi2 pg2 pt2 ⊢
  have cL : ce.locals = s3.heap.objs.size := by subst hce; rfl
  generalize hH3 : upd H2 D (.lst []) = H3 at I3 I4 pg pt pe pi1 pg1 pt1 pi2 pg2 pt2 w0 nfp f3
  generalize hs4 : ({ s3 with heap := pushCells (s3.heap.push { cls := .type "dict", data := .dict #[] }) scope.names } : Shared) = s4 at I4 ⊢
  have st4 : tn 0 s4.heap := T.keep _ _ _ st3 fun b _ o y => by rw [← hs4]; exact pushCells_keeps _ _ _ _ (Heap.get?_push_of_some _ y)
  generalize hY : X.blk s3 H3 scope ce fp = Y at I4 pg pt pe pi1 pg1 pt1 pi2 pg2 pt2
  have stat : ∀ {σ' : L2.St} {H' : Hp} {s' : Shared}, Inv Y [] σ' H' s' → (∀ b ∈ fp, H' b = none) → ∀ b ∈ fp, FpOk Y [] H' b := fun {σ' H' s'} I' hn b hb => by
    subst hY
    exact ⟨hn b hb, (I'.ok.exf b hb).1, I'.ok.exfs b hb, .inl hb, fun x c y => (I'.ok.exf b hb).2 x c y, fun p hp => absurd (show p ∈ ([] : List (Addr × Obj)) ++ [] from hp) (by simp)⟩
  have yp : Y.prog = X.prog := by subst hY; rfl
  have yw : Y.w = X.w := by subst hY; rfl
  have yK : Y.K = X.K := by subst hY; rfl
  have yA : Y.A = X.A := by subst hY; rfl
  have yc : Y.calm = true := by subst hY; exact hc
  have ye : Y.env = ce := by subst hY; rfl
  have yx : Y.xe = fun _ _ => False := by subst hY; rfl
  have loop : codeAny (model X.prog X.w) X.A (.compLoop (tri elt a0 b0 a1 b1 a2 b2 c0 c1 c2 scope pos) 0 (.ref it) (.ref D) ce) (compPost (model X.prog X.w) X.A X.xe none (fun v s' => ∃ x H', Inv X pins σ H' s' ∧ RelV x v ∧ Q x H') (.ref D) s3.heap.objs.size) s4 := by
    refine way_out tri_0 (hs1 ce) (fun n z => ∃ i H', Inv Y [] (wipe σ (own.map (·.2))) H' z ∧ tn i z.heap ∧ (∀ b ∈ fp, H' b = none) ∧ W i n H') ?_ m0 ⟨0, H3, I4, st4, nfp, w0⟩
    rintro n s5 ⟨i, H5, I5, st5, n5, w5⟩
    rcases turn i n H5 w5 with ⟨stop, qq⟩ | ⟨go, Nx, hNx, step⟩
    · have td := T.done Y yp yw yK yc i [] s5 _ H5 (fun _ _ => False) I5 (stat I5 n5) st5 stop
      rw [yA] at td
      refine thnF td fun r s6 ⟨hr, I6⟩ => ?_
      subst hr
      subst hY
      have I7 : Inv X pins σ H5 s6 := I3.call' (ch := fp) I6.os I6.base I6.hok I6.bare fun b hb => ⟨(f3 b hb).1.2.2.2.1, (f3 b hb).1.2.1, (f3 b hb).1.2.2.2.2.1, (f3 b hb).1.2.2.2.2.2⟩
      have nC : H5 s3.heap.objs.size = none := cL ▸ (I6.free : H5 ce.locals = none)
      obtain ⟨m, hn, _⟩ := I6.loc
      have hn : s6.heap.Ns ce.locals m := hn
      rw [cL] at hn
      refine ⟨m, hn, fun h'' sb => ?_⟩
      obtain ⟨k0, k1, k2, k3, k4, k5⟩ := I3.fpOk (Nat.le_refl _) nC
      exact ⟨.ref D, H5, I7.turned (t' := s6.toks) (fun b o hb y => (sb.2 b hb).trans y) k0 k1 k3 k4 k5, rfl, qq⟩
    · have ti := T.item Y yp yw yK yc i [] s5 _ H5 (fun _ _ => False) I5 (stat I5 n5) st5 go
      rw [yA] at ti
      refine thnF ti fun r s6 ⟨u, hr, h6⟩ => ?_
      subst hr
      refine thnF h6 fun _ s7 ⟨x, H7, I7, r7, y7, st7, n7⟩ => ?_
      have I7' := I7.pinned (stat I7 n7) (T.obj _ _ st7)
      have pgr := pg.run _ s7 _ H7 x u _ I7' r7 (step x H7 y7)
      rw [yx, yp, yw, yA, ye] at pgr
      refine thnF pgr fun _ s8 ⟨σ8, H8, I8, hw8, q8⟩ => ?_
      have ptr := pt.run _ s8 σ8 H8 _ I8 q8
      rw [yx, yp, yw, yA, ye] at ptr
      refine thnF ptr fun b s9 ⟨H9, I9, q9⟩ => ?_
      have fin : ∀ {σ9 : L2.St} {s' : Shared} {H' : Hp}, Inv Y ([] ++ pinsAt fp s7.heap) σ9 H' s' → KeepO σ8 σ9 (own.map (·.2)) → Nx H' →
          ∃ m, m < n ∧ ∃ i H', Inv Y [] (wipe σ (own.map (·.2))) H' s' ∧ tn i s'.heap ∧ (∀ b ∈ fp, H' b = none) ∧ W i m H' := fun {σ9 s' H'} I' ko nx => by
        obtain ⟨m', hm, w'⟩ := hNx H' nx
        have pin' : ∀ b ∈ fp, ∀ o, s7.heap.get? b = some o → s'.heap.get? b = some o ∧ H' b = none := fun b hb o y =>
          let z := I'.pin (b, o) (List.mem_append_right _ (List.mem_append_right _ (mem_pinsAt hb y)))
          ⟨z.1, z.2.1⟩
        refine ⟨m', hm, i + 1, H', (I'.unpinned (pins := [])).weak ?_ ?_, T.keep _ _ _ st7 fun b hb o y => (pin' b hb o y).1, fun b hb => ?_, w'⟩
        · rw [← hw8, wipe_length]; exact ko.1
        · intro j v y
          rw [← hw8] at y
          obtain ⟨y1, y2⟩ := wipe_some y
          exact ko.2 j v y1 y2
        · obtain ⟨o, y, _⟩ := T.obj _ _ st7 b hb
          exact (pin' b hb o y).2
      cases b with
      | false =>
        simp only [Bool.false_eq_true, if_false] at q9 ⊢
        exact fin I9 ⟨rfl, fun _ _ y _ => y⟩ q9
      | true =>
        simp only [if_true] at q9 ⊢
        have mid := run_in (X := Y) (e := tri elt a0 b0 a1 b1 a2 b2 c0 c1 c2 scope pos) (d := 1) (D := D) yc yx I9 pi1 pg1 pt1 q9 ?_ ?_
        · rw [yp, yw, yA, ye] at mid
          refine thnF mid fun xv z hz => thnF hz fun jt z' hz' => codeAny_mono hz' fun r z7 hr => ?_
          cases r with
          | ok f =>
            obtain ⟨σ', H', I', ko, nx⟩ := hr
            exact fin I' ⟨ko.1, fun j v y nj => ko.2 j v y fun mj => nj (hv j mj)⟩ nx
          | error x => exact hr.elim
        · intro jt R L z n1 hL tn1
          refine way_out tri_1 (hs2 _) L (fun n z hz => ?_) n1 hL
          refine thnF (tn1 n z hz) fun r z1 h1 => ?_
          cases r with
          | none => exact h1
          | some v =>
            refine thnF h1 fun _ z2 h2 => thnF h2 fun _ z3 h3 => thnF h3 fun ok z4 h4 => ?_
            cases ok with
            | false => exact h4
            | true =>
              simp only [if_true] at h4 ⊢
              obtain ⟨P, σ', H', N1, I', bd, nxt⟩ := h4
              have inn := run_in (X := Y) (e := tri elt a0 b0 a1 b1 a2 b2 c0 c1 c2 scope pos) (d := 2) (D := D) yc yx I' pi2 pg2 pt2 bd ?_ ?_
              · refine thnF inn fun xv z5 hz => thnF hz fun jt z6 hz' => codeAny_mono hz' fun r z7 hr => ?_
                cases r with
                | ok f =>
                  obtain ⟨σ5, H5, I5, ko, nx⟩ := hr
                  exact nxt z7 σ5 H5 I5 ⟨ko.1, fun j v y nj => ko.2 j v y fun mj => nj (hv2 j mj)⟩ nx
                | error x => exact hr.elim
              · intro jt R L z n1 hL tn1
                refine way_in tri_2 L (fun n z hz => ?_) n1 hL
                refine thnF (tn1 n z hz) fun r z1 h1 => ?_
                cases r with
                | none => exact h1
                | some v =>
                  refine thnF h1 fun _ z2 h2 => thnF h2 fun _ z3 h3 => thnF h3 fun ok z4 h4 => ?_
                  cases ok with
                  | false => exact h4
                  | true =>
                    simp only [if_true] at h4 ⊢
                    obtain ⟨P, σ', H', N1, I', bd, nxt⟩ := h4
                    have per := pe.run _ z4 σ' H' _ I' bd
                    rw [yx] at per
                    refine thnF per fun v z5 ⟨yv, H5, I5, r5, acc, hD5, hz5, nx⟩ => ?_
                    exact app_ok (X := Y) I5 hD5 hz5 r5 fun z6 I6 => nxt z6 σ' _ I6 ⟨rfl, fun _ _ y _ => y⟩ nx
              · intro jt R z h0 h1
                exact tri_start2 h0 (h1 _)
        · intro jt R z h0 h1
          exact tri_start1 h0 (h1 _)
  exact codeAny_compStart_list loop (T.self X.A 0 _ _ _ st4 loop)
end
end Vs
namespace Vs
open PySem L2
/-! ### sweep -/
section
variable {P : Program} {w : World} {K : PySem.W.Frag} {mg : Str → Option Value} {base : Heap} {T : Cs} {U : Es} {Pt : Addr}
theorem RightJ.len {Ks : List Str} {S : Sh} {J : List Str} {G : Jud} (W : WF Ks S) (R : RightJ S J G) : J.length ≤ 60 :=
  Nat.le_trans (len_le_pool R.nd fun k hk => let ⟨n, b, hb, hm⟩ := R.ink k hk; (W.lks n b hb).2 k hm) W.pool
theorem br_at {Ks : List Str} {S : Sh} (W : WF Ks S) (α : Rl → Addr) {i : Nat} {x : V} (h : ((enc Sum.inl (fun n _ => V.ref (α (.br n))) S.brs).map (·.2))[i]? = some x) : ∃ n y, S.brs[i]? = some (n, y) ∧ x = .ref (α (.br n)) ∧ aget S.brs n = some y := by
  unfold enc at h
  rw [List.map_map, List.getElem?_map] at h
  cases e : S.brs[i]? with
  | none => rw [e] at h; cases h
  | some p =>
    rw [e] at h
    exact ⟨p.1, p.2, rfl, (Option.some.inj h).symm, aget_of_mem (nodup_of_lt W.bks) (List.mem_of_getElem? e)⟩
theorem Lay.lnsOff {H : Hp} {S : Sh} {α α' : Rl → Addr} {δ : Dl} {J : List Str} {G : Jud} (L : Lay T H S α' δ J G) (off : OffJg α α') {n : Int} {b : Br} (hb : aget S.brs n = some b) : H (α (.lns n)) = some (thw (δ.fz n) (.dK (enc .inr (fun k _ => .ref (α (.ln n k))) b.lines))) := by
  have := L.lns hb
  have e : ∀ k, α' (.ln n k) = α (.ln n k) := fun k => off _ fun _ => ⟨by simp, by simp, by simp⟩
  rw [off (.lns n) fun _ => ⟨by simp, by simp, by simp⟩] at this
  simp only [e] at this
  exact this
def spSweep (T : Cs) : Sp := fun vs H Q _ => ∃ (Ks : List Str) (p : Addr) (S : Sh) (F : Addr → Prop) (m : Nat), vs = [.ref p, .int m] ∧ ShAt T H p S F ∧ WF Ks S ∧ (versM S.brs).length ≤ 1000000 ∧
  ∀ H' q rs α δ J G, α .sh = p → Lay T H' (S.sweepTo m) α δ J G → δ.Thaw → Step H F H' (Foot (S.sweepTo m) α J) →
    (∀ k ∈ J, G k = (ownersM S k, reasonsM S k) ∧ (∃ n b, aget S.brs n = some b ∧ k ∈ b.lines.map (·.1)) ∧ ∀ g ∈ (goM S).take m, g.1.2.1 ≠ k) → J.Nodup →
    (∀ a o, H a = some o → NT o → ¬ F a → a ≠ q) → H' q = some (.lst rs) → Gons H' rs ((goM S).take m) → ¬ Foot (S.sweepTo m) α J q → Q (.ref q) H'
abbrev nSweep : List Str := ["self", "most", "branch", "key", "gone", "number", "born", "until", "why"]
theorem sc_sweep : FnScope nSweep ["self", "most"] (defScope s_Shelf_sweep) := ⟨rfl, rfl, rfl, by decide +kernel, rfl, by decide +kernel, by decide +kernel⟩
theorem gon_take {H : Hp} : ∀ {rs : List V} {l : List Gon} (m : Nat), Gons H rs l → Gons H (rs.take m) (l.take m)
  | _, _, 0, _ => .nil
  | _, _, m + 1, .nil => .nil
  | _, _, m + 1, .cons h t => .cons h (gon_take m t)
theorem cut_take (xs : List V) (m : Nat) : cutV xs none (some (m : Int)) = xs.take m := by
  unfold cutV
  rw [HT.sIx_none, HT.sIx_nat]
  show (xs.drop 0).take (min m xs.length - 0) = xs.take m
  rw [List.drop_zero, Nat.sub_zero]
  rcases Nat.le_total m xs.length with h | h
  · rw [Nat.min_eq_left h]
  · rw [Nat.min_eq_right h, List.take_length, List.take_of_length_le h]
theorem ok_sweep {f : Addr} {fd : FuncData} (F : Fun K "sweep" "Shelf.sweep" s_Shelf_sweep f fd) (B : Bt mg) (C : Cf K T) (c1 : Mx P w K mg base CX0 T.S "judgement" 6 ["self", "key"] (spJudgement T))
    (c2 : Fx P w K mg base CX0 "can_go" 2 ["branches", "judged"] (spCanGo T)) (c3 : Fx P w K mg base CX0 "take_version" 2 ["branches", "number", "key", "born"] (spTake T)) (c4 : Fx P w K mg base CX0 "take_marks" 2 ["branches", "hands", "now"] (spMarks T))
    (c5 : Fx P w K mg base CX0 "take_branches" 1 ["branches", "hands"] (spTakeB T)) : FnOk P w K mg base CX0 7 f fd ["self", "most"] (spSweep T) := by
  obtain ⟨f1, fd1, m1, b1, G1⟩ := c1
  obtain ⟨f2, fd2, g2, k2, b2, G2⟩ := c2
  obtain ⟨f3, fd3, g3, k3, b3, G3⟩ := c3
  obtain ⟨f4, fd4, g4, k4, b4, G4⟩ := c4
  obtain ⟨f5, fd5, g5, k5, b5, G5⟩ := c5
  refine F.ok sc_sweep (fun vs H Q E h => ?_) (fun cdv A outer s H vs Q E hr h => ?_)
  · obtain ⟨Ks, p, S, F, m, rfl, _⟩ := h
    rfl
  · obtain ⟨Ks, p, S, F, m, rfl, ⟨α, δ, J, G, rfl, rfl, L, R, Z⟩, W, tot, kq⟩ := h
    have hu := hu_of hr
    refine ⟨_, pss_cons (ps_for PassesOwn.never rfl (pi_list (pe_listVals rfl (pe_fld (pv 0) rfl) (by rfl) B.list rfl)) (pg_name (i := 2) sc_sweep.nd rfl (.inl rfl))
        (pss_one (ps_lock (ps_for PassesOwn.never rfl (pi_keys (pe_fld (pv 2) rfl)) (pg_name (i := 3) sc_sweep.nd rfl (.inl rfl))
          (pss_one (ps_expr (pe_meth (pv 0) C.S m1 G1 hr b1 .nil pass0 (pa_cons (pv 3) pa_nil))))))))
      (pss_cons (ps_set (i := 4) sc_sweep.nd rfl (.inl rfl) (pe_slice sl_list (pe_call G2 (hr.mono (by decide)) rfl g2 k2 b2 .nil pass0 (pa_cons (pe_fld (pv 0) rfl) (pa_cons (pe_fld (pv 0) rfl) pa_nil))) po_none (po_some (pv 1))))
      (pss_cons (ps_for PassesOwn.never rfl (pi_list (pv 4)) (pg_tup rfl (pgs_cons (pg_name (i := 5) sc_sweep.nd rfl (.inl rfl)) (pgs_cons (pg_name (i := 3) sc_sweep.nd rfl (.inl rfl)) (pgs_cons (pg_name (i := 6) sc_sweep.nd rfl (.inl rfl)) (pgs_cons (pg_name (i := 7) sc_sweep.nd rfl (.inl rfl)) (pgs_cons (pg_name (i := 8) sc_sweep.nd rfl (.inl rfl)) pgs_nil))))))
        (pss_cons (ps_expr (pe_call G3 (hr.mono (by decide)) rfl g3 k3 b3 .nil pass0 (pa_cons (pe_fld (pv 0) rfl) (pa_cons (pv 5) (pa_cons (pv 3) (pa_cons (pv 6) pa_nil))))))
        (pss_one (ps_expr (pe_dpop2 (pe_fld (pv 0) rfl) (pv 3) pe_non ⟨rfl, rfl, rfl, rfl⟩)))))
      (pss_cons (ps_expr (pe_call G4 (hr.mono (by decide)) rfl g4 k4 b4 .nil pass0 (pa_cons (pe_fld (pv 0) rfl) (pa_cons (pe_fld (pv 0) rfl) (pa_cons (pe_fld (pv 0) rfl) pa_nil)))))
      (pss_cons (ps_expr (pe_call G5 (hr.mono (by decide)) rfl g5 k5 b5 .nil pass0 (pa_cons (pe_fld (pv 0) rfl) (pa_cons (pe_fld (pv 0) rfl) pa_nil))))
      (pss_one (ps_ret (pv 4))))))), ?_⟩
    refine ⟨_, rfl, _, _, _, _, _, rfl, L.sh, C.S, C.sBrs, rfl, _, _, rfl, .inl L.brs, fun p hp => ⟨p, rfl, ⟨_, SqL.of upd_same⟩, ?_⟩⟩
    generalize hvs : (enc Sum.inl (fun n _ => V.ref (α (.br n))) S.brs).map (·.2) = vals
    have s2 : Sm H (upd H p (.lst vals)) := Sm.new hp
    have hpl : upd H p (.lst vals) p = some (.lst vals) := upd_same
    generalize upd H p (.lst vals) = H2 at s2 hpl
    have nFp : ¬ Foot S α J p := fun ⟨r, hr, e⟩ => L.nofr hp hr e
    refine for_list (K := K) (a := p) (xs := vals) (fun i σ H3 => (∃ x2 x3 x4 x5 x6 x7 x8, σ = [some (.ref (α .sh)), some (.int m), x2, x3, x4, x5, x6, x7, x8]) ∧
        ∃ α3 δ3 J3 G3, OffJg α α3 ∧ δ3.Thaw ∧ Lay T H3 S α3 δ3 J3 G3 ∧ RightJ S J3 G3 ∧ Step H2 (Foot S α J) H3 (Foot S α3 J3) ∧ ∀ j, j < i → ∀ n b, S.brs[j]? = some (n, b) → ∀ k ∈ b.lines.map (·.1), k ∈ J3)
      ⟨⟨_, _, _, _, _, _, _, rfl⟩, α, δ, J, G, fun _ _ => rfl, Z, L.sm s2, R, Step.refl _ _, fun j hj => absurd hj (Nat.not_lt_zero _)⟩ (fun i σ H3 _ ⟨_, α3, δ3, J3, G3, _, _, _, _, st, _⟩ => SqL.of (st.keep p _ hpl (ntL _) nFp).1) ?_ ?_
    · rintro i x σ H3 hx ⟨⟨x2, x3, x4, x5, x6, x7, x8, rfl⟩, α3, δ3, J3, G3, off3, Z3, L3, R3, st3, in3⟩
      rw [← hvs] at hx
      obtain ⟨n, b, hi, rfl, hb⟩ := br_at W α hx
      have hl3 : H3 (α (.lns n)) = some (.dK (enc .inr (fun k _ => .ref (α (.ln n k))) b.lines)) := by
        have := L3.lnsOff off3 hb
        rw [Z3 n] at this; exact this
      have eB : α3 (.br n) = α (.br n) := off3 _ fun _ => ⟨by simp, by simp, by simp⟩
      have eL : α3 (.lns n) = α (.lns n) := off3 _ fun _ => ⟨by simp, by simp, by simp⟩
      have eln : ∀ k, α3 (.ln n k) = α (.ln n k) := fun k => off3 _ fun _ => ⟨by simp, by simp, by simp⟩
      refine ⟨α (.lns n), _, hl3, trivial, fun od => ?_⟩
      obtain ⟨L4, st4⟩ := L3.setFz hb (some od)
      simp only [eln, eL] at L4 st4
      have b4 := L4.br hb
      rw [eB] at b4
      generalize hes : enc (Sum.inr : Str → Key) (fun k _ => V.ref (α (.ln n k))) b.lines = es at L4 st4 b4
      have h4l : upd H3 (α (.lns n)) (thw (some od) (.dK es)) (α (.lns n)) = some (.frz od (.dK es)) := upd_same
      have eF : (upd H3 (α (.lns n)) (.frz od (.dK es))) = (upd H3 (α (.lns n)) (thw (some od) (.dK es))) := rfl
      rw [eF]
      generalize upd H3 (α (.lns n)) (thw (some od) (.dK es)) = H4 at L4 st4 h4l b4
      have vL : (V.ref (α3 (.lns n))) = .ref (α (.lns n)) := by rw [eL]
      refine ⟨_, rfl, _, _, _, _, _, rfl, b4, C.B, C.bLn, rfl, α (.lns n), od, vL, .inl ⟨es, h4l, ?_⟩⟩
      refine for_keys (d := α (.lns n)) (o := od) (es := es) (fun j σ H5 => (∃ x3 x4 x5 x6 x7 x8, σ = [some (.ref (α .sh)), some (.int m), some (.ref (α (.br n))), x3, x4, x5, x6, x7, x8]) ∧
          ∃ α5 δ5 J5 G5, OffJg α α5 ∧ δ5.fz = (fun m => if m = n then some od else δ3.fz m) ∧ Lay T H5 S α5 δ5 J5 G5 ∧ RightJ S J5 G5 ∧ Step H2 (Foot S α J) H5 (Foot S α5 J5) ∧ (∀ k ∈ J3, k ∈ J5) ∧ ∀ k ∈ (b.lines.map (·.1)).take j, k ∈ J5)
        ⟨⟨_, _, _, _, _, _, rfl⟩, α3, _, J3, G3, off3, rfl, L4, R3, st3.trans st4, fun _ h => h, fun k hk => by simp at hk⟩ (fun j σ H5 ⟨_, α5, δ5, J5, G5, off5, fz5, L5, _⟩ => ?_) ?_ ?_
      · have := L5.lnsOff off5 hb
        rw [fz5, hes] at this
        dsimp only at this
        rw [if_pos rfl] at this
        exact this
      · rintro j k v σ H5 hk ⟨⟨x3, x4, x5, x6, x7, x8, rfl⟩, α5, δ5, J5, G5, off5, fz5, L5, R5, st5, sub5, in5⟩
        rw [← hes] at hk
        obtain ⟨kk, ln, hj, rfl, _⟩ := enc_at hk
        have e5 : α5 .sh = α .sh := off5 _ fun _ => ⟨by simp, by simp, by simp⟩
        have sh5 := L5.sh
        rw [e5] at sh5
        have hkk : (b.lines.map (·.1))[j]? = some kk := by rw [List.getElem?_map, hj]; rfl
        refine ⟨_, rfl, _, _, _, rfl, sh5, fSh_no, _, rfl, Ks, S, α5, δ5, J5, G5, kk, (by rw [e5]; rfl), L5, R5.rt, W, by have := R5.len W; omega, fun H6 α6 δ6 J6 G6 off6 fz6 L6 R6 hJ hkJ st6 => ?_⟩
        have sub6 : ∀ k ∈ J5, k ∈ J6 := fun k h => by
          rcases hJ with ⟨_, z⟩ | ⟨_, z⟩
          · rw [z]; exact h
          · rw [z]; exact List.mem_append.mpr (.inl h)
        refine ⟨⟨_, _, _, _, _, _, rfl⟩, α6, δ6, J6, G6, fun r hr => (off6 r hr).trans (off5 r hr), fz6.trans fz5, L6, ⟨R6, ?_, ?_⟩, st5.trans st6, fun k h => sub6 k (sub5 k h), fun k h => ?_⟩
        · rcases hJ with ⟨_, z⟩ | ⟨y, z⟩
          · rw [z]; exact R5.nd
          · rw [z]; exact nd_snoc R5.nd y
        · intro k h
          rcases hJ with ⟨_, z⟩ | ⟨y, z⟩
          · rw [z] at h; exact R5.ink k h
          · rw [z] at h
            rcases List.mem_append.mp h with q | q
            · exact R5.ink k q
            · have q : k = kk := by simpa using q
              exact ⟨n, b, hb, by rw [q]; exact List.mem_of_getElem? hkk⟩
        · rw [take_snoc hkk] at h
          rcases List.mem_append.mp h with q | q
          · exact sub6 k (in5 k q)
          · have q : k = kk := by simpa using q
            rw [q]; exact hkJ
      · rintro σ H5 ⟨⟨x3, x4, x5, x6, x7, x8, rfl⟩, α5, δ5, J5, G5, off5, fz5, L5, R5, st5, sub5, in5⟩
        have h5l := L5.lnsOff off5 hb
        rw [fz5, hes] at h5l
        dsimp only at h5l
        rw [if_pos rfl] at h5l
        obtain ⟨L6, st6⟩ := L5.setFz hb none
        have eL5 : α5 (.lns n) = α (.lns n) := off5 _ fun _ => ⟨by simp, by simp, by simp⟩
        have eln5 : ∀ k, α5 (.ln n k) = α (.ln n k) := fun k => off5 _ fun _ => ⟨by simp, by simp, by simp⟩
        simp only [eln5, eL5] at L6 st6
        rw [hes] at L6 st6
        rw [show es.length = b.lines.length from by rw [← hes]; exact enc_length _] at in5
        rw [show (b.lines.map (·.1)).take b.lines.length = b.lines.map (·.1) from by rw [List.take_of_length_le]; rw [List.length_map]; exact Nat.le_refl _] at in5
        refine ⟨h5l, ⟨_, _, _, _, _, _, _, rfl⟩, α5, _, J5, G5, off5, fun q => ?_, L6, R5, st5.trans st6, fun j hj n' b' hj' k hk => ?_⟩
        · show (if q = n then none else δ5.fz q) = none
          by_cases e : q = n
          · rw [if_pos e]
          · rw [if_neg e, fz5]
            show (if q = n then some od else δ3.fz q) = none
            rw [if_neg e]; exact Z3 q
        · by_cases e : j = i
          · subst e
            rw [hi] at hj'
            obtain ⟨rfl, rfl⟩ := Prod.mk.inj (Option.some.inj hj')
            exact in5 k hk
          · exact sub5 k (in3 j (by omega) n' b' hj' k hk)
    · rintro σ H3 ⟨⟨x2, x3, x4, x5, x6, x7, x8, rfl⟩, α3, δ3, J3, G3', off3, Z3, L3, R3, st3, in3⟩
      have inJ : ∀ n b k, aget S.brs n = some b → k ∈ b.lines.map (·.1) → k ∈ J3 := fun n b k hb hk => by
        obtain ⟨j, hj⟩ := List.mem_iff_getElem?.mp (aget_mem hb)
        refine in3 j ?_ n b hj k hk
        rw [← hvs, List.length_map, enc_length]
        exact (List.getElem?_eq_some_iff.mp hj).1
      have e3 : α3 .sh = α .sh := off3 _ fun _ => ⟨by simp, by simp, by simp⟩
      have sh3 := L3.sh
      rw [e3] at sh3
      refine ⟨_, rfl, _, _, _, _, _, rfl, sh3, C.S, C.sBrs, rfl, _, rfl, _, _, _, _, _, rfl, sh3, C.S, C.sJd, rfl, Ks, S, α3, δ3, J3, G3', rfl, L3, R3.rt, W, inJ, tot, fun H4 pg rs s4 hpg h4 hG => ?_⟩
      refine ⟨_, rfl, _, rfl, pg, _, rfl, SqL.of h4, fun q hq => ?_⟩
      rw [cut_take]
      generalize hgs : (goM S).take m = gs at kq
      have hG' : Gons H4 (rs.take m) gs := by rw [← hgs]; exact gon_take m hG
      generalize rs.take m = rs' at hG'
      have s5 := s4.trans (Sm.new (o := .lst rs') hq)
      have h5q : upd H4 q (.lst rs') q = some (.lst rs') := upd_same
      have hG5 := hG'.tups (Sm.new (o := .lst rs') hq).tups
      generalize upd H4 q (.lst rs') = H5 at s5 h5q hG5
      have hq3 : H3 q = none := s4.free hq
      have nFq : ¬ Foot S α3 J3 q := fun ⟨r, hr, e⟩ => L3.nofr hq3 hr e
      have L5 := L3.sm s5
      have hs : ∀ g ∈ gs, g ∈ goM S := fun g hg => by rw [← hgs] at hg; exact List.mem_of_mem_take hg
      have nd : (gs.map id3).Nodup := by
        rw [← hgs, List.map_take]; exact (goM_nd W).sublist (List.take_sublist _ _)
      refine ⟨_, rfl, q, rfl, ⟨_, SqL.of h5q⟩, ?_⟩
      refine for_list (K := K) (a := q) (xs := rs') (fun i σ H6 => (∃ x2 x3 x5 x6 x7 x8, σ = [some (.ref (α .sh)), some (.int m), x2, x3, some (.ref q), x5, x6, x7, x8]) ∧
          Mv T H5 S α3 J3 H6 (takeAll S (gs.take i)) α3 δ3 (J3.filter fun k => decide (k ∉ (gs.take i).map fun g => g.1.2.1)) G3')
        ⟨⟨_, _, _, _, _, _, rfl⟩, ?_⟩ (fun i σ H6 _ ⟨_, _, st⟩ => SqL.of (st.keep q _ h5q (ntL _) nFq).1) ?_ ?_
      · have e : (J3.filter fun k => decide (k ∉ (gs.take 0).map fun g => g.1.2.1)) = J3 := by
          rw [List.filter_eq_self.mpr]; intro k _; simp
        rw [e]
        exact ⟨L5, Step.refl _ _⟩
      · rintro i x σ H6 hx ⟨⟨x2, x3, x5, x6, x7, x8, rfl⟩, L6, st6⟩
        obtain ⟨g, hg, t, rfl, ht⟩ := LiI.paired_get hG5 hx
        have ht6 := st6.tups _ _ ht
        obtain ⟨b, l, c, hb, hl, hc, ec⟩ := next_there W hs nd hg
        have W6 := W.takeAll (gs.take i)
        obtain ⟨ri, _, _⟩ := W6.ln _ b _ l hb hl
        have ll := W6.cap.l _ b _ l hb hl
        have sh6 := L6.sh
        rw [e3] at sh6
        refine ⟨t, _, rfl, SqT.of ht6, rfl, _, _, rfl, _, _, rfl, _, _, rfl, _, _, rfl, _, _, rfl, rfl, ?_⟩
        refine ⟨_, rfl, _, _, _, _, _, rfl, sh6, C.S, C.sBrs, rfl, _, rfl, _, rfl, _, rfl, _, α3, δ3, _, G3', g.1.1, g.1.2.1, b, l, c, (by rw [ec]; rfl), L6, Z3, hb, hl, ri, ll, hc, fun H7 mv7 => ?_⟩
        rw [ec] at mv7
        rw [takeAll_snoc S hg]
        generalize takeAll S (gs.take i) = S6 at *
        generalize hJf : (J3.filter fun k => decide (k ∉ (gs.take i).map fun g => g.1.2.1)) = Jf at *
        obtain ⟨L7, st7⟩ := mv7
        have eJ : (J3.filter fun k => decide (k ∉ (gs.take (i + 1)).map fun g => g.1.2.1)) = Jf.filter fun j => decide (j ≠ g.1.2.1) := by
          rw [← hJf, List.filter_filter, take_snoc hg]
          apply List.filter_congr
          intro k _
          simp only [List.map_append, List.map_cons, List.map_nil, List.mem_append, List.mem_singleton, not_or]
          by_cases h1 : k = g.1.2.1 <;> by_cases h2 : k ∈ (gs.take i).map (fun g => g.1.2.1) <;> simp [h1, h2]
        rw [eJ]
        have sh7 := L7.sh
        rw [e3] at sh7
        refine ⟨_, rfl, _, _, _, _, _, rfl, sh7, C.S, C.sJd, rfl, _, rfl, .inl ⟨_, .inl L7.jd⟩, _, rfl, _, Sum.inr g.1.2.1, L7.jd, rfl, fun v hv => ?_, fun hv => ?_⟩
        · obtain ⟨L8, st8⟩ := L7.delJg g.1.2.1
          exact ⟨⟨_, _, _, _, _, _, rfl⟩, L8, st6.trans (st7.trans st8)⟩
        · rw [valJ Jf (fun k => .ref (α3 (.jg k)))] at hv
          by_cases hk : g.1.2.1 ∈ Jf
          · rw [if_pos hk] at hv; cases hv
          · have e : (Jf.filter fun j => decide (j ≠ g.1.2.1)) = Jf := by
              rw [List.filter_eq_self.mpr]
              intro j hj
              simp only [decide_eq_true_eq]
              exact fun z => hk (z ▸ hj)
            rw [e]
            exact ⟨⟨_, _, _, _, _, _, rfl⟩, L7, st6.trans st7⟩
      · rintro σ H6 ⟨⟨x2, x3, x5, x6, x7, x8, rfl⟩, L6, st6⟩
        rw [show gs.take rs'.length = gs from by rw [Paired.length hG5, List.take_length]] at L6 st6
        have kJ : ∀ k ∈ (J3.filter fun k => decide (k ∉ gs.map fun g => g.1.2.1)), G3' k = (ownersM S k, reasonsM S k) ∧ (∃ n b, aget S.brs n = some b ∧ k ∈ b.lines.map (·.1)) ∧ ∀ g ∈ gs, g.1.2.1 ≠ k := fun k hk => by
          obtain ⟨h1, h2⟩ := List.mem_filter.mp hk
          have h2 := of_decide_eq_true h2
          exact ⟨R3.rt k h1, R3.ink k h1, fun g hg e => h2 (List.mem_map.mpr ⟨g, hg, e⟩)⟩
        have ndJ : (J3.filter fun k => decide (k ∉ gs.map fun g => g.1.2.1)).Nodup := R3.nd.sublist List.filter_sublist
        have hq6 := (st6.keep q _ h5q (ntL _) nFq)
        have hG6 := hG5.tups st6.tups
        generalize (J3.filter fun k => decide (k ∉ gs.map fun g => g.1.2.1)) = Jf at *
        have W6 := W.takeAll gs
        generalize hS6 : takeAll S gs = S6 at *
        have sh6 := L6.sh
        rw [e3] at sh6
        refine ⟨_, rfl, _, _, _, _, _, rfl, sh6, C.S, C.sBrs, rfl, _, rfl, _, _, _, _, _, rfl, sh6, C.S, C.sHns, rfl, _, rfl, _, _, _, _, _, rfl, sh6, C.S, C.sNow, rfl, Ks, S6, α3, δ3, Jf, G3', rfl, L6, W6, fun H7 α7 off7 mv7 => ?_⟩
        obtain ⟨L7, st7⟩ := mv7
        have e7 : α7 .sh = α .sh := (off7 _ fun _ => by simp).trans e3
        have sh7 := L7.sh
        rw [e7] at sh7
        refine ⟨_, rfl, _, _, _, _, _, rfl, sh7, C.S, C.sBrs, rfl, _, rfl, _, _, _, _, _, rfl, sh7, C.S, C.sHns, rfl, Ks, S6.takeM, α7, δ3, Jf, G3', rfl, L7, W6.takeM, Z3, fun H8 mv8 => ?_⟩
        obtain ⟨L8, st8⟩ := mv8
        refine ⟨_, rfl, ?_⟩
        have stq := (st7.trans st8).keep q _ hq6.1 (ntL _) hq6.2
        have eS : S.sweepTo m = S6.takeM.takeB := by unfold Sh.sweepTo; rw [hgs, hS6]
        refine kq H8 q rs' α7 δ3 Jf G3' e7 (by rw [eS]; exact L8) Z3 ?_ kJ ndJ (fun a o ha nt nf e => ?_) stq.1 (hG6.tups (st7.trans st8).tups) (by rw [eS]; exact stq.2)
        · rw [eS]
          exact (Step.sm s2).trans (st3.trans ((Step.sm s5).trans (st6.trans (st7.trans st8))))
        · have := (((Step.sm s2).trans st3).keep a o ha nt nf).1
          rw [e, hq3] at this; cases this
end
end Vs
namespace Vs
open PySem L2 PyProof.Rows
/-! ### cells -/
theorem tin_list {K : PySem.W.Frag} {a : Addr} {xs : List V} {g : TG} {tt : TT} {vs : List Nat} {body : L2.St → Hp → (Hp → Prop) → Prop} {σ : L2.St} {H4 : Hp} {Nx : Hp → Prop} (Pv : Nat → Hp → Prop) (first : Pv 0 H4) (still : ∀ i H, Pv i H → SqL K H a xs)
    (turn : ∀ i x H, xs[i]? = some x → Pv i H → g x (wipe σ vs) H fun σ3 H5 => wipe σ3 vs = wipe σ vs ∧ tt σ3 H5 fun b H6 => if b = true then body σ3 H6 (Pv (i + 1)) else Pv (i + 1) H6) (last : ∀ H, Pv xs.length H → Nx H) :
    ∃ W : Nat → Nat → Hp → Prop, (∃ m, W 0 m H4) ∧ ∀ j k H, W j k H → ((Itl K a).stop j H ∧ Nx H) ∨ ((Itl K a).go j H ∧ ∃ N1 : Hp → Prop, (∀ H', N1 H' → ∃ k', k' < k ∧ W (j + 1) k' H') ∧
      ∀ x H', (Itl K a).yld j H x H' → g x (wipe σ vs) H' fun σ3 H5 => wipe σ3 vs = wipe σ vs ∧ tt σ3 H5 fun b H6 => if b = true then body σ3 H6 N1 else N1 H6) := by
  refine ⟨fun i m H => m = xs.length - i ∧ i ≤ xs.length ∧ Pv i H, ⟨xs.length, rfl, Nat.zero_le _, first⟩, fun i m H ⟨em, hi, p⟩ => ?_⟩
  subst em
  have q := still i H p
  rcases Nat.lt_or_ge i xs.length with lt | ge
  · refine .inr ⟨⟨xs, xs[i], q, by simp [lt]⟩, Pv (i + 1), fun H' p' => ⟨xs.length - (i + 1), by omega, rfl, lt, p'⟩, fun x H' y => ?_⟩
    obtain ⟨e, y⟩ := y
    subst e
    exact turn i x _ (y xs q) p
  · obtain rfl : i = xs.length := by omega
    exact .inl ⟨⟨xs, q, Nat.le_refl _⟩, last H p⟩
abbrev Cl4 := Int × Str × Cel
def cellsL (n : Int) (k : Str) (l : List Cel) : List Cl4 := l.map fun c => (n, k, c)
def cellsK (n : Int) (b : Br) (ks : List Str) : List Cl4 := ks.flatMap fun k => cellsL n k (b.line k)
def cellsB (p : Int × Br) : List Cl4 := cellsK p.1 p.2 (sortK (p.2.lines.map (·.1)))
def cellsM (S : Sh) : List Cl4 := S.brs.flatMap cellsB
def Cl4At (H : Hp) (v : V) (x : Cl4) : Prop := ∃ t, v = .ref t ∧ H t = some (.tup [.int x.1, .str x.2.1, .int x.2.2.1, optV x.2.2.2])
def Cl4s (H : Hp) : List V → List Cl4 → Prop := Paired (Cl4At H)
theorem Cl4s.tups {H H' : Hp} (t : Tups H H') {vs : List V} {l : List Cl4} (h : Cl4s H vs l) : Cl4s H' vs l := Paired.mapP h fun _ _ ⟨a, e, q⟩ => ⟨a, e, t _ _ q⟩
/-- how far a list that is being made is -/
structure CAcc (H0 : Hp) (D : Addr) (l : List Cl4) (H : Hp) : Prop where
  sm : Sm H0 H
  ac : ∃ rs, H D = some (.lst rs) ∧ Cl4s H rs l
theorem CAcc.keep {H0 H H' : Hp} {D : Addr} {l : List Cl4} (c : CAcc H0 D l H) (s : Sm H H') : CAcc H0 D l H' := by
  obtain ⟨a, rs, h1, h2⟩ := c
  exact ⟨a.trans s, rs, s.lst h1, h2.tups s.tups⟩
theorem CAcc.push {H0 H : Hp} {D t : Addr} {l : List Cl4} {x : Cl4} (c : CAcc H0 D l H) (hD : H0 D = none) (ht : H t = none) :
    ∃ rs, upd H t (.tup [.int x.1, .str x.2.1, .int x.2.2.1, optV x.2.2.2]) D = some (.lst rs) ∧ rs.length = l.length ∧ CAcc H0 D (l ++ [x]) (upd (upd H t (.tup [.int x.1, .str x.2.1, .int x.2.2.1, optV x.2.2.2])) D (.lst (rs ++ [.ref t]))) := by
  have s : Sm H (upd H t (.tup [.int x.1, .str x.2.1, .int x.2.2.1, optV x.2.2.2])) := Sm.new ht
  have at_ : upd H t (.tup [.int x.1, .str x.2.1, .int x.2.2.1, optV x.2.2.2]) t = some (.tup [.int x.1, .str x.2.1, .int x.2.2.1, optV x.2.2.2]) := upd_same
  generalize upd H t (.tup [.int x.1, .str x.2.1, .int x.2.2.1, optV x.2.2.2]) = H1 at s at_
  obtain ⟨a, rs, h1, h2⟩ := c.keep s
  have nT : ∀ o, Tups H1 (upd H1 D o) := fun o b xs e => by rw [upd_ne (ne_of e h1 (by intro z; cases z))]; exact e
  exact ⟨rs, h1, Paired.length h2, (Sm.refl H0).own hD a h1 (ntL _) _, rs ++ [.ref t], upd_same, Paired.snoc (h2.tups (nT _)) ⟨t, rfl, nT _ _ _ at_⟩⟩
section
variable {P : Program} {w : World} {K : PySem.W.Frag} {mg : Str → Option Value} {base : Heap} {T : Cs} {U : Es} {Pt : Addr}
def rSoS : List V → Hp → VK → Prop := fun xs H Q => ∃ (a : Addr) (kvs : List (Key × V)) (ks : List Str), xs = [.ref a] ∧ Rd H a (.dK kvs) ∧ kvs.map (·.1) = ks.map Sum.inr ∧ ks.length < 64 ∧ ∀ (ys : List Str) (p : Addr), ys.Perm ks → sortedS ys = true → H p = none → Q (.ref p) (upd H p (.lst (ys.map V.str)))
def spCells (T : Cs) : Sp := fun vs H Q _ => ∃ (Ks : List Str) (p : Addr) (S : Sh) (F : Addr → Prop), vs = [.ref p] ∧ LyAt T H p S F ∧ WF Ks S ∧ (cellsM S).length ≤ 1000000 ∧
  ∀ H' q rs, Sm H H' → H q = none → H' q = some (.lst rs) → Cl4s H' rs (cellsM S) → Q (.ref q) H'
abbrev cW1 (K : PySem.W.Frag) : TI := iList K (tCB rSoS (tCons (tFld K (tDGet (tFld K (tVar 0) "branches") (tVar 1)) "lines") tNil))
abbrev cW2 (K : PySem.W.Frag) : TI := iList K (tDGet (tFld K (tDGet (tFld K (tVar 0) "branches") (tVar 1)) "lines") (tVar 2))
abbrev cG2 (K : PySem.W.Frag) : TG := gTup K 2 (gCons (gName 3) (gCons (gName 4) gNil))
abbrev cE : TE := tTup (tCons (tVar 1) (tCons (tVar 2) (tCons (tVar 3) (tCons (tVar 4) tNil))))
abbrev nCells : List Str := ["self", "number", "key", "born", "value"]
theorem sc_cells : FnScope nCells ["self"] (defScope s_Shelf_cells) := ⟨rfl, rfl, rfl, by decide +kernel, rfl, by decide +kernel, by decide +kernel⟩
theorem ok_cells {f : Addr} {fd : FuncData} (F : Fun K "cells" "Shelf.cells" s_Shelf_cells f fd) (B : Bt mg) (C : Cf K T) : FnOk P w K mg base CX0 1 f fd ["self"] (spCells T) := by
  refine F.ok sc_cells (fun vs H Q E h => ?_) (fun cdv A outer s H vs Q E hr h => ?_)
  · obtain ⟨Ks, p, S, F, rfl, _⟩ := h
    rfl
  · obtain ⟨Ks, p, S, F, rfl, ⟨α, δ, J, G, rfl, rfl, L, Z⟩, W, tot, kq⟩ := h
    have hu := hu_of hr
    refine ⟨_, pss_one (ps_ret (pe_lc3 (own := [("number", 1), ("key", 2), ("born", 3), ("value", 4)]) (vs1 := [2, 3, 4]) (vs2 := [3, 4]) (g := gName 1) (tt := tYes) (wi1 := iList K (tCB rSoS (tCons (tFld K (tDGet (tFld K (tVar 0) "branches") (tVar 1)) "lines") tNil))) (g1 := gName 2) (tt1 := tYes)
        (wi2 := iList K (tDGet (tFld K (tDGet (tFld K (tVar 0) "branches") (tVar 1)) "lines") (tVar 2))) (g2 := gTup K 2 (gCons (gName 3) (gCons (gName 4) gNil))) (tt2 := tYes) (te := tTup (tCons (tVar 1) (tCons (tVar 2) (tCons (tVar 3) (tCons (tVar 4) tNil))))) rfl sc_cells.nd
        (pi_list (pe_callB (cr_dI rfl) (by rfl) B.sorted (by decide +kernel) (pa_cons (pe_fld (pv 0) rfl) pa_nil)))
        (blkOk_by (own := [("number", 1), ("key", 2), ("born", 3), ("value", 4)]) (N := nCells) (sc := defScope s_Shelf_cells) (by decide +kernel)) (by decide) (by decide)
        (fun _ _ _ _ _ => pg_name (i := 1) sc_cells.nd rfl (.inl rfl)) (fun _ _ _ _ _ => pts_nil)
        (fun _ _ _ _ _ => by exact pi_list (pe_callB (call_sortedD rfl) (by rfl) B.sorted (by decide +kernel) (pa_cons (pe_fld (pe_dget hu (pe_fld (pv 0) rfl) (pv 1) (fun _ _ => rfl)) rfl) pa_nil)))
        (fun _ _ _ _ _ => pg_name (i := 2) sc_cells.nd rfl (.inl rfl)) (fun _ _ _ _ _ => pts_nil)
        (fun _ _ _ _ _ => by exact pi_list (pe_dget hu (pe_fld (pe_dget hu (pe_fld (pv 0) rfl) (pv 1) (fun _ _ => rfl)) rfl) (pv 2) (fun _ _ => rfl)))
        (fun _ _ _ _ _ => pg_tup rfl (pgs_cons (pg_name (i := 3) sc_cells.nd rfl (.inl rfl)) (pgs_cons (pg_name (i := 4) sc_cells.nd rfl (.inl rfl)) pgs_nil))) (fun _ _ _ _ _ => pts_nil)
        (fun _ _ _ _ _ => by exact pe_tup (pa_cons (pv 1) (pa_cons (pv 2) (pa_cons (pv 3) (pa_cons (pv 4) pa_nil))))))), ?_⟩
    refine ⟨_, rfl, _, _, _, _, _, rfl, L.sh, C.S, C.sBrs, rfl, α .brs, _, S.brs.map (·.1), rfl, .inl L.brs, enc_keys _, W.bks, fun p hp => ⟨p, rfl, ⟨_, SqL.of upd_same⟩, fun D hD => ?_⟩⟩
    have s1 : Sm H (upd H p (.lst ((S.brs.map (·.1)).map V.int))) := Sm.new hp
    have hpl : upd H p (.lst ((S.brs.map (·.1)).map V.int)) p = some (.lst ((S.brs.map (·.1)).map V.int)) := upd_same
    generalize upd H p (.lst ((S.brs.map (·.1)).map V.int)) = H1 at s1 hpl hD
    have nDp : p ≠ D := ne_of_none hpl hD
    have hD0 : H D = none := s1.free hD
    refine tin_list (K := K) (a := p) (xs := (S.brs.map (·.1)).map V.int) (body := tIn (cW1 K) (gName 2) tYes [2, 3, 4] (tIn (cW2 K) (cG2 K) tYes [3, 4] (bEnd cE D))) (fun i H2 => CAcc H D ((S.brs.take i).flatMap cellsB) H2 ∧ H2 p = some (.lst ((S.brs.map (·.1)).map V.int)))
      ⟨⟨s1.trans (Sm.new hD), [], upd_same, .nil⟩, by rw [upd_ne nDp]; exact hpl⟩ (fun i H2 ⟨_, h⟩ => SqL.of h) ?_ ?_
    · rintro i x H2 hx ⟨a2, h2p⟩
      obtain ⟨n, b, hi, rfl, hb⟩ := key_at W.bks hx
      have L2 := L.sm a2.sm
      have bound : ((S.brs.take i).flatMap cellsB).length + (cellsB (n, b)).length ≤ 1000000 := by
        have h1 := fm_snoc cellsB hi
        have h2 := fm_le cellsB S.brs (i + 1)
        rw [h1, List.length_append] at h2
        exact Nat.le_trans h2 tot
      refine ⟨rfl, ?_⟩
      dsimp only [tYes]
      rw [if_pos rfl]
      have lkl : b.lines.length ≤ 60 := by
        have := len_le_pool (W.lks n b hb).1 (W.lks n b hb).2
        rw [List.length_map] at this
        exact Nat.le_trans this W.pool
      refine ⟨_, rfl, _, _, _, _, _, rfl, L2.sh, C.S, C.sBrs, rfl, _, rfl, _, _, rfl, L2.gBr1 hb, _, _, _, _, _, rfl, L2.br hb, C.B, C.bLn, rfl, _, _, b.lines.map (·.1), rfl, L2.lnsR hb, enc_keys _, by rw [List.length_map]; omega, fun ys q perm srt hq => ?_⟩
      obtain rfl := sortedS_eq perm srt
      refine ⟨q, rfl, ⟨_, SqL.of upd_same⟩, ?_⟩
      generalize hks : sortK (b.lines.map (·.1)) = ks
      have memK : ∀ k ∈ ks, ∃ l, aget b.lines k = some l := fun k hk => by
        rw [← hks] at hk; exact aget_of_key (mem_sortK.mp hk)
      have eB : cellsB (n, b) = cellsK n b ks := by unfold cellsB; rw [hks]
      rw [eB] at bound
      have s3 : Sm H2 (upd H2 q (.lst (ks.map V.str))) := Sm.new hq
      have a3 := a2.keep s3
      have hql : upd H2 q (.lst (ks.map V.str)) q = some (.lst (ks.map V.str)) := upd_same
      have h3p := s3.lst h2p
      generalize upd H2 q (.lst (ks.map V.str)) = H3 at s3 a3 hql h3p
      have nqD : q ≠ D := by obtain ⟨rs, h, _⟩ := a2.ac; exact (ne_of_none h hq).symm
      refine tin_list (K := K) (a := q) (xs := ks.map V.str) (body := tIn (cW2 K) (cG2 K) tYes [3, 4] (bEnd cE D)) (fun j H4 => CAcc H D ((S.brs.take i).flatMap cellsB ++ cellsK n b (ks.take j)) H4 ∧ H4 p = some (.lst ((S.brs.map (·.1)).map V.int)) ∧ H4 q = some (.lst (ks.map V.str)))
        ⟨by rw [show cellsK n b (ks.take 0) = [] from rfl, List.append_nil]; exact a3, h3p, hql⟩ (fun j H4 ⟨_, _, h⟩ => SqL.of h) ?_ ?_
      · rintro j y H4 hy ⟨a4, h4p, h4q⟩
        obtain ⟨k, hk, rfl⟩ : ∃ k, ks[j]? = some k ∧ y = .str k := by
          rw [List.getElem?_map] at hy
          cases e : ks[j]? with
          | none => rw [e] at hy; cases hy
          | some k => rw [e] at hy; exact ⟨k, rfl, (Option.some.inj hy).symm⟩
        obtain ⟨l, hl⟩ := memK k (List.mem_of_getElem? hk)
        have el : b.line k = l := by unfold Br.line; rw [hl]; rfl
        have L4 := L.sm a4.sm
        obtain ⟨rs, hrs, hC⟩ := L4.ln hb hl
        have gl : DGet H4 (α (.lns n)) (.str k) (some (.ref (α (.ln n k)))) := by
          have : DGet H4 (α (.lns n)) (.str k) (valV (enc Sum.inr (fun k _ => V.ref (α (.ln n k))) b.lines) (Sum.inr k)) := .inl ⟨_, Sum.inr k, L4.lnsR hb, rfl, rfl⟩
          rw [valV_enc inr_inj, hl] at this; exact this
        have bound2 : (cellsK n b (ks.take j)).length + l.length ≤ (cellsK n b ks).length := by
          have h1 := fm_snoc (fun k => cellsL n k (b.line k)) hk
          have h2 := fm_le (fun k => cellsL n k (b.line k)) ks (j + 1)
          rw [h1, List.length_append] at h2
          have h3 : (cellsL n k (b.line k)).length = l.length := by unfold cellsL; rw [List.length_map, el]
          rw [h3] at h2
          exact h2
        refine ⟨rfl, ?_⟩
        dsimp only [tYes]
        rw [if_pos rfl]
        refine ⟨_, rfl, _, _, _, _, _, rfl, L4.sh, C.S, C.sBrs, rfl, _, rfl, _, _, rfl, L4.gBr1 hb, _, _, _, _, _, rfl, L4.br hb, C.B, C.bLn, rfl, _, rfl, _, _, rfl, gl, α (.ln n k), rfl, ⟨_, SqL.of hrs⟩, ?_⟩
        have eK : cellsK n b (ks.take (j + 1)) = cellsK n b (ks.take j) ++ cellsL n k l := by
          rw [← el]; exact fm_snoc (fun k => cellsL n k (b.line k)) hk
        refine tin_list (K := K) (a := α (.ln n k)) (xs := rs) (body := bEnd cE D) (fun r H5 => CAcc H D ((S.brs.take i).flatMap cellsB ++ cellsK n b (ks.take j) ++ cellsL n k (l.take r)) H5 ∧ H5 p = some (.lst ((S.brs.map (·.1)).map V.int)) ∧ H5 q = some (.lst (ks.map V.str)) ∧ H5 (α (.ln n k)) = some (.lst rs) ∧ Cels H5 rs l)
          ⟨by rw [show cellsL n k (l.take 0) = [] from rfl, List.append_nil]; exact a4, h4p, h4q, hrs, hC⟩ (fun r H5 ⟨_, _, _, h, _⟩ => SqL.of h) ?_ ?_
        · rintro r z H5 hz ⟨a5, h5p, h5q, h5r, hC5⟩
          obtain ⟨c, hc, t, rfl, ht⟩ := LiI.paired_get hC5 hz
          have hrl : r < l.length := (List.getElem?_eq_some_iff.mp hc).1
          refine ⟨t, _, rfl, SqT.of ht, rfl, _, _, rfl, _, _, rfl, rfl, rfl, ?_⟩
          dsimp only [tYes]
          rw [if_pos rfl]
          refine ⟨_, rfl, _, rfl, _, rfl, _, rfl, by show 4 ≤ sizeLine; decide, fun t2 ht2 => ?_⟩
          obtain ⟨acc, hacc, hlen, a6⟩ := a5.push (x := (n, k, c)) hD0 ht2
          have s6 : Sm H5 (upd H5 t2 (.tup [.int n, .str k, .int c.1, optV c.2])) := Sm.new ht2
          have h6p := s6.lst h5p
          have h6q := s6.lst h5q
          have h6r := s6.lst h5r
          have hC6 := hC5.tups s6.tups
          dsimp only at hacc a6
          generalize upd H5 t2 (.tup [.int n, .str k, .int c.1, optV c.2]) = H6 at hacc a6 h6p h6q h6r hC6
          have nT : ∀ o, Tups H6 (upd H6 D o) := fun o b xs e => by rw [upd_ne (ne_of e hacc (by intro z; cases z))]; exact e
          refine ⟨acc, hacc, le1000000 ?_, ?_, ?_, ?_, ?_, hC6.tups (nT _)⟩
          · rw [hlen, List.length_append, List.length_append]
            have : (cellsL n k (l.take r)).length ≤ l.length := by unfold cellsL; rw [List.length_map, List.length_take]; omega
            omega
          · have : cellsL n k (l.take (r + 1)) = cellsL n k (l.take r) ++ [(n, k, c)] := by unfold cellsL; rw [take_snoc hc, List.map_append]; rfl
            rw [this, ← List.append_assoc]
            exact a6
          · rw [upd_ne nDp]; exact h6p
          · rw [upd_ne nqD]; exact h6q
          · rw [upd_ne (fun e => L.nofr hD0 (r := .ln n k) ⟨b, l, hb, hl⟩ e)]; exact h6r
        · rintro H5 ⟨a5, h5p, h5q, _⟩
          rw [show rs.length = l.length from Paired.length hC, List.take_length] at a5
          refine ⟨?_, h5p, h5q⟩
          rw [eK, ← List.append_assoc]; exact a5
      · rintro H4 ⟨a4, h4p, _⟩
        rw [show (ks.map V.str).length = ks.length from List.length_map .., List.take_length] at a4
        refine ⟨?_, h4p⟩
        rw [fm_snoc cellsB hi, eB]; exact a4
    · rintro H2 ⟨a2, _⟩
      rw [show ((S.brs.map (·.1)).map V.int).length = S.brs.length by simp, List.take_length] at a2
      obtain ⟨sm, rs, h1, h2⟩ := a2
      exact kq H2 D rs sm hD0 h1 h2
end
end Vs
namespace Vs
open PySem L2 PyProof.Rows
/-! ### standing, marked -/
def dropM (S : Sh) : List Int := (S.brs.filter fun p => !p.2.alive).map (·.1)
abbrev Mk3 := Int × Str × Int
def marksB (p : Int × Br) : List Mk3 := (sortK (p.2.marks.map (·.1))).map fun k => (p.1, k, (aget p.2.marks k).getD 0)
def marksM (S : Sh) : List Mk3 := S.brs.flatMap marksB
def Mk3At (H : Hp) (v : V) (x : Mk3) : Prop := ∃ t, v = .ref t ∧ H t = some (.tup [.int x.1, .str x.2.1, .int x.2.2])
def Mk3s (H : Hp) : List V → List Mk3 → Prop := Paired (Mk3At H)
theorem Mk3s.tups {H H' : Hp} (t : Tups H H') {vs : List V} {l : List Mk3} (h : Mk3s H vs l) : Mk3s H' vs l := Paired.mapP h fun _ _ ⟨a, e, q⟩ => ⟨a, e, t _ _ q⟩
section
variable {P : Program} {w : World} {K : PySem.W.Frag} {mg : Str → Option Value} {base : Heap} {T : Cs} {U : Es} {Pt : Addr}
def spStand (T : Cs) : Sp := fun vs H Q _ => ∃ (Ks : List Str) (p : Addr) (S : Sh) (F : Addr → Prop), vs = [.ref p] ∧ LyAt T H p S F ∧ WF Ks S ∧
  ∀ H' t a b c, Sm H H' → H' t = some (.tup [.ref a, .ref b, .ref c]) → H' a = some (.lst ((S.brs.map (·.1)).map V.int)) → H' b = some (.lst ((dropM S).map V.int)) → H' c = some (.lst ((S.hns.map (·.1)).map V.int)) → H a = none → H b = none → H c = none → Q (.ref t) H'
abbrev nStand : List Str := ["self", "numbers", "dropped", "number"]
theorem sc_stand : FnScope nStand ["self"] (defScope s_Shelf_standing) := ⟨rfl, rfl, rfl, by decide +kernel, rfl, by decide +kernel, by decide +kernel⟩
theorem ok_standing {f : Addr} {fd : FuncData} (F : Fun K "standing" "Shelf.standing" s_Shelf_standing f fd) (B : Bt mg) (C : Cf K T) : FnOk P w K mg base CX0 1 f fd ["self"] (spStand T) := by
  refine F.ok sc_stand (fun vs H Q E h => ?_) (fun cdv A outer s H vs Q E hr h => ?_)
  · obtain ⟨Ks, p, S, F, rfl, _⟩ := h
    rfl
  · obtain ⟨Ks, p, S, F, rfl, ⟨α, δ, J, G, rfl, rfl, L, Z⟩, W, kq⟩ := h
    have hu := hu_of hr
    refine ⟨_, pss_cons (ps_set (i := 1) sc_stand.nd rfl (.inl rfl) (pe_callB (cr_dI rfl) (by rfl) B.sorted (by decide +kernel) (pa_cons (pe_fld (pv 0) rfl) pa_nil)))
      (pss_cons (ps_setLc (i := 2) (own := [("number", 3)]) (g := gName 3) (tt := tNot (tB (tFld K (tDGet (tFld K (tVar 0) "branches") (tVar 3)) "alive"))) (te := tVar 3) rfl sc_stand.nd rfl rfl (sw_true rfl rfl rfl (by decide +kernel)) (pi_list (pv 1))
        (blkOk_by (own := [("number", 3)]) (N := nStand) (sc := defScope s_Shelf_standing) (by decide +kernel)) (fun _ _ _ _ _ => pg_name (i := 3) sc_stand.nd rfl (.inl rfl)) (fun _ _ _ _ _ => by exact pts_one (pt_not (pt_val (pe_fld (pe_dget hu (pe_fld (pv 0) rfl) (pv 3) (fun _ _ => rfl)) rfl))))
        (fun _ _ _ _ _ => by exact (pv 3)))
      (pss_one (ps_ret (pe_tup (pa_cons (pv 1) (pa_cons (pv 2) (pa_cons (pe_callB (cr_dI rfl) (by rfl) B.sorted (by decide +kernel) (pa_cons (pe_fld (pv 0) rfl) pa_nil)) pa_nil))))))), ?_⟩
    refine ⟨_, rfl, _, _, _, _, _, rfl, L.sh, C.S, C.sBrs, rfl, α .brs, _, S.brs.map (·.1), rfl, .inl L.brs, enc_keys _, W.bks, fun a ha => ?_⟩
    have s1 : Sm H (upd H a (.lst ((S.brs.map (·.1)).map V.int))) := Sm.new ha
    have hal : upd H a (.lst ((S.brs.map (·.1)).map V.int)) a = some (.lst ((S.brs.map (·.1)).map V.int)) := upd_same
    generalize upd H a (.lst ((S.brs.map (·.1)).map V.int)) = H1 at s1 hal
    refine ⟨_, rfl, a, rfl, ⟨_, SqL.of hal⟩, fun D hD => ?_⟩
    have naD : a ≠ D := ne_of_none hal hD
    have hD0 : H D = none := s1.free hD
    refine lc_list (K := K) (a := a) (xs := (S.brs.map (·.1)).map V.int) (fun i H2 => Sm H H2 ∧ H2 a = some (.lst ((S.brs.map (·.1)).map V.int)) ∧ H2 D = some (.lst ((((S.brs.take i).filter fun p => !p.2.alive).map (·.1)).map V.int)))
      ⟨s1.trans (Sm.new hD), by rw [upd_ne naD]; exact hal, upd_same⟩ (fun i H2 _ ⟨_, h, _⟩ => SqL.of h) ?_ ?_
    · rintro i x H2 hx ⟨s2, h2a, h2D⟩
      obtain ⟨n, b, hi, rfl, hb⟩ := key_at W.bks hx
      have L2 := L.sm s2
      have len : ((((S.brs.take i).filter fun p => !p.2.alive).map (·.1)).map V.int).length < sizeLine := by
        refine le1000000 ?_
        rw [List.length_map, List.length_map]
        have h1 := List.length_filter_le (fun p : Int × Br => !p.2.alive) (S.brs.take i)
        rw [List.length_take] at h1
        have h2 := W.cap.b
        omega
      refine ⟨rfl, _, rfl, _, _, _, _, _, rfl, L2.sh, C.S, C.sBrs, rfl, _, rfl, _, _, rfl, L2.gBr1 hb, _, _, _, _, _, rfl, L2.br hb, C.B, C.bAl, rfl, _, rfl, ?_⟩
      cases hal : b.alive with
      | true =>
        refine iteF ⟨s2, h2a, ?_⟩
        rw [take_snoc hi, List.filter_append, List.filter_cons, if_neg (by rw [hal]; decide), List.filter_nil, List.append_nil]
        exact h2D
      | false =>
        refine iteT ⟨_, rfl, _, h2D, len, (Sm.refl H).own hD0 s2 h2D (ntL _) _, by rw [upd_ne naD]; exact h2a, ?_⟩
        rw [take_snoc hi, List.filter_append, List.filter_cons, if_pos (by rw [hal]; rfl), List.filter_nil, List.map_append, List.map_append]
        exact upd_same
    · rintro H2 ⟨s2, h2a, h2D⟩
      rw [show ((S.brs.map (·.1)).map V.int).length = S.brs.length by simp, List.take_length] at h2D
      have L2 := L.sm s2
      refine ⟨_, rfl, _, rfl, _, rfl, _, _, _, _, _, rfl, L2.sh, C.S, C.sHns, rfl, α .hns, _, S.hns.map (·.1), rfl, .inl L2.hns, enc_keys _, W.hks, fun c hc => ?_⟩
      have s3 : Sm H2 (upd H2 c (.lst ((S.hns.map (·.1)).map V.int))) := Sm.new hc
      have hcl : upd H2 c (.lst ((S.hns.map (·.1)).map V.int)) c = some (.lst ((S.hns.map (·.1)).map V.int)) := upd_same
      generalize upd H2 c (.lst ((S.hns.map (·.1)).map V.int)) = H3 at s3 hcl
      refine ⟨by show 3 ≤ sizeLine; decide, fun t ht => ?_⟩
      have s4 : Sm H3 (upd H3 t (.tup [.ref a, .ref D, .ref c])) := Sm.new ht
      exact kq _ t a D c ((s2.trans s3).trans s4) upd_same ((s3.trans s4).lst h2a) ((s3.trans s4).lst h2D) (s4.lst hcl) ha hD0 (s2.free hc)
def spMarked (T : Cs) : Sp := fun vs H Q _ => ∃ (Ks : List Str) (p : Addr) (S : Sh) (F : Addr → Prop), vs = [.ref p] ∧ LyAt T H p S F ∧ WF Ks S ∧
  ∀ H' q rs, Sm H H' → H q = none → H' q = some (.lst rs) → Mk3s H' rs (marksM S) → Q (.ref q) H'
abbrev nMarked : List Str := ["self", "number", "key"]
theorem sc_marked : FnScope nMarked ["self"] (defScope s_Shelf_marked) := ⟨rfl, rfl, rfl, by decide +kernel, rfl, by decide +kernel, by decide +kernel⟩
structure MAcc (H0 : Hp) (D : Addr) (l : List Mk3) (H : Hp) : Prop where
  sm : Sm H0 H
  ac : ∃ rs, H D = some (.lst rs) ∧ Mk3s H rs l
theorem MAcc.keep {H0 H H' : Hp} {D : Addr} {l : List Mk3} (c : MAcc H0 D l H) (s : Sm H H') : MAcc H0 D l H' := by
  obtain ⟨a, rs, h1, h2⟩ := c
  exact ⟨a.trans s, rs, s.lst h1, h2.tups s.tups⟩
theorem MAcc.push {H0 H : Hp} {D t : Addr} {l : List Mk3} {x : Mk3} (c : MAcc H0 D l H) (hD : H0 D = none) (ht : H t = none) :
    ∃ rs, upd H t (.tup [.int x.1, .str x.2.1, .int x.2.2]) D = some (.lst rs) ∧ rs.length = l.length ∧ MAcc H0 D (l ++ [x]) (upd (upd H t (.tup [.int x.1, .str x.2.1, .int x.2.2])) D (.lst (rs ++ [.ref t]))) := by
  have s : Sm H (upd H t (.tup [.int x.1, .str x.2.1, .int x.2.2])) := Sm.new ht
  have at_ : upd H t (.tup [.int x.1, .str x.2.1, .int x.2.2]) t = some (.tup [.int x.1, .str x.2.1, .int x.2.2]) := upd_same
  generalize upd H t (.tup [.int x.1, .str x.2.1, .int x.2.2]) = H1 at s at_
  obtain ⟨a, rs, h1, h2⟩ := c.keep s
  have nT : ∀ o, Tups H1 (upd H1 D o) := fun o b xs e => by rw [upd_ne (ne_of e h1 (by intro z; cases z))]; exact e
  exact ⟨rs, h1, Paired.length h2, (Sm.refl H0).own hD a h1 (ntL _) _, rs ++ [.ref t], upd_same, Paired.snoc (h2.tups (nT _)) ⟨t, rfl, nT _ _ _ at_⟩⟩
theorem ok_marked {f : Addr} {fd : FuncData} (F : Fun K "marked" "Shelf.marked" s_Shelf_marked f fd) (B : Bt mg) (C : Cf K T) : FnOk P w K mg base CX0 1 f fd ["self"] (spMarked T) := by
  refine F.ok sc_marked (fun vs H Q E h => ?_) (fun cdv A outer s H vs Q E hr h => ?_)
  · obtain ⟨Ks, p, S, F, rfl, _⟩ := h
    rfl
  · obtain ⟨Ks, p, S, F, rfl, ⟨α, δ, J, G, rfl, rfl, L, Z⟩, W, kq⟩ := h
    have hu := hu_of hr
    refine ⟨_, pss_one (ps_ret (pe_lc2 (own := [("number", 1), ("key", 2)]) (vs1 := [2]) (g := gName 1) (tt := tYes) (wi1 := iList K (tCB rSoS (tCons (tFld K (tDGet (tFld K (tVar 0) "branches") (tVar 1)) "marks") tNil))) (g1 := gName 2) (tt1 := tYes)
        (te := tTup (tCons (tVar 1) (tCons (tVar 2) (tCons (tDGet (tFld K (tDGet (tFld K (tVar 0) "branches") (tVar 1)) "marks") (tVar 2)) tNil)))) rfl sc_marked.nd
        (pi_list (pe_callB (cr_dI rfl) (by rfl) B.sorted (by decide +kernel) (pa_cons (pe_fld (pv 0) rfl) pa_nil)))
        (blkOk_by (own := [("number", 1), ("key", 2)]) (N := nMarked) (sc := defScope s_Shelf_marked) (by decide +kernel)) (by decide)
        (fun _ _ _ _ _ => pg_name (i := 1) sc_marked.nd rfl (.inl rfl)) (fun _ _ _ _ _ => pts_nil)
        (fun _ _ _ _ _ => by exact pi_list (pe_callB (call_sortedD rfl) (by rfl) B.sorted (by decide +kernel) (pa_cons (pe_fld (pe_dget hu (pe_fld (pv 0) rfl) (pv 1) (fun _ _ => rfl)) rfl) pa_nil)))
        (fun _ _ _ _ _ => pg_name (i := 2) sc_marked.nd rfl (.inl rfl)) (fun _ _ _ _ _ => pts_nil)
        (fun _ _ _ _ _ => by exact pe_tup (pa_cons (pv 1) (pa_cons (pv 2) (pa_cons (pe_dget hu (pe_fld (pe_dget hu (pe_fld (pv 0) rfl) (pv 1) (fun _ _ => rfl)) rfl) (pv 2) (fun _ _ => rfl)) pa_nil)))))), ?_⟩
    refine ⟨_, rfl, _, _, _, _, _, rfl, L.sh, C.S, C.sBrs, rfl, α .brs, _, S.brs.map (·.1), rfl, .inl L.brs, enc_keys _, W.bks, fun p hp => ⟨p, rfl, ⟨_, SqL.of upd_same⟩, fun D hD => ?_⟩⟩
    have s1 : Sm H (upd H p (.lst ((S.brs.map (·.1)).map V.int))) := Sm.new hp
    have hpl : upd H p (.lst ((S.brs.map (·.1)).map V.int)) p = some (.lst ((S.brs.map (·.1)).map V.int)) := upd_same
    generalize upd H p (.lst ((S.brs.map (·.1)).map V.int)) = H1 at s1 hpl hD
    have nDp : p ≠ D := ne_of_none hpl hD
    have hD0 : H D = none := s1.free hD
    have lenB : ∀ (n : Int) (b : Br), aget S.brs n = some b → (marksB (n, b)).length ≤ 60 := fun n b hb => by
      unfold marksB
      rw [List.length_map, sortK_length]
      exact Nat.le_trans (len_le_pool (W.mks n b hb).1 (W.mks n b hb).2) W.pool
    refine tin_list (K := K) (a := p) (xs := (S.brs.map (·.1)).map V.int) (body := tIn (iList K (tCB rSoS (tCons (tFld K (tDGet (tFld K (tVar 0) "branches") (tVar 1)) "marks") tNil))) (gName 2) tYes [2] (bEnd (tTup (tCons (tVar 1) (tCons (tVar 2) (tCons (tDGet (tFld K (tDGet (tFld K (tVar 0) "branches") (tVar 1)) "marks") (tVar 2)) tNil)))) D))
      (fun i H2 => MAcc H D ((S.brs.take i).flatMap marksB) H2 ∧ H2 p = some (.lst ((S.brs.map (·.1)).map V.int)) ∧ ((S.brs.take i).flatMap marksB).length ≤ i * 60)
      ⟨⟨s1.trans (Sm.new hD), [], upd_same, .nil⟩, by rw [upd_ne nDp]; exact hpl, Nat.le_refl _⟩ (fun i H2 ⟨_, h, _⟩ => SqL.of h) ?_ ?_
    · rintro i x H2 hx ⟨a2, h2p, len2⟩
      obtain ⟨n, b, hi, rfl, hb⟩ := key_at W.bks hx
      have L2 := L.sm a2.sm
      have hil : i < S.brs.length := (List.getElem?_eq_some_iff.mp hi).1
      have hcb := W.cap.b
      have lb := lenB n b hb
      refine ⟨rfl, ?_⟩
      dsimp only [tYes]
      rw [if_pos rfl]
      have lkl : b.marks.length ≤ 60 := by
        have := len_le_pool (W.mks n b hb).1 (W.mks n b hb).2
        rw [List.length_map] at this
        exact Nat.le_trans this W.pool
      refine ⟨_, rfl, _, _, _, _, _, rfl, L2.sh, C.S, C.sBrs, rfl, _, rfl, _, _, rfl, L2.gBr1 hb, _, _, _, _, _, rfl, L2.br hb, C.B, C.bMk, rfl, _, _, b.marks.map (·.1), rfl, .inl (L2.mks hb), enc_keys _, by rw [List.length_map]; omega, fun ys q perm srt hq => ?_⟩
      obtain rfl := sortedS_eq perm srt
      refine ⟨q, rfl, ⟨_, SqL.of upd_same⟩, ?_⟩
      have hmB : marksB (n, b) = (sortK (b.marks.map (·.1))).map fun k => (n, k, (aget b.marks k).getD 0) := rfl
      rw [hmB] at lb
      have memK : ∀ k ∈ sortK (b.marks.map (·.1)), ∃ m, aget b.marks k = some m := fun k hk => aget_of_key (mem_sortK.mp hk)
      generalize sortK (b.marks.map (·.1)) = ks at *
      rw [List.length_map] at lb
      have s3 : Sm H2 (upd H2 q (.lst (ks.map V.str))) := Sm.new hq
      have a3 := a2.keep s3
      have hql : upd H2 q (.lst (ks.map V.str)) q = some (.lst (ks.map V.str)) := upd_same
      have h3p := s3.lst h2p
      have nqD : q ≠ D := by obtain ⟨rs, h, _⟩ := a2.ac; exact (ne_of_none h hq).symm
      generalize upd H2 q (.lst (ks.map V.str)) = H3 at s3 a3 hql h3p
      refine tin_list (K := K) (a := q) (xs := ks.map V.str) (body := bEnd (tTup (tCons (tVar 1) (tCons (tVar 2) (tCons (tDGet (tFld K (tDGet (tFld K (tVar 0) "branches") (tVar 1)) "marks") (tVar 2)) tNil)))) D) (fun j H4 => MAcc H D ((S.brs.take i).flatMap marksB ++ (ks.take j).map fun k => (n, k, (aget b.marks k).getD 0)) H4 ∧ H4 p = some (.lst ((S.brs.map (·.1)).map V.int)) ∧ H4 q = some (.lst (ks.map V.str)))
        ⟨by rw [List.take_zero, List.map_nil, List.append_nil]; exact a3, h3p, hql⟩ (fun j H4 ⟨_, _, h⟩ => SqL.of h) ?_ ?_
      · rintro j y H4 hy ⟨a4, h4p, h4q⟩
        obtain ⟨k, hk, rfl⟩ : ∃ k, ks[j]? = some k ∧ y = .str k := by
          rw [List.getElem?_map] at hy
          cases e : ks[j]? with
          | none => rw [e] at hy; cases hy
          | some k => rw [e] at hy; exact ⟨k, rfl, (Option.some.inj hy).symm⟩
        obtain ⟨m, hm⟩ := memK k (List.mem_of_getElem? hk)
        have hjl : j < ks.length := (List.getElem?_eq_some_iff.mp hk).1
        have L4 := L.sm a4.sm
        have gm := L4.gMk hb k
        rw [hm] at gm
        refine ⟨rfl, ?_⟩
        dsimp only [tYes]
        rw [if_pos rfl]
        refine ⟨_, rfl, _, rfl, _, rfl, _, _, _, _, _, rfl, L4.sh, C.S, C.sBrs, rfl, _, rfl, _, _, rfl, L4.gBr1 hb, _, _, _, _, _, rfl, L4.br hb, C.B, C.bMk, rfl, _, rfl, _, _, rfl, gm, by show 3 ≤ sizeLine; decide, fun t ht => ?_⟩
        obtain ⟨acc, hacc, hlen, a6⟩ := a4.push (x := (n, k, m)) hD0 ht
        have s6 : Sm H4 (upd H4 t (.tup [.int n, .str k, .int m])) := Sm.new ht
        have h6p := s6.lst h4p
        have h6q := s6.lst h4q
        refine ⟨acc, hacc, le1000000 ?_, ?_, ?_, ?_⟩
        · rw [hlen, List.length_append, List.length_map, List.length_take]; omega
        · rw [take_snoc hk, List.map_append, ← List.append_assoc]
          have e : (aget b.marks k).getD 0 = m := by rw [hm]; rfl
          rw [List.map_cons, List.map_nil, e]
          exact a6
        · rw [upd_ne nDp]; exact h6p
        · rw [upd_ne nqD]; exact h6q
      · rintro H4 ⟨a4, h4p, _⟩
        rw [show (ks.map V.str).length = ks.length from List.length_map .., List.take_length, ← hmB] at a4
        have e := fm_snoc marksB hi
        refine ⟨?_, h4p, ?_⟩
        · rw [e]; exact a4
        · rw [e, List.length_append, hmB, List.length_map]; omega
    · rintro H2 ⟨a2, _, _⟩
      rw [show ((S.brs.map (·.1)).map V.int).length = S.brs.length by simp, List.take_length] at a2
      obtain ⟨sm, rs, h1, h2⟩ := a2
      exact kq H2 D rs sm hD0 h1 h2
end
end Vs
namespace Vs
open PySem L2 PyProof.Rows
/-! ## The law's own defs -/
structure Bt2 (mg : Str → Option Value) : Prop where
  tuple : mg "tuple" = none
  str : mg "str" = none
  bool : mg "bool" = none
/-- the row of numbers that a law draws from -/
def RowAt (H : Hp) (a sc : Addr) : Prop := ∃ (i seed big : Int), H a = some (.lst [.ref sc, .int i, .int seed, .int big]) ∧ 0 ≤ i ∧ 0 ≤ seed ∧ seed < 2147483647 ∧ 0 ≤ big
/-- the script: beside the row, or of the program's own -/
def ScR (K : PySem.W.Frag) (H : Hp) (a sc : Addr) (xs : List V) : Prop := (a ≠ sc ∧ (H sc = some (.lst xs) ∨ ∃ o, H sc = some (.frz o (.lst xs)))) ∨ ∀ H', SqL K H' sc xs
theorem ScR.sq {K : PySem.W.Frag} {H : Hp} {a sc : Addr} {xs : List V} (h : ScR K H a sc xs) : SqL K H sc xs := by
  rcases h with ⟨_, h⟩ | h
  · exact .inl h
  · exact h H
theorem ScR.put {K : PySem.W.Frag} {H : Hp} {a sc : Addr} {xs : List V} (h : ScR K H a sc xs) (o : HO) : ScR K (upd H a o) a sc xs := by
  rcases h with ⟨n, h⟩ | h
  · rcases h with h | ⟨x, h⟩
    · exact .inl ⟨n, .inl (by rw [upd_ne (Ne.symm n)]; exact h)⟩
    · exact .inl ⟨n, .inr ⟨x, by rw [upd_ne (Ne.symm n)]; exact h⟩⟩
  · exact .inr h
theorem sql_upd {K : PySem.W.Frag} {H : Hp} {a sc : Addr} {xs : List V} {o : HO} (n : a ≠ sc) (h : SqL K H sc xs) : SqL K (upd H a o) sc xs := by
  rcases h with (h | ⟨x, h⟩) | h
  · exact .inl (.inl (by rw [upd_ne (Ne.symm n)]; exact h))
  · exact .inl (.inr ⟨x, by rw [upd_ne (Ne.symm n)]; exact h⟩)
  · exact .inr h
section
variable {P : Program} {w : World} {K : PySem.W.Frag} {mg : Str → Option Value} {base : Heap} {T : Cs} {U : Es} {Pt : Addr}
def spTaken (K : PySem.W.Frag) : Sp := fun vs H Q _ => ∃ (a : Addr) (many : Int) (sc : Addr) (ns : List Int), vs = [.ref a, .int many] ∧ RowAt H a sc ∧ ScR K H a sc (ns.map V.int) ∧ 0 < many ∧ many ≤ 1000000 ∧ ∀ r xs, 0 ≤ r → r < many → RowAt (upd H a (.lst xs)) a sc → Q (.int r) (upd H a (.lst xs))
abbrev nTaken : List Str := ["_law_row", "_law_many", "_law_found", "_law_cell"]
theorem sc_taken : FnScope nTaken ["_law_row", "_law_many"] (defScope s__law_taken) := ⟨rfl, rfl, rfl, by decide +kernel, rfl, by decide +kernel, by decide +kernel⟩
theorem ok_taken {f : Addr} {fd : FuncData} (F : Fun K "_law_taken" "_law_taken" s__law_taken f fd) (B : Bt mg) : FnOk P w K mg base CX0 1 f fd ["_law_row", "_law_many"] (spTaken K) := by
  refine F.ok sc_taken (fun vs H Q E h => ?_) (fun cdv A outer s H vs Q E hr h => ?_)
  · obtain ⟨a, many, sc, ns, rfl, _⟩ := h
    rfl
  · obtain ⟨a, many, sc, ns, rfl, ⟨i, seed, big, ha, h0i, h0s, hss, h0b⟩, hS0, hm0, hm1, kq⟩ := h
    refine ⟨_, pss_cons (ps_if (pt_cmpR op_gt (pe_ix ix_list (pv 0) pe_int (fun _ _ => rfl)) pe_int (nomark _))
        (pss_cons (ps_set (i := 2) sc_taken.nd rfl (.inl rfl) (pe_op op_mod (pe_ix ix_list (pv 0) pe_int (fun _ _ => rfl)) (pv 1)))
        (pss_cons (ps_asg (pe_op op_fdivW (pe_ix ix_list (pv 0) pe_int (fun _ _ => rfl)) (pv 1)) (pg_sub (pv 0) pe_int set_list))
        (pss_one (ps_ret (pv 2))))) pss_nil)
      (pss_cons (ps_asg (pe_op op_add (pe_ix ix_list (pv 0) pe_int (fun _ _ => rfl)) pe_int) (pg_sub (pv 0) pe_int set_list))
      (pss_cons (ps_if (pt_cmpR op_gt (pe_ix ix_list (pv 0) pe_int (fun _ _ => rfl)) (pe_callB call_len_seq (by rfl) B.len PySem.boot_len (pa_cons (pe_ix ix_list (pv 0) pe_int (fun _ _ => rfl)) pa_nil)) (nomark _))
        (pss_cons (ps_asg (pe_op op_mod (pe_op op_add (pe_op op_mul (pe_ix ix_list (pv 0) pe_int (fun _ _ => rfl)) pe_int) pe_int) pe_int) (pg_sub (pv 0) pe_int set_list))
        (pss_one (ps_ret (pe_op op_mod (pe_op op_fdiv (pe_ix ix_list (pv 0) pe_int (fun _ _ => rfl)) pe_int) (pv 1))))) pss_nil)
      (pss_cons (ps_set (i := 3) sc_taken.nd rfl (.inl rfl) (pe_ix ix_list (pe_ix ix_list (pv 0) pe_int (fun _ _ => rfl)) (pe_op op_sub (pe_ix ix_list (pv 0) pe_int (fun _ _ => rfl)) pe_int) (fun _ _ => rfl)))
      (pss_cons (ps_asg (pe_op op_mod (pe_op op_add (pe_op op_add (pe_op op_mul (pe_ix ix_list (pv 0) pe_int (fun _ _ => rfl)) pe_int) (pv 3)) pe_int) pe_int) (pg_sub (pv 0) pe_int set_list))
      (pss_cons (ps_if (pt_cmpR op_ge (pv 3) (pe_op op_pow pe_int pe_int) (nomark _))
        (pss_one (ps_asg (pe_op op_fdivW (pv 3) (pv 1)) (pg_sub (pv 0) pe_int set_list))) pss_nil)
      (pss_one (ps_ret (pe_op op_mod (pv 3) (pv 1))))))))), ?_⟩
    have mod0 : ∀ x : Int, 0 ≤ x % many := fun x => Int.emod_nonneg x (by omega)
    have mod1 : ∀ x : Int, x % many < many := fun x => Int.emod_lt_of_pos x hm0
    have sd0 : ∀ x : Int, 0 ≤ x % 2147483647 := fun x => Int.emod_nonneg x (by decide)
    have sd1 : ∀ x : Int, x % 2147483647 < 2147483647 := fun x => Int.emod_lt_of_pos x (by decide)
    have wd : ∀ x : Int, CDivW x many := fun x => wide_div (b := 63) hm0 (by omega) (by decide) (by decide)
    refine ⟨_, rfl, a, _, _, _, rfl, rfl, SqL.of ha, rfl, _, _, rfl, rfl, _, rfl, ?_⟩
    refine ite2 (fun c => ?_) (fun c => ?_)
    · have c' : 0 < big := by simpa using c
      refine ⟨_, rfl, a, _, _, _, rfl, rfl, SqL.of ha, rfl, _, rfl, _, _, rfl, rfl, hm0, ?_⟩
      refine ⟨_, rfl, a, _, _, _, rfl, rfl, SqL.of ha, rfl, _, rfl, _, _, rfl, rfl, wd big, _, rfl, a, _, _, 3, rfl, rfl, ha, rfl, ?_⟩
      refine ⟨_, rfl, kq _ _ (mod0 _) (mod1 _) ⟨i, seed, big / many, upd_same, h0i, h0s, hss, Int.ediv_nonneg h0b (by omega)⟩⟩
    · refine ⟨_, rfl, a, _, _, _, rfl, rfl, SqL.of ha, rfl, _, _, rfl, rfl, _, rfl, a, _, _, 1, rfl, rfl, ha, rfl, ?_⟩
      have h1 : upd H a (.lst ([V.ref sc, .int i, .int seed, .int big].set 1 (.int (i + 1)))) a = some (.lst [.ref sc, .int (i + 1), .int seed, .int big]) := upd_same
      have hS1 : SqL K (upd H a (.lst ([V.ref sc, .int i, .int seed, .int big].set 1 (.int (i + 1))))) sc (ns.map V.int) := (hS0.put _).sq
      have eU : ∀ o, upd (upd H a (.lst ([V.ref sc, .int i, .int seed, .int big].set 1 (.int (i + 1))))) a o = upd H a o := fun o => upd_upd
      generalize upd H a (.lst ([V.ref sc, .int i, .int seed, .int big].set 1 (.int (i + 1)))) = H1 at h1 hS1 eU
      refine ⟨_, rfl, a, _, _, _, rfl, rfl, SqL.of h1, rfl, _, rfl, a, _, _, _, rfl, rfl, SqL.of h1, rfl, sc, _, rfl, .inl hS1, _, _, rfl, rfl, _, rfl, ?_⟩
      rw [List.length_map]
      refine ite2 (fun c => ?_) (fun c => ?_)
      · refine ⟨_, rfl, a, _, _, _, rfl, rfl, SqL.of h1, rfl, _, _, rfl, rfl, .inl ⟨by omega, by omega⟩, _, _, rfl, rfl, _, _, rfl, rfl, by show (0 : Int) < 2147483647; decide, _, rfl, a, _, _, 2, rfl, rfl, h1, rfl, ?_⟩
        rw [eU]
        refine ⟨_, rfl, a, _, _, _, rfl, rfl, SqL.of upd_same, rfl, _, _, rfl, rfl, ⟨by decide, by decide⟩, _, rfl, _, _, rfl, rfl, hm0, ?_⟩
        exact kq _ _ (mod0 _) (mod1 _) ⟨i + 1, _, big, upd_same, by omega, sd0 _, sd1 _, h0b⟩
      · have c' : i + 1 ≤ ns.length := by simpa using c
        have hil : i.toNat < ns.length := by omega
        have at_ : atI (ns.map V.int) (i + 1 - 1) = some (.int ns[i.toNat]) := by
          rw [show i + 1 - 1 = ((i.toNat : Nat) : Int) by omega]
          exact atI_nat (by rw [List.getElem?_map, List.getElem?_eq_getElem hil]; rfl)
        generalize ns[i.toNat] = cell at at_
        refine ⟨_, rfl, a, _, _, _, rfl, rfl, SqL.of h1, rfl, _, rfl, a, _, _, _, rfl, rfl, SqL.of h1, rfl, _, _, rfl, rfl, sc, _, _, _, rfl, rfl, hS1, at_, ?_⟩
        refine ⟨_, rfl, a, _, _, _, rfl, rfl, SqL.of h1, rfl, _, _, rfl, rfl, .inl ⟨by omega, by omega⟩, _, rfl, _, _, rfl, rfl, _, _, rfl, rfl, _, _, rfl, rfl, by show (0 : Int) < 2147483647; decide, _, rfl, a, _, _, 2, rfl, rfl, h1, rfl, ?_⟩
        rw [eU]
        refine ⟨_, rfl, _, _, rfl, rfl, ⟨by decide, by decide, by decide⟩, _, _, rfl, rfl, _, rfl, ?_⟩
        refine ite2 (fun c2 => ?_) (fun c2 => ?_)
        · have c3 : (0 : Int) ≤ cell := by
            have : (10 : Int) ^ (18 : Int).toNat ≤ cell := by simpa using c2
            have e : (10 : Int) ^ (18 : Int).toNat = 1000000000000000000 := by decide
            omega
          refine ⟨_, rfl, _, rfl, _, _, rfl, rfl, wd cell, _, rfl, a, _, _, 3, rfl, rfl, upd_same, rfl, ?_⟩
          rw [upd_upd]
          refine ⟨_, rfl, _, rfl, _, _, rfl, rfl, hm0, ?_⟩
          exact kq _ _ (mod0 _) (mod1 _) ⟨i + 1, _, cell / many, upd_same, by omega, sd0 _, sd1 _, Int.ediv_nonneg c3 (by omega)⟩
        · refine ⟨_, rfl, _, rfl, _, _, rfl, rfl, hm0, ?_⟩
          exact kq _ _ (mod0 _) (mod1 _) ⟨i + 1, _, big, upd_same, by omega, sd0 _, sd1 _, h0b⟩
end
end Vs
namespace Vs
open PySem L2 PyProof.Rows
/-! ### _law_whole, _law_same -/
def Eq0 (x y : V) : Prop := (x = .non ∧ y = .non) ∨ (∃ i, x = .int i ∧ y = .int i) ∨ ∃ s, x = .str s ∧ y = .str s
/-- the same data, at most n deep -/
def Eqd (H : Hp) : Nat → V → V → Prop
  | 0, x, y => Eq0 x y
  | n + 1, x, y => Eq0 x y ∨ ∃ a b xs ys, x = .ref a ∧ y = .ref b ∧ ((H a = some (.lst xs) ∧ H b = some (.lst ys)) ∨ (H a = some (.tup xs) ∧ H b = some (.tup ys))) ∧ Paired (Eqd H n) xs ys ∧ xs.length ≤ 1000000
theorem Eqd.sm {H H' : Hp} (s : Sm H H') : ∀ {n : Nat} {x y : V}, Eqd H n x y → Eqd H' n x y
  | 0, _, _, h => h
  | n + 1, _, _, .inl h => .inl h
  | n + 1, _, _, .inr ⟨a, b, xs, ys, e1, e2, h, p, l⟩ => by
    refine .inr ⟨a, b, xs, ys, e1, e2, ?_, Paired.mapP p fun _ _ z => Eqd.sm s z, l⟩
    rcases h with ⟨h1, h2⟩ | ⟨h1, h2⟩
    · exact .inl ⟨s.lst h1, s.lst h2⟩
    · exact .inr ⟨s.tups _ _ h1, s.tups _ _ h2⟩
theorem any2 {K : PySem.W.Frag} {t : String} {b c : Bool} (h1 : kitB t "list" = some b) (h2 : kitB t "tuple" = some c) : PySem.W.kitAny K (.type t) [.type "list", .type "tuple"] = some (b || c) := by
  refine kitAny_cons (kit_ty h1) (fun e => kitAny_cons (kit_ty h2) (fun e2 => by rw [e, e2]; rfl) fun e2 => by rw [e2]; simp) fun e => by rw [e]; rfl
section
variable {P : Program} {w : World} {K : PySem.W.Frag} {mg : Str → Option Value} {base : Heap} {T : Cs} {U : Es} {Pt : Addr}
def spWhole : Sp := fun vs H Q _ => ∃ i : Int, vs = [.int i] ∧ Q (.bl true) H
theorem sc_whole : FnScope ["_law_found"] ["_law_found"] (defScope s__law_whole) := ⟨rfl, rfl, rfl, by decide +kernel, rfl, by decide +kernel, by decide +kernel⟩
theorem ok_whole {f : Addr} {fd : FuncData} (F : Fun K "_law_whole" "_law_whole" s__law_whole f fd) (B : Bt mg) (B2 : Bt2 mg) : FnOk P w K mg base CX0 1 f fd ["_law_found"] spWhole := by
  refine F.ok sc_whole (fun vs H Q E h => ?_) (fun cdv A outer s H vs Q E hr h => ?_)
  · obtain ⟨i, rfl, _⟩ := h
    rfl
  · obtain ⟨i, rfl, kq⟩ := h
    refine ⟨_, pss_one (ps_ret (pe_and (pe_callB call_isi (by rfl) B.isinstance (by decide +kernel) (pa_cons (pv 0) (pa_cons (pe_bltn (v := .ty "int") (by rfl) B.int (by decide +kernel) rfl) pa_nil)))
      (pe_one (pe_not (pe_callB call_isi (by rfl) B.isinstance (by decide +kernel) (pa_cons (pv 0) (pa_cons (pe_bltn (v := .ty "bool") (by rfl) B2.bool (by decide +kernel) rfl) pa_nil))))))), ?_⟩
    refine ⟨_, rfl, _, _, _, _, true, rfl, .ty _, .base (.int i), kit_ty (by decide +kernel), true, rfl, ifT rfl ?_⟩
    exact ⟨_, rfl, _, _, _, _, false, rfl, .ty _, .base (.int i), kit_ty (by decide +kernel), false, rfl, kq⟩
def spSame (n : Nat) : Sp := fun vs H Q _ => ∃ x y : V, vs = [x, y] ∧ Eqd H n x y ∧ ∀ H', Sm H H' → Q (.bl true) H'
def spNo : Sp := fun _ _ _ _ => False
abbrev nSame : List Str := ["_law_found", "_law_due", "_law_k"]
theorem sc_same : FnScope nSame ["_law_found", "_law_due"] (defScope s__law_same) := ⟨rfl, rfl, rfl, by decide +kernel, rfl, by decide +kernel, by decide +kernel⟩
theorem Eqd.zero {H : Hp} {n : Nat} {x y : V} (h : Eq0 x y) : Eqd H n x y := by cases n with
  | zero => exact h
  | succ n => exact .inl h
theorem same_step {f : Addr} {fd : FuncData} (F : Fun K "_law_same" "_law_same" s__law_same f fd) (B : Bt mg) (B2 : Bt2 mg) {k : Nat} (hk : 1 ≤ k) (cw : Fx P w K mg base CX0 "_law_whole" 1 ["_law_found"] spWhole)
    (g : mg "_law_same" = some (.ref f)) (kp : PySem.W.keepIn K (.ref f) = true) (bd : Binds K fd ["_law_found", "_law_due"] []) (n : Nat) (rc : Sp) (G : FnOk P w K mg base CX0 k f fd ["_law_found", "_law_due"] rc) (hrc : n = 0 ∨ ∃ m, n = m + 1 ∧ rc = spSame m) :
    FnOk P w K mg base CX0 (k + 1) f fd ["_law_found", "_law_due"] (spSame n) := by
  obtain ⟨f1, fd1, g1, k1, b1, G1⟩ := cw
  refine F.ok sc_same (fun vs H Q E h => ?_) (fun cdv A outer s H vs Q E hr h => ?_)
  · obtain ⟨x, y, rfl, _⟩ := h
    rfl
  · obtain ⟨x, y, rfl, hE, kq⟩ := h
    refine ⟨_, pss_cons (ps_if (pt_cmpR op_isN (pv 1) pe_non (nomark _)) (pss_one (ps_ret (pe_cmpR op_isN (pv 0) pe_non (nomark _)))) pss_nil)
      (pss_cons (ps_if (pt_val (pe_callB call_isiT (by rfl) B.isinstance (by decide +kernel) (pa_cons (pv 1) (pa_cons (pe_tup (pa_cons (pe_bltn (v := .ty "list") (by rfl) B.list (by decide +kernel) rfl) (pa_cons (pe_bltn (v := .ty "tuple") (by rfl) B2.tuple (by decide +kernel) rfl) pa_nil))) pa_nil))))
        (pss_cons (ps_if (PW.pt (pw_or (pt_cmpR op_ne (pe_callB call_isi (by rfl) B.isinstance (by decide +kernel) (pa_cons (pv 1) (pa_cons (pe_bltn (v := .ty "list") (by rfl) B.list (by decide +kernel) rfl) pa_nil))) (pe_callB call_isi (by rfl) B.isinstance (by decide +kernel) (pa_cons (pv 0) (pa_cons (pe_bltn (v := .ty "list") (by rfl) B.list (by decide +kernel) rfl) pa_nil))) (nomark _))
            (pw_or1 (pt_cmpR op_ne (pe_callB call_isi (by rfl) B.isinstance (by decide +kernel) (pa_cons (pv 1) (pa_cons (pe_bltn (v := .ty "tuple") (by rfl) B2.tuple (by decide +kernel) rfl) pa_nil))) (pe_callB call_isi (by rfl) B.isinstance (by decide +kernel) (pa_cons (pv 0) (pa_cons (pe_bltn (v := .ty "tuple") (by rfl) B2.tuple (by decide +kernel) rfl) pa_nil))) (nomark _)))))
          (pss_one (ps_ret pe_bl)) pss_nil)
        (pss_one (ps_ret (pe_and (pe_cmpR op_eq (pe_callB call_len_seq (by rfl) B.len PySem.boot_len (pa_cons (pv 0) pa_nil)) (pe_callB call_len_seq (by rfl) B.len PySem.boot_len (pa_cons (pv 1) pa_nil)) (nomark _))
          (pe_one (pe_callB (cr_all rfl) (by rfl) B.all (by decide +kernel) (pa_cons (pe_lc (own := [("_law_k", 2)]) (g := gName 2) (tt := tYes) (te := tCall rc [] E0 (tCons (tOp (rIx K) (tVar 0) (tVar 2)) (tCons (tOp (rIx K) (tVar 1) (tVar 2)) tNil))) rfl sc_same.nd
            (pi_range1 (by rfl) B.range (pa_cons (pe_callB call_len_seq (by rfl) B.len PySem.boot_len (pa_cons (pv 1) pa_nil)) pa_nil)) (blkOk_by (own := [("_law_k", 2)]) (N := nSame) (sc := defScope s__law_same) (by decide +kernel))
            (fun _ _ _ _ _ => pg_name (i := 2) sc_same.nd rfl (.inl rfl)) (fun _ _ _ _ _ => pts_nil)
            (fun _ _ _ _ _ => by exact pe_call G hr rfl g kp bd .nil pass0 (pa_cons (pe_ix ix_seq (pv 0) (pv 2) (fun _ _ => rfl)) (pa_cons (pe_ix ix_seq (pv 1) (pv 2) (fun _ _ => rfl)) pa_nil)))) pa_nil))))))) pss_nil)
      (pss_cons (ps_if (pt_val (pe_callB call_isi (by rfl) B.isinstance (by decide +kernel) (pa_cons (pv 1) (pa_cons (pe_bltn (v := .ty "str") (by rfl) B2.str (by decide +kernel) rfl) pa_nil))))
        (pss_one (ps_ret (pe_and (pe_callB call_isi (by rfl) B.isinstance (by decide +kernel) (pa_cons (pv 0) (pa_cons (pe_bltn (v := .ty "str") (by rfl) B2.str (by decide +kernel) rfl) pa_nil))) (pe_one (pe_cmpR op_eq (pv 0) (pv 1) (nomark _)))))) pss_nil)
      (pss_one (ps_ret (pe_and (pe_call G1 (hr.mono hk) rfl g1 k1 b1 .nil pass0 (pa_cons (pv 0) pa_nil)) (pe_one (pe_cmpR op_eq (pv 0) (pv 1) (nomark _)))))))), ?_⟩
    have cls2 : Paired ClsV [V.ty "list", V.ty "tuple"] [.type "list", .type "tuple"] := .cons (.ty _) (.cons (.ty _) .nil)
    have scal : Eq0 x y → _ := fun h => h
    have go : Eq0 x y ∨ ∃ m a b xs ys, n = m + 1 ∧ x = .ref a ∧ y = .ref b ∧ ((H a = some (.lst xs) ∧ H b = some (.lst ys)) ∨ (H a = some (.tup xs) ∧ H b = some (.tup ys))) ∧ Paired (Eqd H m) xs ys ∧ xs.length ≤ 1000000 := by
      cases n with
      | zero => exact .inl hE
      | succ m =>
        rcases hE with h | ⟨a, b, xs, ys, h⟩
        · exact .inl h
        · exact .inr ⟨m, a, b, xs, ys, rfl, h⟩
    rcases go with (⟨rfl, rfl⟩ | ⟨i, rfl, rfl⟩ | ⟨z, rfl, rfl⟩) | ⟨m, a, b, xs, ys, rfl, rfl, rfl, hh, hp, hl⟩
    · exact ⟨_, rfl, rfl, _, rfl, ifT rfl ⟨_, rfl, rfl, kq H (Sm.refl H)⟩⟩
    · refine ⟨_, rfl, rfl, _, rfl, ifF rfl ⟨_, rfl, by show 2 ≤ sizeLine; decide, fun tp htp => ?_⟩⟩
      refine ⟨_, tp, _, _, _, false, rfl, upd_same, cls2, .base (.int i), any2 (b := false) (c := false) (by decide +kernel) (by decide +kernel), _, rfl, ifF rfl ?_⟩
      refine ⟨_, rfl, _, _, _, _, false, rfl, .ty _, .base (.int i), kit_ty (by decide +kernel), _, rfl, ifF rfl ?_⟩
      exact ⟨_, rfl, i, rfl, _, rfl, ifT rfl ⟨_, rfl, _, rfl, rfl, vEq (by simp) (kq _ (Sm.new htp))⟩⟩
    · refine ⟨_, rfl, rfl, _, rfl, ifF rfl ⟨_, rfl, by show 2 ≤ sizeLine; decide, fun tp htp => ?_⟩⟩
      refine ⟨_, tp, _, _, _, false, rfl, upd_same, cls2, .base (.str z), any2 (b := false) (c := false) (by decide +kernel) (by decide +kernel), _, rfl, ifF rfl ?_⟩
      refine ⟨_, rfl, _, _, _, _, true, rfl, .ty _, .base (.str z), kit_ty (by decide +kernel), _, rfl, ifT rfl ?_⟩
      refine ⟨_, rfl, _, _, _, _, true, rfl, .ty _, .base (.str z), kit_ty (by decide +kernel), _, rfl, ifT rfl ?_⟩
      exact ⟨_, rfl, _, rfl, rfl, vEq (by simp) (kq _ (Sm.new htp))⟩
    · refine ⟨_, rfl, rfl, _, rfl, ifF rfl ⟨_, rfl, by show 2 ≤ sizeLine; decide, fun tp htp => ?_⟩⟩
      obtain ⟨m', em, er⟩ : ∃ m', m + 1 = m' + 1 ∧ rc = spSame m' := by
        rcases hrc with z | z
        · cases z
        · exact z
      obtain rfl : m = m' := by omega
      have s1 : Sm H (upd H tp (.tup [.ty "list", .ty "tuple"])) := Sm.new htp
      have htup : upd H tp (.tup [.ty "list", .ty "tuple"]) tp = some (.tup [.ty "list", .ty "tuple"]) := upd_same
      have hh1 : (upd H tp (.tup [.ty "list", .ty "tuple"]) a = some (.lst xs) ∧ upd H tp (.tup [.ty "list", .ty "tuple"]) b = some (.lst ys)) ∨ (upd H tp (.tup [.ty "list", .ty "tuple"]) a = some (.tup xs) ∧ upd H tp (.tup [.ty "list", .ty "tuple"]) b = some (.tup ys)) := by
        rcases hh with ⟨h1, h2⟩ | ⟨h1, h2⟩
        · exact .inl ⟨s1.lst h1, s1.lst h2⟩
        · exact .inr ⟨s1.tups _ _ h1, s1.tups _ _ h2⟩
      generalize upd H tp (.tup [.ty "list", .ty "tuple"]) = H1 at s1 htup hh1
      have sq : ∀ {H2 : Hp}, Sm H1 H2 → (SqL K H2 a xs ∨ SqT K H2 a xs) ∧ (SqL K H2 b ys ∨ SqT K H2 b ys) := fun {H2} s => by
        rcases hh1 with ⟨h1, h2⟩ | ⟨h1, h2⟩
        · exact ⟨.inl (SqL.of (s.lst h1)), .inl (SqL.of (s.lst h2))⟩
        · exact ⟨.inr (SqT.of (s.tups _ _ h1)), .inr (SqT.of (s.tups _ _ h2))⟩
      have len : xs.length = ys.length := Paired.length hp
      have ixr : ∀ {H2 : Hp} {c : Addr} {zs : List V} {j : Nat} {v : V} {Q' : VK}, (SqL K H2 c zs ∨ SqT K H2 c zs) → zs[j]? = some v → Q' v H2 → rIx K (.ref c) (.int (0 + (j : Int))) H2 Q' := fun {H2 c zs j v Q'} h e q => by
        rcases h with h | h
        · exact .inl ⟨c, zs, _, v, rfl, rfl, h, by rw [Int.zero_add]; exact atI_nat e, q⟩
        · exact .inr (.inl ⟨c, zs, _, v, rfl, rfl, h, by rw [Int.zero_add]; exact atI_nat e, q⟩)
      obtain ⟨ty, tb1, tb2, tA, tB, k0, k1', k2'⟩ : ∃ (ty : String) (tb1 tb2 : Bool), TyX K H1 (.ref a) (.type ty) ∧ TyX K H1 (.ref b) (.type ty) ∧ PySem.W.kitAny K (.type ty) [.type "list", .type "tuple"] = some true ∧ PySem.W.kitOne K (.type ty) (.type "list") = some tb1 ∧ PySem.W.kitOne K (.type ty) (.type "tuple") = some tb2 := by
        rcases hh1 with ⟨h1, h2⟩ | ⟨h1, h2⟩
        · exact ⟨"list", true, false, .base (.lst h1), .base (.lst h2), any2 (b := true) (c := false) (by decide +kernel) (by decide +kernel), kit_ty (by decide +kernel), kit_ty (by decide +kernel)⟩
        · exact ⟨"tuple", false, true, .base (.tup h1), .base (.tup h2), any2 (b := false) (c := true) (by decide +kernel) (by decide +kernel), kit_ty (by decide +kernel), kit_ty (by decide +kernel)⟩
      refine ⟨_, tp, _, _, _, true, rfl, htup, cls2, tB, k0, _, rfl, ifT rfl ?_⟩
      refine ⟨_, rfl, _, _, _, _, tb1, rfl, .ty _, tB, k1', _, rfl, _, _, _, _, tb1, rfl, .ty _, tA, k1', rfl, _, rfl, ?_⟩
      refine ifF (by simp) ?_
      refine ⟨_, rfl, _, _, _, _, tb2, rfl, .ty _, tB, k2', _, rfl, _, _, _, _, tb2, rfl, .ty _, tA, k2', rfl, _, rfl, ?_⟩
      refine ifF (by simp) ?_
      refine ⟨_, rfl, a, xs, rfl, (sq (Sm.refl H1)).1, _, rfl, b, ys, rfl, (sq (Sm.refl H1)).2, rfl, _, rfl, ?_⟩
      refine ifT (by simp [len]) ?_
      refine ⟨_, rfl, b, ys, rfl, (sq (Sm.refl H1)).2, _, rfl, by omega, by omega, fun D hD => ?_⟩
      rw [show ((ys.length : Nat) : Int).toNat = ys.length from rfl]
      refine lc_range (lo := 0) (n := ys.length) (fun i H2 => Sm H1 H2 ∧ H2 D = some (.lst ((List.replicate i true).map V.bl))) ⟨Sm.new hD, upd_same⟩ ?_ ?_
      · rintro i H2 hi ⟨s2, h2D⟩
        have hxi : xs[i]? = some xs[i] := List.getElem?_eq_getElem (by omega)
        obtain ⟨yi, hyi, hE⟩ := LiI.paired_get hp hxi
        refine ⟨rfl, ?_⟩
        dsimp only [tYes]
        rw [if_pos rfl]
        refine ⟨_, rfl, _, rfl, ixr (sq s2).1 hxi ⟨_, rfl, _, rfl, ixr (sq s2).2 hyi ?_⟩⟩
        rw [er]
        refine ⟨_, _, rfl, Eqd.sm (s1.trans s2) hE, fun H3 s3 => ?_⟩
        have h3D := s3.lst h2D
        refine ⟨_, h3D, le1000000 (by rw [List.length_map, List.length_replicate]; omega), (Sm.refl H1).own hD (s2.trans s3) h3D (ntL _) _, ?_⟩
        rw [List.replicate_succ', List.map_append]
        exact upd_same
      · rintro H2 ⟨s2, h2D⟩
        refine ⟨D, _, rfl, SqL.of h2D, vEq ?_ (kq _ (s1.trans s2))⟩
        congr 1
        symm
        rw [List.all_eq_true]
        intro c hc
        rw [List.eq_of_mem_replicate hc]; rfl
theorem same_no {f : Addr} {fd : FuncData} (F : Fun K "_law_same" "_law_same" s__law_same f fd) (k : Nat) : FnOk P w K mg base CX0 (k + 1) f fd ["_law_found", "_law_due"] spNo :=
  F.ok sc_same (fun vs H Q E h => False.elim h) (fun cdv A outer s H vs Q E hr h => False.elim h)
theorem ok_same {f : Addr} {fd : FuncData} (F : Fun K "_law_same" "_law_same" s__law_same f fd) (B : Bt mg) (B2 : Bt2 mg) (cw : Fx P w K mg base CX0 "_law_whole" 1 ["_law_found"] spWhole)
    (g : mg "_law_same" = some (.ref f)) (kp : PySem.W.keepIn K (.ref f) = true) (bd : Binds K fd ["_law_found", "_law_due"] []) : ∀ n : Nat, FnOk P w K mg base CX0 (n + 2) f fd ["_law_found", "_law_due"] (spSame n)
  | 0 => same_step F B B2 (Nat.le_refl _) cw g kp bd 0 spNo (same_no F 0) (.inl rfl)
  | n + 1 => same_step F B B2 (by omega) cw g kp bd (n + 1) (spSame n) (ok_same F B B2 cw g kp bd n) (.inr ⟨n, rfl, rfl⟩)
end
end Vs
namespace Vs
open PySem L2 PyProof.Rows
/-! ### _law_stays -/
def Flat (K : PySem.W.Frag) (H : Hp) (m : Nat) (x : V) : Prop := ∃ d, Dp K H x d ∧ d.canLay0 = true ∧ d.depth ≤ m
theorem flats {K : PySem.W.Frag} {H : Hp} {m : Nat} : ∀ {xs : List V}, (∀ x ∈ xs, Flat K H m x) → ∃ ds, DpAll K H xs ds ∧ PyData.canLayAll0 ds = true ∧ PyData.depthAll ds ≤ m ∧ ds.length = xs.length
  | [], _ => ⟨[], .nil, rfl, Nat.zero_le _, rfl⟩
  | x :: xs, h => by
    obtain ⟨d, h1, h2, h3⟩ := h x List.mem_cons_self
    obtain ⟨ds, k1, k2, k3, k4⟩ := flats fun y hy => h y (List.mem_cons_of_mem _ hy)
    refine ⟨d :: ds, .cons h1 k1, ?_, ?_, by rw [List.length_cons, List.length_cons, k4]⟩
    · show (d.canLay0 && PyData.canLayAll0 ds) = true
      rw [h2, k2]; rfl
    · show max d.depth (PyData.depthAll ds) ≤ m
      omega
theorem Flat.lst {K : PySem.W.Frag} {H : Hp} {m : Nat} {a : Addr} {xs : List V} (ha : SqL K H a xs) (h : ∀ x ∈ xs, Flat K H m x) : ∃ ds, Dp K H (.ref a) (.list ds) ∧ PyData.canLay0 (.list ds) = true ∧ PyData.depth (.list ds) ≤ m + 1 ∧ ds.length = xs.length := by
  obtain ⟨ds, k1, k2, k3, k4⟩ := flats h
  exact ⟨ds, .lst ha k1, k2, Nat.succ_le_succ k3, k4⟩
theorem Flat.tup {K : PySem.W.Frag} {H : Hp} {m : Nat} {a : Addr} {xs : List V} (ha : SqT K H a xs) (h : ∀ x ∈ xs, Flat K H m x) : Flat K H (m + 1) (.ref a) := by
  obtain ⟨ds, k1, k2, k3, k4⟩ := flats h
  exact ⟨.tuple ds, .tup ha k1, k2, Nat.succ_le_succ k3⟩
theorem Flat.int {K : PySem.W.Frag} {H : Hp} {m : Nat} (i : Int) : Flat K H m (.int i) := ⟨.int i, .int i, rfl, Nat.zero_le _⟩
theorem Flat.opt {K : PySem.W.Frag} {H : Hp} {m : Nat} (v : Option Int) : Flat K H m (optV v) := by
  cases v with
  | none => exact ⟨.none, .non, rfl, Nat.zero_le _⟩
  | some i => exact .int i
theorem nil_or {K : PySem.W.Frag} {H : Hp} {a b : Addr} {xs : List V} (ha : SqL K H a xs) (hb : SqL K H b []) (h : ∀ x ∈ xs, Flat K H 9 x) :
    ∃ d e, Dp K H (.ref a) d ∧ Dp K H (.ref b) e ∧ SeqAt.shaped d = true ∧ SeqAt.shaped e = true ∧ PyData.eqv d e = xs.isEmpty := by
  obtain ⟨ds, k1, k2, k3, k4⟩ := Flat.lst ha h
  refine ⟨.list ds, .list [], k1, .lst hb .nil, ?_, by decide +kernel, ?_⟩
  · unfold SeqAt.shaped
    rw [k2, decide_eq_true (show PyData.depth (.list ds) ≤ 64 by omega)]; rfl
  · cases xs with
    | nil =>
      cases ds with
      | nil => rfl
      | cons d ds => cases k4
    | cons x xs =>
      cases ds with
      | nil => cases k4
      | cons d ds => rfl
theorem ne_nil {K : PySem.W.Frag} {H : Hp} {a b : Addr} {xs : List V} {Q : VK} (ha : SqL K H a xs) (hb : SqL K H b []) (h : ∀ x ∈ xs, Flat K H 9 x) (q : Q (.bl (!xs.isEmpty)) H) : rNeD K (.ref a) (.ref b) H Q := by
  obtain ⟨d, e, h1, h2, h3, h4, h5⟩ := nil_or ha hb h
  exact ⟨d, e, h1, h2, h3, h4, by rw [h5]; exact q⟩
theorem eq_nil {K : PySem.W.Frag} {H : Hp} {a b : Addr} {xs : List V} {Q : VK} (ha : SqL K H a xs) (hb : SqL K H b []) (h : ∀ x ∈ xs, Flat K H 9 x) (q : Q (.bl xs.isEmpty) H) : rEqD K (.ref a) (.ref b) H Q := by
  obtain ⟨d, e, h1, h2, h3, h4, h5⟩ := nil_or ha hb h
  exact ⟨d, e, h1, h2, h3, h4, by rw [h5]; exact q⟩
end Vs
/-! ## What each deed leaves whole -/
namespace Vs
open PySem L2
theorem aget_snoc {β : Type} {l : List (Int × β)} {n m : Int} {x y : β} (h : aget (l ++ [(n, x)]) m = some y) : aget l m = some y ∨ (m = n ∧ y = x ∧ aget l m = none) := by
  rw [aget_append, aget_cons, aget_nil] at h
  cases e : aget l m with
  | some z => rw [e] at h; exact .inl h
  | none =>
    rw [e] at h
    by_cases q : n = m
    · rw [if_pos q] at h; exact .inr ⟨q.symm, (Option.some.inj h).symm, rfl⟩
    · rw [if_neg q] at h; cases h
theorem aget_left {β : Type} {l : List (Int × β)} {n m : Int} {x y : β} (h : aget l m = some y) : aget (l ++ [(n, x)]) m = some y := by rw [aget_append, h]; rfl
theorem aget_right {β : Type} {l : List (Int × β)} {n : Int} {x : β} (h : aget l n = none) : aget (l ++ [(n, x)]) n = some x := by rw [aget_append, h, aget_cons, if_pos rfl]; rfl
theorem pw_snoc {β : Type} {l : List (Int × β)} {n : Int} {x : β} (h : (l.map (·.1)).Pairwise (· < ·)) (lt : ∀ m y, aget l m = some y → m < n) : ((l ++ [(n, x)]).map (·.1)).Pairwise (· < ·) := by
  rw [List.map_append, List.pairwise_append]
  refine ⟨h, List.pairwise_singleton _ _, fun a ha b hb => ?_⟩
  obtain ⟨y, hy⟩ := aget_of_key ha
  have : b = n := by simpa using hb
  rw [this]; exact lt a y hy
section
variable {Ks : List Str} {S : Sh}
theorem WF.addHand (W : WF Ks S) {br mom : Int} (hb : ∃ b, aget S.brs br = some b) (h0 : 0 ≤ mom) (h1 : mom ≤ S.now) (hl : S.hns.length < 1000) (hm : 0 ≤ S.hm ∧ S.hm < 10 ^ 18) : WF Ks (S.addHand br mom) where
  bks := W.bks
  b0 := W.b0
  root := W.root
  ben := W.ben
  bnd := W.bnd
  lks := W.lks
  ln := W.ln
  mks := W.mks
  mkb := W.mkb
  hks := pw_snoc W.hks fun m y e => (W.hn m y e).2.1
  hn := fun n h e => by
    rcases aget_snoc (l := S.hns) e with z | ⟨rfl, rfl, _⟩
    · obtain ⟨a, b, c⟩ := W.hn n h z
      exact ⟨a, by show n < S.hm + 1; omega, c⟩
    · exact ⟨hm.1, by show S.hm < S.hm + 1; omega, hb, h0, h1⟩
  dks := fun n h e => by
    rcases aget_snoc (l := S.hns) e with z | ⟨_, rfl, _⟩
    · exact W.dks n h z
    · exact ⟨List.nodup_nil, fun k hk => by cases hk⟩
  key := W.key
  pool := W.pool
  sz := ⟨W.sz.1, W.sz.2.1, W.sz.2.2.1, by show S.hm + 1 ≤ 10 ^ 18; omega⟩
  cap := ⟨by show (S.hns ++ [_]).length ≤ 1000; rw [List.length_append]; show S.hns.length + 1 ≤ 1000; omega, W.cap.b, W.cap.l⟩
theorem del_old {β : Type} {l : List (Int × β)} {n m : Int} {y : β} (h : aget (adel l n) m = some y) : aget l m = some y ∧ m ≠ n := by
  rw [aget_del] at h
  by_cases q : m = n
  · rw [if_pos q] at h; cases h
  · rw [if_neg q] at h; exact ⟨h, q⟩
theorem WF.delHand (W : WF Ks S) (n : Int) : WF Ks (S.delHand n) where
  bks := W.bks
  b0 := W.b0
  root := W.root
  ben := W.ben
  bnd := W.bnd
  lks := W.lks
  ln := W.ln
  mks := W.mks
  mkb := W.mkb
  hks := W.hks.sublist (List.filter_sublist.map _)
  hn := fun m h e => W.hn m h (del_old (l := S.hns) e).1
  dks := fun m h e => W.dks m h (del_old (l := S.hns) e).1
  key := W.key
  pool := W.pool
  sz := W.sz
  cap := ⟨Nat.le_trans List.filter_sublist.length_le W.cap.h, W.cap.b, W.cap.l⟩
def Sh.fork (S : Sh) (q m : Int) : Sh := { S with brs := S.brs ++ [(S.bm, ⟨some q, m, true, [], []⟩)], bm := S.bm + 1 }
theorem WF.bfresh (W : WF Ks S) : aget S.brs S.bm = none := by
  cases e : aget S.brs S.bm with
  | none => rfl
  | some b => have := (W.bnd _ b e).2.1; omega
theorem WF.bm0 (W : WF Ks S) : 0 < S.bm := by
  obtain ⟨b, hb⟩ := W.b0
  exact (W.bnd 0 b hb).2.1
theorem WF.fork (W : WF Ks S) {q m : Int} (hq : ∃ b, aget S.brs q = some b) (h0 : 0 ≤ m) (h1 : m ≤ S.now) (hl : S.brs.length < 1000) (hb : S.bm < 10 ^ 18) : WF Ks (S.fork q m) where
  bks := pw_snoc W.bks fun n y e => (W.bnd n y e).2.1
  b0 := let ⟨b, e⟩ := W.b0; ⟨b, aget_left e⟩
  root := fun n b e => by
    rcases aget_snoc (l := S.brs) e with z | ⟨rfl, rfl, _⟩
    · exact W.root n b z
    · have := W.bm0
      exact ⟨fun z => (by cases z), fun z => by omega⟩
  ben := fun n b p e hp => by
    rcases aget_snoc (l := S.brs) e with z | ⟨rfl, rfl, _⟩
    · obtain ⟨a, c, hc⟩ := W.ben n b p z hp
      exact ⟨a, c, aget_left hc⟩
    · obtain rfl := Option.some.inj hp
      obtain ⟨c, hc⟩ := hq
      exact ⟨(W.bnd _ c hc).2.1, c, aget_left hc⟩
  bnd := fun n b e => by
    rcases aget_snoc (l := S.brs) e with z | ⟨rfl, rfl, _⟩
    · obtain ⟨a, b', c⟩ := W.bnd n b z
      exact ⟨a, by show n < S.bm + 1; omega, c⟩
    · exact ⟨Int.le_of_lt W.bm0, by show S.bm < S.bm + 1; omega, h0, h1⟩
  lks := fun n b e => by
    rcases aget_snoc (l := S.brs) e with z | ⟨_, rfl, _⟩
    · exact W.lks n b z
    · exact ⟨List.nodup_nil, fun k hk => by cases hk⟩
  ln := fun n b k l e hl => by
    rcases aget_snoc (l := S.brs) e with z | ⟨_, rfl, _⟩
    · exact W.ln n b k l z hl
    · cases hl
  mks := fun n b e => by
    rcases aget_snoc (l := S.brs) e with z | ⟨_, rfl, _⟩
    · exact W.mks n b z
    · exact ⟨List.nodup_nil, fun k hk => by cases hk⟩
  mkb := fun n b k x e hx => by
    rcases aget_snoc (l := S.brs) e with z | ⟨_, rfl, _⟩
    · exact W.mkb n b k x z hx
    · cases hx
  hks := W.hks
  hn := fun n h e => by
    obtain ⟨a, b, ⟨c, hc⟩, d⟩ := W.hn n h e
    exact ⟨a, b, ⟨c, aget_left hc⟩, d⟩
  dks := W.dks
  key := W.key
  pool := W.pool
  sz := ⟨W.sz.1, W.sz.2.1, by show S.bm + 1 ≤ 10 ^ 18; omega, W.sz.2.2.2⟩
  cap := ⟨W.cap.h, by show (S.brs ++ [_]).length ≤ 1000; rw [List.length_append]; show S.brs.length + 1 ≤ 1000; omega, fun n b k l e hl => by
    rcases aget_snoc (l := S.brs) e with z | ⟨_, rfl, _⟩
    · exact W.cap.l n b k l z hl
    · cases hl⟩
/-- a branch changed in what doesn't count for views of others -/
theorem WF.setBr (W : WF Ks S) {n : Int} {b b' : Br} (hb : aget S.brs n = some b) (e1 : b'.ben = b.ben) (e2 : b'.mom = b.mom) (hl : (b'.lines.map (·.1)).Nodup ∧ ∀ k ∈ b'.lines.map (·.1), k ∈ Ks) (hln : ∀ k l, aget b'.lines k = some l → Rise l ∧ l ≠ [] ∧ (∀ c ∈ l, 1 ≤ c.1 ∧ c.1 ≤ S.now) ∧ l.length ≤ 1000)
    (hm : (b'.marks.map (·.1)).Nodup ∧ ∀ k ∈ b'.marks.map (·.1), k ∈ Ks) (hmk : ∀ k m, aget b'.marks k = some m → 1 ≤ m ∧ m ≤ S.now) : WF Ks (S.setBr n b') := by
  have up : ∀ m c, aget (S.setBr n b').brs m = some c → (m = n ∧ c = b') ∨ (m ≠ n ∧ aget S.brs m = some c) := fun m c h => by
    rw [setBr_get] at h
    by_cases q : m = n
    · rw [if_pos q] at h; exact .inl ⟨q, (Option.some.inj h).symm⟩
    · rw [if_neg q] at h; exact .inr ⟨q, h⟩
  have dn : ∀ m c, aget S.brs m = some c → ∃ c', aget (S.setBr n b').brs m = some c' := fun m c h => by
    rw [setBr_get]
    by_cases q : m = n
    · rw [if_pos q]; exact ⟨_, rfl⟩
    · rw [if_neg q]; exact ⟨c, h⟩
  have keys : (S.setBr n b').brs.map (·.1) = S.brs.map (·.1) := keys_aput_old _ hb
  constructor
  · rw [keys]; exact W.bks
  · obtain ⟨c, hc⟩ := W.b0; exact dn 0 c hc
  · intro m c h
    rcases up m c h with ⟨rfl, rfl⟩ | ⟨_, h⟩
    · rw [e1]; exact W.root m b hb
    · exact W.root m c h
  · intro m c q h hq
    rcases up m c h with ⟨rfl, rfl⟩ | ⟨_, h⟩
    · rw [e1] at hq
      obtain ⟨a, d, hd⟩ := W.ben m b q hb hq
      exact ⟨a, dn q d hd⟩
    · obtain ⟨a, d, hd⟩ := W.ben m c q h hq
      exact ⟨a, dn q d hd⟩
  · intro m c h
    rcases up m c h with ⟨rfl, rfl⟩ | ⟨_, h⟩
    · rw [e2]; exact W.bnd m b hb
    · exact W.bnd m c h
  · intro m c h
    rcases up m c h with ⟨rfl, rfl⟩ | ⟨_, h⟩
    · exact hl
    · exact W.lks m c h
  · intro m c k l h h'
    rcases up m c h with ⟨rfl, rfl⟩ | ⟨_, h⟩
    · obtain ⟨a, b, c, _⟩ := hln k l h'
      exact ⟨a, b, c⟩
    · exact W.ln m c k l h h'
  · intro m c h
    rcases up m c h with ⟨rfl, rfl⟩ | ⟨_, h⟩
    · exact hm
    · exact W.mks m c h
  · intro m c k x h hx
    rcases up m c h with ⟨rfl, rfl⟩ | ⟨_, h⟩
    · exact hmk k x hx
    · exact W.mkb m c k x h hx
  · exact W.hks
  · intro m h hh
    obtain ⟨a, b, ⟨c, hc⟩, d⟩ := W.hn m h hh
    exact ⟨a, b, dn _ c hc, d⟩
  · exact W.dks
  · exact W.key
  · exact W.pool
  · exact W.sz
  · refine ⟨W.cap.h, ?_, fun m c k l h h' => ?_⟩
    · have := congrArg List.length keys
      rw [List.length_map, List.length_map] at this
      rw [this]; exact W.cap.b
    · rcases up m c h with ⟨rfl, rfl⟩ | ⟨_, h⟩
      · exact (hln k l h').2.2.2
      · exact W.cap.l m c k l h h'
def Sh.drop (S : Sh) (n : Int) (b : Br) : Sh := S.setBr n { b with alive := false }
theorem WF.drop (W : WF Ks S) {n : Int} {b : Br} (hb : aget S.brs n = some b) : WF Ks (S.drop n b) :=
  W.setBr hb rfl rfl (W.lks n b hb) (fun k l h => ⟨(W.ln n b k l hb h).1, (W.ln n b k l hb h).2.1, (W.ln n b k l hb h).2.2, W.cap.l n b k l hb h⟩) (W.mks n b hb) (fun k m h => W.mkb n b k m hb h)
theorem WF.later (W : WF Ks S) (h : S.now < 10 ^ 18) : WF Ks { S with now := S.now + 1 } where
  bks := W.bks
  b0 := W.b0
  root := W.root
  ben := W.ben
  bnd := fun n b e => by obtain ⟨a, b', c, d⟩ := W.bnd n b e; exact ⟨a, b', c, by show b.mom ≤ S.now + 1; omega⟩
  lks := W.lks
  ln := fun n b k l e hl => by
    obtain ⟨a, b', c⟩ := W.ln n b k l e hl
    exact ⟨a, b', fun x hx => ⟨(c x hx).1, by show x.1 ≤ S.now + 1; have := (c x hx).2; omega⟩⟩
  mks := W.mks
  mkb := fun n b k m e hm => by obtain ⟨a, b'⟩ := W.mkb n b k m e hm; exact ⟨a, by show m ≤ S.now + 1; omega⟩
  hks := W.hks
  hn := fun n x e => by obtain ⟨a, b, c, d, f⟩ := W.hn n x e; exact ⟨a, b, c, d, by show x.mom ≤ S.now + 1; omega⟩
  dks := W.dks
  key := W.key
  pool := W.pool
  sz := ⟨by show 0 ≤ S.now + 1; have := W.sz.1; omega, by show S.now + 1 ≤ 10 ^ 18; omega, W.sz.2.2⟩
  cap := ⟨W.cap.h, W.cap.b, W.cap.l⟩
/-- one draft becomes a version: where the line's births are earlier -/
theorem WF.addS (W : WF Ks S) (q : Int) (h : Hn) {k : Str} (hk : k ∈ Ks) (hn : 1 ≤ S.now ∧ S.now ≤ 1000) (lt : ∀ b, aget S.brs q = some b → ∀ c ∈ b.line k, c.1 < S.now) : WF Ks (addS q h S k) := by
  unfold Vs.addS
  cases e : aget S.brs q with
  | none => exact W
  | some b =>
    dsimp only
    have lt := lt b e
    have hbl : ∀ c ∈ b.line k, 1 ≤ c.1 := fun c hc => by
      unfold Br.line at hc
      cases el : aget b.lines k with
      | none => rw [el] at hc; cases hc
      | some l => rw [el] at hc; exact ((W.ln q b k l e el).2.2 c hc).1
    have ri : Rise (b.line k ++ [(S.now, (aget h.drafts k).getD none)]) := by
      unfold Rise
      rw [List.pairwise_append]
      refine ⟨W.rise e k, List.pairwise_singleton _ _, fun x hx y hy => ?_⟩
      have : y = (S.now, (aget h.drafts k).getD none) := by simpa using hy
      rw [this]; exact lt x hx
    have len : (b.line k ++ [(S.now, (aget h.drafts k).getD none)]).length ≤ 1000 := by
      have := rise_len ri (lo := 1) (hi := S.now) (fun c hc => by
        rcases List.mem_append.mp hc with z | z
        · exact ⟨hbl c z, Int.le_of_lt (lt c z)⟩
        · have : c = (S.now, (aget h.drafts k).getD none) := by simpa using z
          rw [this]; exact ⟨hn.1, Int.le_refl _⟩) (by omega)
      omega
    refine W.setBr e rfl rfl ⟨nodup_aput (W.lks q b e).1, fun j hj => ?_⟩ (fun j l hl => ?_) ⟨nodup_aput (W.mks q b e).1, fun j hj => ?_⟩ (fun j m hm => ?_)
    · rcases mem_keys_aput hj with z | z
      · rw [z]; exact hk
      · exact (W.lks q b e).2 j z
    · have hl : aget (aput b.lines k _) j = some l := hl
      rw [aget_put] at hl
      by_cases z : j = k
      · rw [if_pos z] at hl
        obtain rfl := Option.some.inj hl
        refine ⟨ri, by simp, fun c hc => ?_, len⟩
        rcases List.mem_append.mp hc with y | y
        · exact ⟨hbl c y, Int.le_of_lt (lt c y)⟩
        · have : c = (S.now, (aget h.drafts k).getD none) := by simpa using y
          rw [this]; exact ⟨hn.1, Int.le_refl _⟩
      · rw [if_neg z] at hl
        obtain ⟨a, b', c⟩ := W.ln q b j l e hl
        exact ⟨a, b', c, W.cap.l q b j l e hl⟩
    · rcases mem_keys_aput hj with z | z
      · rw [z]; exact hk
      · exact (W.mks q b e).2 j z
    · have hm : aget (aput b.marks k _) j = some m := hm
      rw [aget_put] at hm
      by_cases z : j = k
      · rw [if_pos z] at hm
        obtain rfl := Option.some.inj hm
        exact ⟨hn.1, Int.le_refl _⟩
      · rw [if_neg z] at hm; exact W.mkb q b j m e hm
theorem addS_now (q : Int) (h : Hn) (S : Sh) (k : Str) : (addS q h S k).now = S.now ∧ (addS q h S k).hns = S.hns ∧ (addS q h S k).bm = S.bm ∧ (addS q h S k).hm = S.hm := by
  unfold Vs.addS
  cases aget S.brs q <;> exact ⟨rfl, rfl, rfl, rfl⟩
theorem addS_line (q : Int) (h : Hn) (S : Sh) (k : Str) {b : Br} (hb : aget S.brs q = some b) (n : Int) (j : Str) : lineAt (addS q h S k).brs n j = if n = q ∧ j = k then b.line k ++ [(S.now, (aget h.drafts k).getD none)] else lineAt S.brs n j := by
  unfold Vs.addS
  rw [hb]
  dsimp only
  unfold lineAt
  rw [setBr_get]
  by_cases e : n = q
  · rw [if_pos e, e, hb]
    dsimp only
    unfold Br.line addC
    dsimp only
    rw [aget_put]
    by_cases f : j = k
    · rw [if_pos f, if_pos ⟨rfl, f⟩]; rfl
    · rw [if_neg f, if_neg (fun z => f z.2)]
  · rw [if_neg e, if_neg (fun z => e z.1)]
theorem addS_br (q : Int) (h : Hn) (S : Sh) (k : Str) (n : Int) {c : Br} (hc : aget (addS q h S k).brs n = some c) : ∃ b, aget S.brs n = some b ∧ c.ben = b.ben ∧ c.mom = b.mom ∧ c.alive = b.alive := by
  unfold Vs.addS at hc
  cases e : aget S.brs q with
  | none => rw [e] at hc; exact ⟨c, hc, rfl, rfl, rfl⟩
  | some b =>
    rw [e] at hc
    dsimp only at hc
    rw [setBr_get] at hc
    by_cases z : n = q
    · rw [if_pos z] at hc
      obtain rfl := Option.some.inj hc
      exact ⟨b, by rw [z]; exact e, rfl, rfl, rfl⟩
    · rw [if_neg z] at hc; exact ⟨c, hc, rfl, rfl, rfl⟩
end
end Vs
/-! ## What a sweep of all leaves: views see what they saw, and nothing goes any more -/
namespace Vs
open PySem L2
/-- what stays of a line -/
def Kn (S : Sh) (k : Str) (n : Int) : List Cel := (keptB S.brs k (ownersM S k) n).map (·.1)
theorem own_iff' (r : Int → Int → Option Ver) (key : Int × Int) : ∀ (vs : List (Own × Int × Int)) (acc : List ((Int × Int) × Own)),
    (aget (vs.foldl (fun acc v => addOwn acc (r v.2.1 v.2.2) v.1) acc) key).isSome = true ↔ (aget acc key).isSome = true ∨ ∃ v ∈ vs, ∃ w, r v.2.1 v.2.2 = some w ∧ (w.1, w.2.1) = key
  | [], acc => ⟨fun h => .inl h, fun h => h.elim id fun ⟨v, hv, _⟩ => by cases hv⟩
  | v :: vs, acc => by
    rw [List.foldl_cons, own_iff' r key vs]
    have step : (aget (addOwn acc (r v.2.1 v.2.2) v.1) key).isSome = true ↔ (aget acc key).isSome = true ∨ ∃ w, r v.2.1 v.2.2 = some w ∧ (w.1, w.2.1) = key := by
      unfold addOwn
      cases e : r v.2.1 v.2.2 with
      | none => exact ⟨fun h => .inl h, fun h => h.elim id fun ⟨w, hw, _⟩ => by cases hw⟩
      | some w =>
        dsimp only
        by_cases c : (aget acc (w.1, w.2.1)).isSome = true
        · rw [if_pos c]
          refine ⟨fun h => .inl h, fun h => h.elim id fun ⟨w', hw, hk⟩ => ?_⟩
          obtain rfl := Option.some.inj hw
          rw [← hk]; exact c
        · rw [if_neg c, aget_append, aget_cons, aget_nil]
          by_cases q : (w.1, w.2.1) = key
          · rw [if_pos q]
            refine ⟨fun _ => .inr ⟨w, rfl, q⟩, fun _ => ?_⟩
            cases aget acc key <;> rfl
          · rw [if_neg q]
            constructor
            · intro h
              left
              cases hx : aget acc key with
              | none => rw [hx] at h; cases h
              | some y => rfl
            · intro h
              rcases h with h | ⟨w', hw, hk⟩
              · cases hx : aget acc key with
                | none => rw [hx] at h; cases h
                | some y => rfl
              · obtain rfl := Option.some.inj hw
                exact absurd hk q
    rw [step]
    constructor
    · rintro ((h | ⟨w, h⟩) | ⟨u, hu, h⟩)
      · exact .inl h
      · exact .inr ⟨v, List.mem_cons_self, w, h⟩
      · exact .inr ⟨u, List.mem_cons_of_mem _ hu, h⟩
    · rintro (h | ⟨u, hu, w, h⟩)
      · exact .inl (.inl h)
      · rcases List.mem_cons.mp hu with rfl | hu
        · exact .inl (.inr ⟨w, h⟩)
        · exact .inr ⟨u, hu, w, h⟩
/-- who has an owner: what somebody's view comes to -/
theorem owned {S : Sh} {k : Str} {n b : Int} : (aget (ownersM S k) (n, b)).isSome = true ↔ ∃ v ∈ viewsM S, ∃ w, reachS S.brs k v.2.1 v.2.2 = some w ∧ (w.1, w.2.1) = (n, b) := by
  unfold ownersM
  rw [own_iff']
  exact ⟨fun h => h.elim (fun z => by cases z) id, .inr⟩
theorem kept_owned (k : Str) (n : Int) (ow : Int → Option Own) {x : Cel × Rsn} : ∀ (l : List Cel) (be : Option Ver), x ∈ keepL k n ow be l → (ow x.1.1).isSome = true
  | [], be, hx => by cases hx
  | a :: l, be, hx => by
    unfold keepL at hx
    cases hr : reasonM k a.2 (ow a.1) be with
    | none => rw [hr] at hx; exact kept_owned k n ow l be hx
    | some y =>
      rw [hr] at hx
      rcases List.mem_cons.mp hx with z | z
      · rw [z]
        dsimp only
        cases ho : ow a.1 with
        | none => rw [ho] at hr; cases hr
        | some o => rfl
      · exact kept_owned k n ow l _ z
section
variable {Ks : List Str} {S : Sh}
theorem Kn_sub (S : Sh) (k : Str) (n : Int) : (Kn S k n).Sublist (lineAt S.brs n k) := keepL_sub _ _ _ _ _
/-- a version has a reason just where it is kept -/
theorem reason_iff (W : WF Ks S) (k : Str) {n : Int} {b : Br} (hb : aget S.brs n = some b) (born : Int) : (aget (reasonsM S k) (n, born)).isSome = true ↔ ∃ c ∈ Kn S k n, c.1 = born := by
  constructor
  · intro h
    cases e : aget (reasonsM S k) (n, born) with
    | none => rw [e] at h; cases h
    | some y =>
      have hm := aget_mem e
      unfold reasonsM reasonsO at hm
      obtain ⟨p, hp, hm⟩ := List.mem_flatMap.mp hm
      obtain ⟨x, hx, ex⟩ := List.mem_map.mp hm
      have e1 : p.1 = n := congrArg (fun t : (Int × Int) × Rsn => t.1.1) ex
      have e2 : x.1.1 = born := congrArg (fun t : (Int × Int) × Rsn => t.1.2) ex
      rw [e1] at hx
      exact ⟨x.1, List.mem_map.mpr ⟨x, hx, rfl⟩, e2⟩
  · rintro ⟨c, hc, rfl⟩
    obtain ⟨x, hx, rfl⟩ := List.mem_map.mp hc
    have hm : ((n, x.1.1), x.2) ∈ reasonsM S k := List.mem_flatMap.mpr ⟨(n, b), aget_mem hb, List.mem_map.mpr ⟨x, hx, rfl⟩⟩
    obtain ⟨y, hy⟩ := aget_of_key (List.mem_map.mpr ⟨_, hm, rfl⟩)
    have hy : aget (reasonsM S k) (n, x.1.1) = some y := hy
    rw [hy]; rfl
theorem owner_kept {k : Str} {n : Int} {c : Cel} (h : c ∈ Kn S k n) : (aget (ownersM S k) (n, c.1)).isSome = true := by
  obtain ⟨x, hx, rfl⟩ := List.mem_map.mp h
  exact kept_owned k n _ _ _ hx
theorem keyIn {b : Br} {k : Str} {c : Cel} (h : c ∈ b.line k) : k ∈ b.lines.map (·.1) := by
  unfold Br.line at h
  cases e : aget b.lines k with
  | none => rw [e] at h; cases h
  | some l => exact aget_key e
/-- which go -/
theorem gone_iff (W : WF Ks S) {n : Int} {b : Br} (hb : aget S.brs n = some b) {k : Str} {c : Cel} (hc : c ∈ b.line k) : (n, k, c.1) ∈ (goM S).map id3 ↔ aget (reasonsM S k) (n, c.1) = none := by
  have sub : aget (ownersM S k) (n, c.1) = none → aget (reasonsM S k) (n, c.1) = none := fun ho => by
    cases e : aget (reasonsM S k) (n, c.1) with
    | none => rfl
    | some y =>
      obtain ⟨d, hd, ed⟩ := (reason_iff W k hb c.1).mp (by rw [e]; rfl)
      have := owner_kept hd
      rw [ed, ho] at this; cases this
  constructor
  · intro hv
    obtain ⟨g, hg, eg⟩ := List.mem_map.mp hv
    have e1 : g.1.1 = n := congrArg (fun t : V3 => t.1) eg
    have e2 : g.1.2.1 = k := congrArg (fun t : V3 => t.2.1) eg
    have e3 : g.1.2.2.1 = c.1 := congrArg (fun t : V3 => t.2.2) eg
    unfold goM unOf baOf at hg
    rcases List.mem_append.mp hg with z | z
    · obtain ⟨v, hw, rfl⟩ := List.mem_map.mp z
      have := (List.mem_filter.mp hw).2
      unfold isUn at this
      dsimp only at e1 e2 e3
      rw [e1, e2, e3] at this
      exact sub (by simpa using this)
    · obtain ⟨v, hw, rfl⟩ := List.mem_map.mp z
      have := (List.mem_filter.mp hw).2
      unfold isBa at this
      dsimp only at e1 e2 e3
      have := (Bool.and_eq_true_iff.mp this).2
      rw [e1, e2, e3] at this
      simpa using this
  · intro hr
    obtain ⟨q, hq, eq⟩ : ∃ q ∈ withNext (b.line k), q.1 = c.1 := by
      have : c.1 ∈ (withNext (b.line k)).map (·.1) := by rw [withNext_keys]; exact List.mem_map.mpr ⟨c, hc, rfl⟩
      obtain ⟨q, hq, e⟩ := List.mem_map.mp this
      exact ⟨q, hq, e⟩
    have hv : (n, k, q.1, q.2) ∈ versM S.brs := List.mem_flatMap.mpr ⟨(n, b), aget_mem hb, List.mem_flatMap.mpr ⟨k, mem_sortK.mpr (keyIn hc), List.mem_map.mpr ⟨q, hq, rfl⟩⟩⟩
    by_cases hu : isUn S (n, k, q.1, q.2) = true
    · refine List.mem_map.mpr ⟨((n, k, q.1, q.2), "unseen"), List.mem_append.mpr (.inl (List.mem_map.mpr ⟨_, List.mem_filter.mpr ⟨hv, hu⟩, rfl⟩)), ?_⟩
      unfold id3; rw [eq]
    · refine List.mem_map.mpr ⟨((n, k, q.1, q.2), "bare"), List.mem_append.mpr (.inr (List.mem_map.mpr ⟨_, List.mem_filter.mpr ⟨hv, ?_⟩, rfl⟩)), ?_⟩
      · unfold isBa
        rw [Bool.and_eq_true]
        refine ⟨by simpa using hu, ?_⟩
        dsimp only
        rw [eq, hr]; rfl
      · unfold id3; rw [eq]
theorem filter_of_sub : ∀ {l m : List Cel}, m.Sublist l → l.Nodup → l.filter (fun c => decide (c ∈ m)) = m := by
  intro l m s
  induction s with
  | slnil => intro _; rfl
  | @cons m' l' a s ih =>
    intro n
    obtain ⟨n1, n2⟩ := List.nodup_cons.mp n
    rw [List.filter_cons, if_neg (by simp; exact fun z => n1 (s.subset z))]
    exact ih n2
  | @cons_cons m' l' a s ih =>
    intro n
    obtain ⟨n1, n2⟩ := List.nodup_cons.mp n
    rw [List.filter_cons, if_pos (by simp)]
    congr 1
    rw [← ih n2]
    apply List.filter_congr
    intro c hc
    rw [ih n2]
    apply decide_eq_decide.mpr
    rw [List.mem_cons]
    exact ⟨fun z => z.elim (fun y => absurd (y ▸ hc) n1) id, .inr⟩
theorem born_inj {l : List Cel} (r : Rise l) {a b : Cel} (ha : a ∈ l) (hb : b ∈ l) (e : a.1 = b.1) : a = b := by
  obtain ⟨i, hi⟩ := List.mem_iff_getElem?.mp ha
  obtain ⟨j, hj⟩ := List.mem_iff_getElem?.mp hb
  rcases Nat.lt_trichotomy i j with h | h | h
  · have := r.get hi hj h; omega
  · subst h; rw [hi] at hj; exact Option.some.inj hj
  · have := r.get hj hi h; omega
/-- the lines behind it -/
theorem rest_line (W : WF Ks S) (n : Int) (k : Str) : lineAt (takeAll S (goM S)).brs n k = Kn S k n := by
  rw [takeAll_line]
  cases hb : aget S.brs n with
  | none =>
    have e1 : lineAt S.brs n k = [] := by unfold lineAt; rw [hb]
    have := Kn_sub S k n
    rw [e1] at this ⊢
    rw [List.sublist_nil.mp this]; rfl
  | some b =>
    have el := lineAt_of hb k
    have R := W.rise hb k
    rw [el]
    have nd : (b.line k).Nodup := R.imp fun {x y} lt e => by rw [e] at lt; omega
    have sb := Kn_sub S k n
    rw [el] at sb
    rw [← filter_of_sub sb nd]
    apply List.filter_congr
    intro c hc
    apply decide_eq_decide.mpr
    rw [gone_iff W hb hc]
    constructor
    · intro hn
      have : (aget (reasonsM S k) (n, c.1)).isSome = true := by
        cases e : aget (reasonsM S k) (n, c.1) with
        | none => exact absurd e hn
        | some y => rfl
      obtain ⟨d, hd, ed⟩ := (reason_iff W k hb c.1).mp this
      rw [← born_inj R (sb.subset hd) hc ed]; exact hd
    · intro hin hn
      have := (reason_iff W k hb c.1).mpr ⟨c, hin, rfl⟩
      rw [hn] at this; cases this
theorem newC_sub {l m : List Cel} (s : m.Sublist l) (r : Rise l) {x : Int} {c : Cel} (h : newC l x = some c) (hc : c ∈ m) : newC m x = some c := by
  have rm := rise_sub s r
  cases e : cnt l x with
  | zero => rw [newC_none.mpr e] at h; cases h
  | succ j =>
    obtain ⟨d, d1, d2, d3⟩ := newC_at r e
    rw [d2] at h
    obtain rfl := Option.some.inj h
    have hd : d ∈ m.filter fun c => decide (c.1 ≤ x) := List.mem_filter.mpr ⟨hc, decide_eq_true d3⟩
    have sf : (m.filter fun c => decide (c.1 ≤ x)).Sublist (l.filter fun c => decide (c.1 ≤ x)) := s.filter _
    unfold newC
    have el : l.filter (fun c => decide (c.1 ≤ x)) = l.take (j + 1) := by rw [filter_take r, e]
    have last : (l.take (j + 1)) = l.take j ++ [d] := take_snoc d1
    rw [el, last] at sf
    -- the last of m's is d, as d stands there and nothing stands behind it
    generalize hf : (m.filter fun c => decide (c.1 ≤ x)) = f at *
    cases hl : f.getLast? with
    | none => rw [List.getLast?_eq_none_iff.mp hl] at hd; cases hd
    | some y =>
      congr 1
      have hy : y ∈ f := List.mem_of_getLast? hl
      have rf : Rise f := by rw [← hf]; exact rise_sub (List.filter_sublist) rm
      have hyl : y ∈ l := by
        have : y ∈ l.take j ++ [d] := sf.subset hy
        rw [← last] at this
        exact List.mem_of_mem_take this
      have le1 : y.1 ≤ d.1 := by
        rcases List.mem_append.mp (sf.subset hy) with z | z
        · obtain ⟨i, hi⟩ := List.mem_iff_getElem?.mp z
          rw [List.getElem?_take] at hi
          by_cases lt : i < j
          · rw [if_pos lt] at hi
            exact Int.le_of_lt (r.get hi d1 lt)
          · rw [if_neg lt] at hi; cases hi
        · have : y = d := by simpa using z
          rw [this]; exact Int.le_refl _
      have le2 : d.1 ≤ y.1 := by
        obtain ⟨i, hi⟩ := List.mem_iff_getElem?.mp hd
        have hil := (List.getElem?_eq_some_iff.mp hi).1
        rw [List.getLast?_eq_getElem?] at hl
        by_cases e : i = f.length - 1
        · rw [e, hl] at hi; rw [Option.some.inj hi]; exact Int.le_refl _
        · exact Int.le_of_lt (rf.get hi hl (by omega))
      exact born_inj r hyl (List.mem_of_getElem? d1) (by omega)
theorem newC_no {l m : List Cel} (s : m.Sublist l) {x : Int} (h : newC l x = none) : newC m x = none := by
  unfold newC at *
  rw [List.getLast?_eq_none_iff] at *
  have := s.filter (fun c => decide (c.1 ≤ x))
  rw [h] at this
  exact List.sublist_nil.mp this
end
end Vs
namespace Vs
open PySem L2
structure Swept (Ks : List Str) (S S2 : Sh) : Prop where
  W : WF Ks S
  W2 : WF Ks S2
  br : ∀ n b2, aget S2.brs n = some b2 → ∃ b, aget S.brs n = some b ∧ b2.ben = b.ben ∧ b2.mom = b.mom ∧ ∀ k, b2.line k = Kn S k n
  vw : viewsM S2 = viewsM S
theorem keepL_app (k : Str) (n : Int) (ow : Int → Option Own) : ∀ (a b : List Cel) (be : Option Ver), ∃ r, keepL k n ow be (a ++ b) = keepL k n ow be a ++ r ∧ (r.map (·.1)).Sublist b
  | [], b, be => ⟨keepL k n ow be b, rfl, keepL_sub k n ow b be⟩
  | c :: a, b, be => by
    show ∃ r, keepL k n ow be (c :: (a ++ b)) = _ ∧ _
    unfold keepL
    cases h : reasonM k c.2 (ow c.1) be with
    | none => exact keepL_app k n ow a b be
    | some y =>
      obtain ⟨r, e, s⟩ := keepL_app k n ow a b (some (n, c.1, c.2))
      exact ⟨r, by dsimp only; rw [e]; rfl, s⟩
theorem keepL_no {k : Str} {n : Int} {ow : Int → Option Own} {be : Option Ver} {c : Cel} {l : List Cel} (h : reasonM k c.2 (ow c.1) be = none) : keepL k n ow be (c :: l) = keepL k n ow be l := by
  show (match reasonM k c.2 (ow c.1) be with | none => _ | some y => _) = _
  rw [h]
theorem keepL_yes {k : Str} {n : Int} {ow : Int → Option Own} {be : Option Ver} {c : Cel} {l : List Cel} {y : Rsn} (h : reasonM k c.2 (ow c.1) be = some y) : keepL k n ow be (c :: l) = (c, y) :: keepL k n ow (some (n, c.1, c.2)) l := by
  show (match reasonM k c.2 (ow c.1) be with | none => _ | some y => _) = _
  rw [h]
theorem reason_again {k : Str} {v : Option Int} {o1 o2 : Option Own} {be : Option Ver} {y : Rsn} (h : reasonM k v o1 be = some y) (h2 : o2.isSome = true) : ∃ y2, reasonM k v o2 be = some y2 := by
  cases o2 with
  | none => cases h2
  | some o2 =>
    cases o1 with
    | none => cases h
    | some o1 =>
      cases v with
      | some x => exact ⟨_, rfl⟩
      | none =>
        cases be with
        | none => cases h
        | some u =>
          obtain ⟨u1, u2, u3⟩ := u
          cases u3 with
          | none => cases h
          | some z => exact ⟨_, rfl⟩
theorem keepL_again (k : Str) (n : Int) (ow ow2 : Int → Option Own) : ∀ (l : List Cel) (be : Option Ver), (∀ c ∈ (keepL k n ow be l).map (·.1), (ow2 c.1).isSome = true) → (keepL k n ow2 be ((keepL k n ow be l).map (·.1))).map (·.1) = (keepL k n ow be l).map (·.1)
  | [], be, _ => rfl
  | c :: l, be, h => by
    cases hr : reasonM k c.2 (ow c.1) be with
    | none => rw [keepL_no hr] at h ⊢; exact keepL_again k n ow ow2 l be h
    | some y =>
      rw [keepL_yes hr] at h ⊢
      rw [List.map_cons] at h ⊢
      obtain ⟨y2, hy2⟩ := reason_again hr (h c List.mem_cons_self)
      rw [keepL_yes hy2, List.map_cons, keepL_again k n ow ow2 l (some (n, c.1, c.2)) fun d hd => h d (List.mem_cons_of_mem _ hd)]
theorem view_in {Ks : List Str} {S : Sh} (W : WF Ks S) {v : Own × Int × Int} (h : v ∈ viewsM S) : ∃ b, aget S.brs v.2.1 = some b := by
  unfold viewsM at h
  rcases List.mem_append.mp h with z | z
  · obtain ⟨p, hp, rfl⟩ := List.mem_map.mp z
    exact (W.hn p.1 p.2 (aget_of_mem (nodup_of_lt W.hks) hp)).2.2.1
  · obtain ⟨p, hp, rfl⟩ := List.mem_map.mp z
    exact ⟨p.2, aget_of_mem (nodup_of_lt W.bks) (List.mem_filter.mp hp).1⟩
section
variable {Ks : List Str} {S S2 : Sh}
theorem Swept.reach (Z : Swept Ks S S2) (k : Str) : ∀ (N : Nat) (q : Int), q.toNat < N → ∀ b2, aget S2.brs q = some b2 → ∀ m, reachS S2.brs k q m = match newC (Kn S k q) m with
    | some c => some (q, c.1, c.2)
    | none => belowKS S.brs k (ownersM S k) q
  | 0, q, h, _, _, _ => absurd h (Nat.not_lt_zero _)
  | N + 1, q, hN, b2, hb2, m => by
    obtain ⟨b, hb, e1, e2, e3⟩ := Z.br q b2 hb2
    rw [reachS_of Z.W2 k m hb2, e3 k]
    cases newC (Kn S k q) m with
    | some c => rfl
    | none =>
      dsimp only
      unfold belowS
      rw [belowKS_eq Z.W k _ hb, e1, e2]
      cases hp : b.ben with
      | none => rfl
      | some p =>
        dsimp only
        obtain ⟨lt, c2, hc2⟩ := Z.W2.ben q b2 p hb2 (by rw [e1]; exact hp)
        have p0 := (Z.W2.bnd p c2 hc2).1
        exact Swept.reach Z k N p (by omega) c2 hc2 b.mom
/-- what a view of the swept shelf comes to -/
theorem Swept.view (Z : Swept Ks S S2) (k : Str) : ∀ (N : Nat) (n : Int), n.toNat < N → ∀ b2, aget S2.brs n = some b2 → ∀ m, (reachS S.brs k n m = none → reachS S2.brs k n m = none) ∧
    ∀ w, reachS S.brs k n m = some w → (aget (ownersM S k) (w.1, w.2.1)).isSome = true → (reachS S2.brs k n m).bind (·.2.2) = w.2.2 ∧ ((∃ c ∈ Kn S k w.1, c.1 = w.2.1) → reachS S2.brs k n m = some w)
  | 0, _, h, _, _, _ => absurd h (Nat.not_lt_zero _)
  | N + 1, n, hN, b2, hb2, m => by
    obtain ⟨b, hb, e1, e2, e3⟩ := Z.br n b2 hb2
    have R := Z.W.rise hb k
    have sb := Kn_sub S k n
    rw [lineAt_of hb] at sb
    have hS := reachS_of Z.W k m hb
    have hS2 := reachS_of Z.W2 k m hb2
    rw [e3 k] at hS2
    cases hc : newC (b.line k) m with
    | none =>
      rw [hc] at hS
      rw [newC_no sb hc] at hS2
      dsimp only at hS hS2
      rw [hS, hS2]
      unfold belowS
      rw [e1, e2]
      cases hp : b.ben with
      | none => exact ⟨fun _ => rfl, fun w hw => by cases hw⟩
      | some p =>
        dsimp only
        obtain ⟨lt, c2, hc2⟩ := Z.W2.ben n b2 p hb2 (by rw [e1]; exact hp)
        have p0 := (Z.W2.bnd p c2 hc2).1
        exact Swept.view Z k N p (by omega) c2 hc2 b.mom
    | some c =>
      rw [hc] at hS
      dsimp only at hS
      refine ⟨fun z => (by rw [hS] at z; cases z), fun w hw ho => ?_⟩
      rw [hS] at hw
      obtain rfl := Option.some.inj hw
      dsimp only at ho ⊢
      by_cases hin : c ∈ Kn S k n
      · rw [newC_sub sb R hc hin] at hS2
        dsimp only at hS2
        rw [hS2]
        exact ⟨rfl, fun _ => rfl⟩
      · refine ⟨?_, fun ⟨d, hd, ed⟩ => absurd (born_inj R (sb.subset hd) (by
          have := List.mem_of_getLast? (show ((b.line k).filter fun c => decide (c.1 ≤ m)).getLast? = some c from hc)
          exact (List.mem_filter.mp this).1) ed ▸ hd) hin⟩
        -- the place of c in its line
        cases hcn : cnt (b.line k) m with
        | zero => rw [newC_none.mpr hcn] at hc; cases hc
        | succ i =>
          obtain ⟨d, d1, d2, d3⟩ := newC_at R hcn
          rw [d2] at hc
          obtain rfl := Option.some.inj hc
          have hil := (List.getElem?_eq_some_iff.mp d1).1
          have eK : keptB S.brs k (ownersM S k) n = keepL k n (owOf (ownersM S k) n) (belowKS S.brs k (ownersM S k) n) (b.line k) := by rw [keptB_eq, lineAt_of hb]
          have split : b.line k = (b.line k).take (i + 1) ++ (b.line k).drop (i + 1) := (List.take_append_drop _ _).symm
          generalize hbe : belowKS S.brs k (ownersM S k) n = be at *
          generalize hkp : keepL k n (owOf (ownersM S k) n) be ((b.line k).take i) = kp
          obtain ⟨r, er, sr⟩ := keepL_app k n (owOf (ownersM S k) n) ((b.line k).take (i + 1)) ((b.line k).drop (i + 1)) be
          rw [← split, ← eK] at er
          have sn := keepL_snoc k n (owOf (ownersM S k) n) ((b.line k).take i) be d
          rw [← take_snoc d1, hkp] at sn
          have none_ : reasonM k d.2 (owOf (ownersM S k) n d.1) (lastB n be kp) = none := by
            cases hr : reasonM k d.2 (owOf (ownersM S k) n d.1) (lastB n be kp) with
            | none => rfl
            | some y =>
              rw [hr] at sn
              exfalso
              apply hin
              show d ∈ (keptB S.brs k (ownersM S k) n).map (·.1)
              rw [er, sn]
              simp
          rw [none_] at sn
          dsimp only at sn
          rw [List.append_nil] at sn
          rw [sn] at er
          have eKn : Kn S k n = kp.map (·.1) ++ r.map (·.1) := by show (keptB S.brs k (ownersM S k) n).map (·.1) = _; rw [er, List.map_append]
          have kpl : ∀ x ∈ kp.map (·.1), x.1 ≤ m := fun x hx => by
            have hx : x ∈ (b.line k).take i := by rw [← hkp] at hx; exact (keepL_sub k n _ _ _).subset hx
            obtain ⟨j, hj⟩ := List.mem_iff_getElem?.mp hx
            rw [List.getElem?_take] at hj
            by_cases lt : j < i
            · rw [if_pos lt] at hj
              have := R.get hj d1 lt
              omega
            · rw [if_neg lt] at hj; cases hj
          have rl : ∀ x ∈ r.map (·.1), ¬ x.1 ≤ m := fun x hx => by
            have hx := sr.subset hx
            obtain ⟨j, hj⟩ := List.mem_iff_getElem?.mp hx
            rw [List.getElem?_drop] at hj
            intro le
            have hlt := (List.getElem?_eq_some_iff.mp hj).1
            have mem : x ∈ (b.line k).filter fun c => decide (c.1 ≤ m) := List.mem_filter.mpr ⟨List.mem_of_getElem? hj, decide_eq_true le⟩
            rw [filter_take R, hcn] at mem
            obtain ⟨j', hj'⟩ := List.mem_iff_getElem?.mp mem
            rw [List.getElem?_take] at hj'
            by_cases lt : j' < i + 1
            · rw [if_pos lt] at hj'
              have := R.get hj' hj (by omega)
              omega
            · rw [if_neg lt] at hj'; cases hj'
          have eN : newC (Kn S k n) m = (kp.map (·.1)).getLast? := by
            unfold newC
            rw [eKn, List.filter_append, List.filter_eq_self.mpr (fun x hx => decide_eq_true (kpl x hx)), List.filter_eq_nil_iff.mpr (fun x hx => by simpa using rl x hx), List.append_nil]
          have hR := Swept.reach Z k (N + 1) n hN b2 hb2 m
          rw [eN, hbe] at hR
          have eL : reachS S2.brs k n m = lastB n be kp := by
            rw [hR]
            unfold lastB
            rw [List.getLast?_map]
            cases kp.getLast? <;> rfl
          rw [eL]
          -- why it does not stay
          unfold owOf at none_
          cases ho' : aget (ownersM S k) (n, d.1) with
          | none => rw [ho'] at ho; cases ho
          | some o =>
            rw [ho'] at none_
            unfold reasonM at none_
            dsimp only at none_
            cases hv : d.2 with
            | some v => rw [hv] at none_; cases none_
            | none =>
              rw [hv] at none_
              dsimp only at none_
              cases hb' : lastB n be kp with
              | none => rfl
              | some u =>
                obtain ⟨u1, u2, u3⟩ := u
                rw [hb'] at none_
                cases u3 with
                | none => rfl
                | some x => cases none_
/-- each of somebody's views sees what it saw -/
theorem Swept.sees (Z : Swept Ks S S2) {v : Own × Int × Int} (hv : v ∈ viewsM S) (k : Str) : seesM S2 k v.2.1 v.2.2 = seesM S k v.2.1 v.2.2 := by
  obtain ⟨b2, hb2⟩ := view_in Z.W2 (by rw [Z.vw]; exact hv)
  obtain ⟨h1, h2⟩ := Z.view k _ v.2.1 (Nat.lt_succ_self _) b2 hb2 v.2.2
  unfold seesM
  cases hr : reachS S.brs k v.2.1 v.2.2 with
  | none => rw [h1 hr]
  | some w => exact (h2 w hr (owned.mpr ⟨v, hv, w, hr, rfl⟩)).1
theorem Swept.owner (Z : Swept Ks S S2) {k : Str} {n : Int} {c : Cel} (h : c ∈ Kn S k n) : (aget (ownersM S2 k) (n, c.1)).isSome = true := by
  obtain ⟨v, hv, w, hr, ew⟩ := owned.mp (owner_kept h)
  obtain ⟨b2, hb2⟩ := view_in Z.W2 (by rw [Z.vw]; exact hv)
  have e1 : w.1 = n := congrArg Prod.fst ew
  have e2 : w.2.1 = c.1 := congrArg Prod.snd ew
  have := ((Z.view k _ v.2.1 (Nat.lt_succ_self _) b2 hb2 v.2.2).2 w hr (owned.mpr ⟨v, hv, w, hr, rfl⟩)).2 ⟨c, by rw [e1]; exact h, e2.symm⟩
  exact owned.mpr ⟨v, by rw [Z.vw]; exact hv, w, this, ew⟩
theorem Swept.kept (Z : Swept Ks S S2) (k : Str) : ∀ (N : Nat) (n : Int), n.toNat < N → ∀ b2, aget S2.brs n = some b2 → Kn S2 k n = Kn S k n ∧ belowKS S2.brs k (ownersM S2 k) n = belowKS S.brs k (ownersM S k) n
  | 0, _, h, _, _ => absurd h (Nat.not_lt_zero _)
  | N + 1, n, hN, b2, hb2 => by
    obtain ⟨b, hb, e1, e2, e3⟩ := Z.br n b2 hb2
    have hbel : belowKS S2.brs k (ownersM S2 k) n = belowKS S.brs k (ownersM S k) n := by
      rw [belowKS_eq Z.W2 k _ hb2, belowKS_eq Z.W k _ hb, e1, e2]
      cases hp : b.ben with
      | none => rfl
      | some p =>
        dsimp only
        obtain ⟨lt, c2, hc2⟩ := Z.W2.ben n b2 p hb2 (by rw [e1]; exact hp)
        have p0 := (Z.W2.bnd p c2 hc2).1
        obtain ⟨k1, k2⟩ := Swept.kept Z k N p (by omega) c2 hc2
        have k1 : (keptB S2.brs k (ownersM S2 k) p).map (·.1) = (keptB S.brs k (ownersM S k) p).map (·.1) := k1
        rw [k1, k2]
    refine ⟨?_, hbel⟩
    show (keptB S2.brs k (ownersM S2 k) n).map (·.1) = _
    rw [keptB_eq, hbel, lineAt_of hb2, e3 k]
    have eK : Kn S k n = (keepL k n (owOf (ownersM S k) n) (belowKS S.brs k (ownersM S k) n) (lineAt S.brs n k)).map (·.1) := rfl
    rw [eK]
    exact keepL_again k n _ _ _ _ fun c hc => Z.owner (n := n) (by rw [eK]; exact hc)
/-- nothing goes any more -/
theorem Swept.idem (Z : Swept Ks S S2) : goM S2 = [] := by
  have all : ∀ v ∈ versM S2.brs, isUn S2 v = false ∧ isBa S2 v = false := fun v hv => by
    obtain ⟨c, hc, ec⟩ := versM_mem Z.W2 hv
    cases hb2 : aget S2.brs v.1 with
    | none => unfold lineAt at hc; rw [hb2] at hc; cases hc
    | some b2 =>
      obtain ⟨b, hb, _, _, e3⟩ := Z.br v.1 b2 hb2
      rw [lineAt_of hb2, e3] at hc
      have o := Z.owner hc
      have r : (aget (reasonsM S2 v.2.1) (v.1, c.1)).isSome = true := (reason_iff Z.W2 v.2.1 hb2 c.1).mpr ⟨c, by rw [(Z.kept v.2.1 _ v.1 (Nat.lt_succ_self _) b2 hb2).1]; exact hc, rfl⟩
      rw [ec] at o r
      unfold isBa isUn
      cases h1 : aget (ownersM S2 v.2.1) (v.1, v.2.2.1) with
      | none => rw [h1] at o; cases o
      | some x =>
        cases h2 : aget (reasonsM S2 v.2.1) (v.1, v.2.2.1) with
        | none => rw [h2] at r; cases r
        | some y => exact ⟨rfl, rfl⟩
  unfold goM unOf baOf
  rw [List.filter_eq_nil_iff.mpr fun v hv => by rw [(all v hv).1]; decide, List.filter_eq_nil_iff.mpr fun v hv => by rw [(all v hv).2]; decide]
  rfl
end
end Vs
/-! ## Marks and branches that go -/
namespace Vs
open PySem L2
def core (b : Br) : Option Int × Int × Bool × List (Str × List Cel) := (b.ben, b.mom, b.alive, b.lines)
theorem mkS_core (fm : List (Int × Int)) (now : Int) (S : Sh) (n m : Int) : (aget (mkS fm now S n).brs m).map core = (aget S.brs m).map core := by
  unfold mkS
  cases e : aget S.brs n with
  | none => rfl
  | some b =>
    dsimp only
    rw [setBr_get]
    by_cases q : m = n
    · rw [if_pos q, q, e]; rfl
    · rw [if_neg q]
theorem takeM_core (S : Sh) (m : Int) : (aget S.takeM.brs m).map core = (aget S.brs m).map core := by
  unfold Sh.takeM Sh.markTo
  generalize S.brs.map (·.1) = ns
  generalize firstM S.hns = fm
  generalize S.now = now
  induction ns generalizing S with
  | nil => rfl
  | cons n ns ih => rw [List.foldl_cons, ih, mkS_core]
theorem marks_rest (fm : List (Int × Int)) (now : Int) : ∀ (ns : List Int) (S : Sh), (ns.foldl (mkS fm now) S).hns = S.hns ∧ (ns.foldl (mkS fm now) S).now = S.now ∧ (ns.foldl (mkS fm now) S).brs.map (·.1) = S.brs.map (·.1)
  | [], S => ⟨rfl, rfl, rfl⟩
  | n :: ns, S => by
    obtain ⟨a, b, c⟩ := marks_rest fm now ns (mkS fm now S n)
    obtain ⟨a', b'⟩ := mkS_hns fm now S n
    exact ⟨a.trans a', b.trans b', c.trans (mkS_keys fm now S n)⟩
theorem takeM_rest (S : Sh) : S.takeM.hns = S.hns ∧ S.takeM.now = S.now ∧ S.takeM.brs.map (·.1) = S.brs.map (·.1) := marks_rest _ _ _ S
/-! ### take_branches -/
structure GoI (S : Sh) (R : List Int) (i : Nat) (st : List Int × Sh) : Prop where
  off : ∀ n, n ∉ R.take i → aget st.2.brs n = aget S.brs n
  sub : ∀ n b, aget st.2.brs n = some b → aget S.brs n = some b
  del : ∀ n b, aget S.brs n = some b → aget st.2.brs n = none → b.alive = false ∧ b.lines = [] ∧ n ∉ S.hns.map (·.2.br)
  hs : ∀ n, n ∈ S.hns.map (·.2.br) → n ∈ st.1
  cl : ∀ n b, n ∈ R.take i → aget st.2.brs n = some b → ∀ q, b.ben = some q → (q ∈ st.1 ∧ q ∉ R.take i) ∨ aget st.2.brs q = aget S.brs q ∧ q ∈ R.take i
  keys : (st.2.brs.map (·.1)).Sublist (S.brs.map (·.1))
  rest : st.2.hns = S.hns ∧ st.2.now = S.now ∧ st.2.bm = S.bm ∧ st.2.hm = S.hm
  subl : st.2.brs.Sublist S.brs
theorem go_step {Ks : List Str} {S : Sh} (W : WF Ks S) {R : List Int} (hR : R.Pairwise (· > ·)) {i : Nat} {n : Int} (hn : R[i]? = some n) {st : List Int × Sh} (g : GoI S R i st) : GoI S R (i + 1) (goB st n) := by
  have nin : n ∉ R.take i := fun z => by
    obtain ⟨j, hj⟩ := List.mem_iff_getElem?.mp z
    rw [List.getElem?_take] at hj
    by_cases lt : j < i
    · rw [if_pos lt] at hj
      obtain ⟨j1, j2⟩ := List.getElem?_eq_some_iff.mp hj
      obtain ⟨i1, i2⟩ := List.getElem?_eq_some_iff.mp hn
      have := (List.pairwise_iff_getElem.mp hR) j i j1 i1 lt
      omega
    · rw [if_neg lt] at hj; cases hj
  have big : ∀ m ∈ R.take (i + 1), n ≤ m := fun m hm => by
    obtain ⟨j, hj⟩ := List.mem_iff_getElem?.mp hm
    rw [List.getElem?_take] at hj
    by_cases lt : j < i + 1
    · rw [if_pos lt] at hj
      obtain ⟨j1, j2⟩ := List.getElem?_eq_some_iff.mp hj
      obtain ⟨i1, i2⟩ := List.getElem?_eq_some_iff.mp hn
      by_cases e : j = i
      · subst e; omega
      · have := (List.pairwise_iff_getElem.mp hR) j i j1 i1 (by omega)
        omega
    · rw [if_neg lt] at hj; cases hj
  have tk := take_snoc hn
  have memS : ∀ m, m ∈ R.take (i + 1) ↔ m ∈ R.take i ∨ m = n := fun m => by rw [tk, List.mem_append, List.mem_singleton]
  unfold goB
  cases e : aget st.2.brs n with
  | none =>
    dsimp only
    refine ⟨fun m hm => g.off m fun z => hm ((memS m).mpr (.inl z)), g.sub, g.del, g.hs, fun m b hm hb q hq => ?_, g.keys, g.rest, g.subl⟩
    rcases (memS m).mp hm with z | z
    · rcases g.cl m b z hb q hq with ⟨h1, h2⟩ | ⟨h1, h2⟩
      · by_cases qn : q = n
        · subst qn
          exact .inr ⟨g.off q h2, (memS q).mpr (.inr rfl)⟩
        · exact .inl ⟨h1, fun y => ((memS q).mp y).elim h2 qn⟩
      · exact .inr ⟨h1, (memS q).mpr (.inl h2)⟩
    · rw [z, e] at hb; cases hb
  | some b0 =>
    dsimp only
    have hb0 := g.sub n b0 e
    by_cases c : b0.alive = true ∨ b0.lines ≠ [] ∨ n ∈ st.1
    · rw [if_pos c]
      refine ⟨fun m hm => g.off m fun z => hm ((memS m).mpr (.inl z)), g.sub, g.del, fun m hm => List.mem_append.mpr (.inr (g.hs m hm)), fun m b hm hb q hq => ?_, g.keys, g.rest, g.subl⟩
      rcases (memS m).mp hm with z | z
      · rcases g.cl m b z hb q hq with ⟨h1, h2⟩ | ⟨h1, h2⟩
        · by_cases qn : q = n
          · subst qn
            exact .inr ⟨g.off q h2, (memS q).mpr (.inr rfl)⟩
          · exact .inl ⟨List.mem_append.mpr (.inr h1), fun y => ((memS q).mp y).elim h2 qn⟩
        · exact .inr ⟨h1, (memS q).mpr (.inl h2)⟩
      · subst z
        have hb : aget st.2.brs m = some b := hb
        rw [e] at hb
        obtain rfl := Option.some.inj hb
        have lt := (W.ben m b0 q hb0 hq).1
        refine .inl ⟨List.mem_append.mpr (.inl (by rw [hq]; simp)), fun y => ?_⟩
        have := big q y
        omega
    · rw [if_neg c]
      have c1 : b0.alive = false := by
        cases h : b0.alive with
        | false => rfl
        | true => exact absurd (.inl h) c
      have c2 : b0.lines = [] := Classical.byContradiction fun z => c (.inr (.inl z))
      have c3 : n ∉ st.1 := fun z => c (.inr (.inr z))
      have gd : ∀ m, aget (adel st.2.brs n) m = if m = n then none else aget st.2.brs m := fun m => aget_del _ _ _
      refine ⟨fun m hm => ?_, fun m b hb => ?_, fun m b hb hd => ?_, g.hs, fun m b hm hb q hq => ?_, ?_, g.rest, List.filter_sublist.trans g.subl⟩
      · show aget (adel st.2.brs n) m = _
        have : m ≠ n := fun z => hm ((memS m).mpr (.inr z))
        rw [gd, if_neg this]
        exact g.off m fun z => hm ((memS m).mpr (.inl z))
      · have hb : aget (adel st.2.brs n) m = some b := hb
        exact g.sub m b (del_old hb).1
      · have hd : aget (adel st.2.brs n) m = none := hd
        rw [gd] at hd
        by_cases z : m = n
        · subst z
          rw [hb0] at hb
          obtain rfl := Option.some.inj hb
          exact ⟨c1, c2, fun y => c3 (g.hs m y)⟩
        · rw [if_neg z] at hd; exact g.del m b hb hd
      · have hb : aget (adel st.2.brs n) m = some b := hb
        obtain ⟨hb, mn⟩ := del_old hb
        rcases (memS m).mp hm with z | z
        · rcases g.cl m b z hb q hq with ⟨h1, h2⟩ | ⟨h1, h2⟩
          · by_cases qn : q = n
            · subst qn; exact absurd h1 c3
            · exact .inl ⟨h1, fun y => ((memS q).mp y).elim h2 qn⟩
          · refine .inr ⟨?_, (memS q).mpr (.inl h2)⟩
            show aget (adel st.2.brs n) q = _
            have : q ≠ n := fun z => nin (z ▸ h2)
            rw [gd, if_neg this]; exact h1
        · exact absurd z mn
      · exact (List.filter_sublist.map _).trans g.keys
theorem goTo_all {Ks : List Str} {S : Sh} (W : WF Ks S) {R : List Int} (hR : R.Pairwise (· > ·)) : ∀ i, i ≤ R.length → GoI S R i (S.goTo (R.take i))
  | 0, _ => ⟨fun _ _ => rfl, fun _ _ h => h, fun n b h h' => (by rw [show aget (S.goTo (R.take 0)).2.brs n = aget S.brs n from rfl, h] at h'; cases h'), fun _ h => h, fun n b h => (by rw [List.take_zero] at h; cases h), List.Sublist.refl _, ⟨rfl, rfl, rfl, rfl⟩, List.Sublist.refl _⟩
  | i + 1, hi => by
    have hn : R[i]? = some R[i] := List.getElem?_eq_getElem (by omega)
    rw [goTo_snoc S hn]
    exact go_step W hR hn (goTo_all W hR i (by omega))
structure TakenB (S S2 : Sh) : Prop where
  sub : ∀ n b, aget S2.brs n = some b → aget S.brs n = some b
  del : ∀ n b, aget S.brs n = some b → aget S2.brs n = none → b.alive = false ∧ b.lines = [] ∧ n ∉ S.hns.map (·.2.br)
  cl : ∀ n b, aget S2.brs n = some b → ∀ q, b.ben = some q → ∃ c, aget S2.brs q = some c
  rest : S2.hns = S.hns ∧ S2.now = S.now ∧ S2.bm = S.bm ∧ S2.hm = S.hm
  subl : S2.brs.Sublist S.brs
theorem takeB_is {Ks : List Str} {S : Sh} (W : WF Ks S) : TakenB S S.takeB := by
  have hR : ((S.brs.map (·.1)).reverse).Pairwise (· > ·) := by rw [List.pairwise_reverse]; exact W.bks
  have g := goTo_all W hR _ (Nat.le_refl _)
  rw [List.take_length] at g
  refine ⟨g.sub, g.del, fun n b hb q hq => ?_, g.rest, g.subl⟩
  have hb' := g.sub n b hb
  obtain ⟨_, c, hc⟩ := W.ben n b q hb' hq
  have inR : ∀ m x, aget S.brs m = some x → m ∈ (S.brs.map (·.1)).reverse := fun m x h => List.mem_reverse.mpr (aget_key h)
  rcases g.cl n b (by rw [List.take_length]; exact inR n b hb') hb q hq with ⟨_, h⟩ | ⟨h, _⟩
  · exact absurd (inR q c hc) (by rw [List.take_length] at h; exact h)
  · exact ⟨c, h.trans hc⟩
theorem WF.takenB {Ks : List Str} {S S2 : Sh} (W : WF Ks S) (t : TakenB S S2) (a0 : ∀ b, aget S.brs 0 = some b → b.alive = true) : WF Ks S2 := by
  obtain ⟨e1, e2, e3, e4⟩ := t.rest
  constructor
  · exact W.bks.sublist (t.subl.map _)
  · obtain ⟨b, hb⟩ := W.b0
    cases h : aget S2.brs 0 with
    | some c => exact ⟨c, rfl⟩
    | none => have := (t.del 0 b hb h).1; rw [a0 b hb] at this; cases this
  · exact fun n b h => W.root n b (t.sub n b h)
  · exact fun n b q h hq => ⟨(W.ben n b q (t.sub n b h) hq).1, t.cl n b h q hq⟩
  · rw [e2, e3]; exact fun n b h => W.bnd n b (t.sub n b h)
  · exact fun n b h => W.lks n b (t.sub n b h)
  · rw [e2]; exact fun n b k l h hl => W.ln n b k l (t.sub n b h) hl
  · exact fun n b h => W.mks n b (t.sub n b h)
  · rw [e2]; exact fun n b k m h hm => W.mkb n b k m (t.sub n b h) hm
  · rw [e1]; exact W.hks
  · rw [e1, e2, e4]
    intro n h hh
    obtain ⟨a, b, ⟨c, hc⟩, d⟩ := W.hn n h hh
    refine ⟨a, b, ?_, d⟩
    cases z : aget S2.brs h.br with
    | some x => exact ⟨x, rfl⟩
    | none => exact absurd (List.mem_map.mpr ⟨(n, h), aget_mem hh, rfl⟩) (t.del h.br c hc z).2.2
  · rw [e1]; exact W.dks
  · exact W.key
  · exact W.pool
  · rw [e2, e3, e4]; exact W.sz
  · exact ⟨by rw [e1]; exact W.cap.h, Nat.le_trans t.subl.length_le W.cap.b, fun n b k l h hl => W.cap.l n b k l (t.sub n b h) hl⟩
theorem viewsM_takenB {Ks : List Str} {S S2 : Sh} (W : WF Ks S) (W2 : WF Ks S2) (t : TakenB S S2) : viewsM S2 = viewsM S := by
  unfold viewsM
  rw [t.rest.1, t.rest.2.1]
  congr 1
  congr 1
  -- the alive ones are all there
  have nd : (S.brs.map (·.1)).Nodup := nodup_of_lt W.bks
  have gen : ∀ {l m : List (Int × Br)}, m.Sublist l → (∀ p ∈ l, p ∉ m → p.2.alive = false) → (l.map (·.1)).Nodup → (m.filter fun p => p.2.alive) = l.filter fun p => p.2.alive := by
    intro l m s
    induction s with
    | slnil => intro _ _; rfl
    | @cons m' l' a s ih =>
      intro h n
      rw [List.map_cons] at n
      obtain ⟨n1, n2⟩ := List.nodup_cons.mp n
      have na : a ∉ m' := fun z => n1 (List.mem_map.mpr ⟨a, s.subset z, rfl⟩)
      rw [List.filter_cons, if_neg (by rw [h a List.mem_cons_self na]; decide)]
      exact ih (fun p hp hn => h p (List.mem_cons_of_mem _ hp) hn) n2
    | @cons_cons m' l' a s ih =>
      intro h n
      rw [List.map_cons] at n
      obtain ⟨n1, n2⟩ := List.nodup_cons.mp n
      rw [List.filter_cons, List.filter_cons, ih (fun p hp hn => h p (List.mem_cons_of_mem _ hp) fun z => by
        rcases List.mem_cons.mp z with y | y
        · exact n1 (y ▸ List.mem_map.mpr ⟨p, hp, rfl⟩)
        · exact hn y) n2]
  refine gen t.subl (fun p hp hn => ?_) nd
  have hb : aget S.brs p.1 = some p.2 := aget_of_mem nd hp
  cases z : aget S2.brs p.1 with
  | none => exact (t.del p.1 p.2 hb z).1
  | some x =>
    have := t.sub p.1 x z
    rw [hb] at this
    obtain rfl := Option.some.inj this
    exact absurd (aget_mem z) hn
theorem takeAll_br {S : Sh} (gs : List Gon) : ∀ (S : Sh) (n : Int), (aget (takeAll S gs).brs n).map (fun b => (b.ben, b.mom, b.alive, b.marks)) = (aget S.brs n).map (fun b => (b.ben, b.mom, b.alive, b.marks)) := by
  induction gs with
  | nil => intro S n; rfl
  | cons g gs ih =>
    intro S n
    show (aget (takeAll (S.takeV g.1.1 g.1.2.1 g.1.2.2.1) gs).brs n).map _ = _
    rw [ih, takeV_get]
    by_cases q : n = g.1.1
    · rw [if_pos q, q]; cases aget S.brs g.1.1 <;> rfl
    · rw [if_neg q]
theorem takeAll_keys (gs : List Gon) : ∀ (S : Sh), (takeAll S gs).brs.map (·.1) = S.brs.map (·.1) := by
  induction gs with
  | nil => intro S; rfl
  | cons g gs ih => intro S; show (takeAll (S.takeV _ _ _) gs).brs.map (·.1) = _; rw [ih, takeV_keys]
theorem views_by {S S1 : Sh} (h : S1.hns = S.hns) (h2 : S1.now = S.now) (k : S1.brs.map (·.1) = S.brs.map (·.1)) (nd : (S.brs.map (·.1)).Nodup) (a : ∀ n, (aget S1.brs n).map (·.alive) = (aget S.brs n).map (·.alive)) : viewsM S1 = viewsM S := by
  unfold viewsM
  rw [h, h2]
  congr 1
  have nd1 : (S1.brs.map (·.1)).Nodup := by rw [k]; exact nd
  have key : ∀ {T : Sh}, (T.brs.map (·.1)).Nodup → (T.brs.filter fun p => p.2.alive).map (fun p => ((("head" : Str), p.1), p.1, S.now)) = ((T.brs.map (·.1)).filter fun n => ((aget T.brs n).map (·.alive)).getD false).map fun n => ((("head" : Str), n), n, S.now) := fun {T} nd => by
    rw [List.filter_map, List.map_map]
    have : T.brs.filter (fun p => p.2.alive) = T.brs.filter ((fun n => ((aget T.brs n).map (·.alive)).getD false) ∘ fun x => x.1) := by
      apply List.filter_congr
      intro p hp
      show _ = ((aget T.brs p.1).map (·.alive)).getD false
      rw [aget_of_mem nd (show (p.1, p.2) ∈ T.brs from hp)]; rfl
    rw [this]; rfl
  rw [key nd1, key nd, k]
  congr 1
  apply List.filter_congr
  intro n _
  rw [a n]
/-- a sweep of all -/
theorem swept_all {Ks : List Str} {S : Sh} (W : WF Ks S) (a0 : ∀ b, aget S.brs 0 = some b → b.alive = true) {m : Nat} (hm : (goM S).length ≤ m) : Swept Ks S (S.sweepTo m) ∧ (S.sweepTo m).hns = S.hns ∧ (S.sweepTo m).now = S.now ∧ TakenB (takeAll S (goM S)).takeM (S.sweepTo m) := by
  have eS : S.sweepTo m = (takeAll S (goM S)).takeM.takeB := by unfold Sh.sweepTo; rw [List.take_of_length_le hm]
  rw [eS]
  have W1 := W.takeAll (goM S)
  have W2 := W1.takeM
  have t := takeB_is W2
  obtain ⟨h1, h2, h3, h4⟩ := takeAll_hns (goM S) S
  obtain ⟨g1, g2, g3⟩ := takeM_rest (takeAll S (goM S))
  -- a branch of the shelf behind, and of the one ahead
  have both : ∀ n b2, aget (takeAll S (goM S)).takeM.brs n = some b2 → ∃ b, aget S.brs n = some b ∧ b2.ben = b.ben ∧ b2.mom = b.mom ∧ b2.alive = b.alive ∧ ∀ k, b2.line k = Kn S k n := fun n b2 hb2 => by
    have c1 := takeM_core (takeAll S (goM S)) n
    rw [hb2] at c1
    cases hb1 : aget (takeAll S (goM S)).brs n with
    | none => rw [hb1] at c1; cases c1
    | some b1 =>
      rw [hb1] at c1
      have c1 : core b2 = core b1 := Option.some.inj c1
      have c2 := takeAll_br (S := S) (goM S) S n
      rw [hb1] at c2
      cases hb : aget S.brs n with
      | none => rw [hb] at c2; cases c2
      | some b =>
        rw [hb] at c2
        have c2 : (b1.ben, b1.mom, b1.alive, b1.marks) = (b.ben, b.mom, b.alive, b.marks) := Option.some.inj c2
        have d1 : b2.ben = b1.ben := congrArg (fun t => t.1) c1
        have d2 : b2.mom = b1.mom := congrArg (fun t => t.2.1) c1
        have d3 : b2.alive = b1.alive := congrArg (fun t => t.2.2.1) c1
        have d4 : b2.lines = b1.lines := congrArg (fun t => t.2.2.2) c1
        refine ⟨b, rfl, d1.trans (congrArg (fun t => t.1) c2), d2.trans (congrArg (fun t => t.2.1) c2), d3.trans (congrArg (fun t => t.2.2.1) c2), fun k => ?_⟩
        rw [← rest_line W n k, lineAt_of hb1]
        unfold Br.line; rw [d4]
  have a2 : ∀ b, aget (takeAll S (goM S)).takeM.brs 0 = some b → b.alive = true := fun b hb => by
    obtain ⟨b0, h0, _, _, e, _⟩ := both 0 b hb
    rw [e]; exact a0 b0 h0
  have W3 := W2.takenB t a2
  have v1 : viewsM (takeAll S (goM S)).takeM = viewsM S := by
    refine views_by (g1.trans h1) (g2.trans h2) (g3.trans (takeAll_keys _ _)) (nodup_of_lt W.bks) fun n => ?_
    cases hb2 : aget (takeAll S (goM S)).takeM.brs n with
    | none =>
      have c1 := takeM_core (takeAll S (goM S)) n
      rw [hb2] at c1
      have c2 := takeAll_br (S := S) (goM S) S n
      cases hb1 : aget (takeAll S (goM S)).brs n with
      | some x => rw [hb1] at c1; cases c1
      | none =>
        rw [hb1] at c2
        cases hb : aget S.brs n with
        | none => rfl
        | some y => rw [hb] at c2; cases c2
    | some b2 =>
      obtain ⟨b, hb, _, _, e, _⟩ := both n b2 hb2
      rw [hb]
      exact congrArg some e
  refine ⟨⟨W, W3, fun n b2 h => ?_, (viewsM_takenB W2 W3 t).trans v1⟩, t.rest.1.trans (g1.trans h1), t.rest.2.1.trans (g2.trans h2), t⟩
  obtain ⟨b, hb, e1, e2, _, e4⟩ := both n b2 (t.sub n b2 h)
  exact ⟨b, hb, e1, e2, e4⟩
end Vs
/-! ## A new branch, in the heap -/
namespace Vs
open PySem L2
section
variable {T : Cs} {H H' : Hp} {S S' : Sh} {α α' : Rl → Addr} {δ δ' : Dl} {J J' : List Str} {G G' : Jud}
def aBr (α : Rl → Addr) (n : Int) (x l m : Addr) : Rl → Addr
  | .br j => if j = n then x else α (.br j)
  | .lns j => if j = n then l else α (.lns j)
  | .mks j => if j = n then m else α (.mks j)
  | r => α r
theorem Lay.newBr (L : Lay T H S α δ J G) {n mom : Int} {be : Option Int} (hn : aget S.brs n = none) (hz : δ.fz n = none) {x dx l m : Addr} (hx : H x = none) (hl : H l = none) (hm : H m = none) (nxl : x ≠ l) (nxm : x ≠ m) (nlm : l ≠ m) {H1 : Hp}
    (k1 : ∀ b o, H b = some o → H1 b = some o) (h1 : H1 x = some (.ins T.B dx [("beneath", optV be), ("moment", .int mom), ("alive", .bl true), ("lines", .ref l), ("marks", .ref m)])) (h2 : H1 l = some (.dK [])) (h3 : H1 m = some (.dK [])) :
    Mv T H S α J (upd H1 (α .brs) (.dK (putK (enc .inl (fun n _ => .ref (α (.br n))) S.brs) (.inl n) (.ref x)))) { S with brs := S.brs ++ [(n, ⟨be, mom, true, [], []⟩)] } (aBr α n x l m) ⟨fun r => if r = .br n then dx else δ r, δ.fz⟩ J G := by
  have nf : ∀ r p, Live S J r → H p = none → α r ≠ p := fun r p hr hp => L.nofr hp hr
  have tp : Tups H (upd H1 (α .brs) (.dK (putK (enc .inl (fun n _ => .ref (α (.br n))) S.brs) (.inl n) (.ref x)))) := fun a xs h => by
    rw [upd_ne (L.notup (r := .brs) trivial h)]; exact k1 _ _ h
  have got : ∀ j b, aget (S.brs ++ [(n, (⟨be, mom, true, [], []⟩ : Br))]) j = some b → (j = n ∧ b = ⟨be, mom, true, [], []⟩) ∨ (j ≠ n ∧ aget S.brs j = some b) := fun j b z => by
    rcases aget_snoc z with e | ⟨e, e', _⟩
    · exact .inr ⟨fun q => (by rw [q, hn] at e; cases e), e⟩
    · exact .inl ⟨e, e'⟩
  have new : aget (S.brs ++ [(n, (⟨be, mom, true, [], []⟩ : Br))]) n = some ⟨be, mom, true, [], []⟩ := aget_right hn
  have keep : ∀ j b, aget S.brs j = some b → aget (S.brs ++ [(n, (⟨be, mom, true, [], []⟩ : Br))]) j = some b := fun j b z => aget_left z
  have cl : ∀ r, Live { S with brs := S.brs ++ [(n, ⟨be, mom, true, [], []⟩)] } J r → (r = .br n ∨ r = .lns n ∨ r = .mks n) ∨ (Live S J r ∧ aBr α n x l m r = α r) := fun r hr => by
    cases r with
    | br j =>
      obtain ⟨b, z⟩ := hr
      rcases got j b z with ⟨q, _⟩ | ⟨q, z'⟩
      · exact .inl (.inl (by rw [q]))
      · exact .inr ⟨⟨b, z'⟩, if_neg q⟩
    | lns j =>
      obtain ⟨b, z⟩ := hr
      rcases got j b z with ⟨q, _⟩ | ⟨q, z'⟩
      · exact .inl (.inr (.inl (by rw [q])))
      · exact .inr ⟨⟨b, z'⟩, if_neg q⟩
    | mks j =>
      obtain ⟨b, z⟩ := hr
      rcases got j b z with ⟨q, _⟩ | ⟨q, z'⟩
      · exact .inl (.inr (.inr (by rw [q])))
      · exact .inr ⟨⟨b, z'⟩, if_neg q⟩
    | ln j k =>
      obtain ⟨b, c, z, y⟩ := hr
      rcases got j b z with ⟨q, e⟩ | ⟨q, z'⟩
      · rw [e] at y; cases y
      · exact .inr ⟨⟨b, c, z', y⟩, rfl⟩
    | sh => exact .inr ⟨hr, rfl⟩
    | brs => exact .inr ⟨hr, rfl⟩
    | hns => exact .inr ⟨hr, rfl⟩
    | jd => exact .inr ⟨hr, rfl⟩
    | hn m => exact .inr ⟨hr, rfl⟩
    | dr m => exact .inr ⟨hr, rfl⟩
    | jg k => exact .inr ⟨hr, rfl⟩
    | ow k => exact .inr ⟨hr, rfl⟩
    | rs k => exact .inr ⟨hr, rfl⟩
  have ex : aBr α n x l m (.br n) = x := if_pos rfl
  have el : aBr α n x l m (.lns n) = l := if_pos rfl
  have em : aBr α n x l m (.mks n) = m := if_pos rfl
  refine ⟨L.move tp (fun r hr => ?_) (L.injOf fun r hr => ?_), L.step (fun a o h nn => ?_) tp fun r hr => ?_⟩
  · rcases cl r hr with (e | e | e) | ⟨h0, e⟩
    · subst e
      refine .inr ⟨.ins T.B dx [("beneath", optV be), ("moment", .int mom), ("alive", .bl true), ("lines", .ref l), ("marks", .ref m)], by rw [ex, upd_ne (Ne.symm (nf .brs x trivial hx))]; exact h1, ⟨_, new, ?_⟩⟩
      show HO.ins _ _ _ = HO.ins _ _ (fBr n _ _)
      unfold fBr
      rw [el, em]
      simp
    · subst e
      refine .inr ⟨_, by rw [el, upd_ne (Ne.symm (nf .brs l trivial hl))]; exact h2, ⟨_, new, ?_⟩⟩
      show _ = thw (δ.fz n) _
      rw [hz]; rfl
    · subst e
      exact .inr ⟨_, by rw [em, upd_ne (Ne.symm (nf .brs m trivial hm))]; exact h3, ⟨_, new, rfl⟩⟩
    · by_cases eh : r = .brs
      · subst eh
        refine .inr ⟨_, upd_same, ?_⟩
        show HO.dK _ = HO.dK _
        rw [putK_enc (g' := fun j _ => .ref (aBr α n x l m (.br j))) inl_inj S.brs n ⟨be, mom, true, [], []⟩ (.ref x) (by rw [ex]) (fun p _ hp => by show V.ref (if p.1 = n then _ else _) = _; rw [if_neg hp]), aput_new _ hn]
      · refine .inl ⟨h0, e, ?_, fun o c => ?_⟩
        · obtain ⟨o, q⟩ := L.there h0
          rw [upd_ne (L.ne (r' := .brs) h0 trivial eh), q]; exact k1 _ _ q
        · cases r with
          | brs => exact absurd rfl eh
          | br j =>
            obtain ⟨b, z, c⟩ := c
            have q : j ≠ n := fun q => by rw [q, hn] at z; cases z
            refine ⟨b, keep j b z, ?_⟩
            rw [c]
            show HO.ins _ _ (fBr j b α) = HO.ins _ (if Rl.br j = Rl.br n then dx else δ (.br j)) (fBr j b (aBr α n x l m))
            rw [if_neg (fun y => q (Rl.br.inj y))]
            unfold fBr
            show _ = HO.ins _ _ [_, _, _, (_, V.ref (if j = n then l else α (.lns j))), (_, V.ref (if j = n then m else α (.mks j)))]
            rw [if_neg q, if_neg q]
          | lns j =>
            obtain ⟨b, z, c⟩ := c
            exact ⟨b, keep j b z, c⟩
          | mks j =>
            obtain ⟨b, z, c⟩ := c
            exact ⟨b, keep j b z, c⟩
          | ln j k =>
            obtain ⟨b, l', rs, z, y, c⟩ := c
            exact ⟨b, l', rs, keep j b z, y, c⟩
          | sh => exact c
          | hns => exact c
          | jd => exact c
          | hn m => exact c
          | dr m => exact c
          | jg k => exact c
          | ow k => exact c
          | rs k => exact c
  · have nw : ∀ r', Live { S with brs := S.brs ++ [(n, ⟨be, mom, true, [], []⟩)] } J r' → H (aBr α n x l m r') = none → r' = .br n ∨ r' = .lns n ∨ r' = .mks n := fun r' hr' z => by
      rcases cl r' hr' with e2 | ⟨h2, e2⟩
      · exact e2
      · obtain ⟨o, q⟩ := L.there h2
        rw [e2, q] at z; cases z
    rcases cl r hr with (e | e | e) | h0
    · subst e
      refine .inr ⟨by rw [ex]; exact hx, fun r' hr' z e' => ?_⟩
      rcases nw r' hr' z with e2 | e2 | e2
      · exact e2.symm
      · rw [e2, ex, el] at e'; exact absurd e' nxl
      · rw [e2, ex, em] at e'; exact absurd e' nxm
    · subst e
      refine .inr ⟨by rw [el]; exact hl, fun r' hr' z e' => ?_⟩
      rcases nw r' hr' z with e2 | e2 | e2
      · rw [e2, ex, el] at e'; exact absurd e'.symm nxl
      · exact e2.symm
      · rw [e2, el, em] at e'; exact absurd e' nlm
    · subst e
      refine .inr ⟨by rw [em]; exact hm, fun r' hr' z e' => ?_⟩
      rcases nw r' hr' z with e2 | e2 | e2
      · rw [e2, ex, em] at e'; exact absurd e'.symm nxm
      · rw [e2, el, em] at e'; exact absurd e'.symm nlm
      · exact e2.symm
    · exact .inl h0
  · rw [upd_ne (Ne.symm (nn .brs trivial))]; exact k1 _ _ h
  · rcases cl r hr with (e | e | e) | h0
    · subst e; exact .inr (by rw [ex]; exact hx)
    · subst e; exact .inr (by rw [el]; exact hl)
    · subst e; exact .inr (by rw [em]; exact hm)
    · exact .inl h0
end
end Vs
/-! ## What views see, from one shelf to the next -/
namespace Vs
open PySem L2
section
variable {Ks : List Str} {S S2 : Sh}
/-- two shelves in which a view goes the same way -/
theorem reach_congr (W : WF Ks S) (W2 : WF Ks S2) (k : Str) (R : Int → Int → Int → Prop)
    (h : ∀ n m m2, R n m m2 → ∃ b b2, aget S.brs n = some b ∧ aget S2.brs n = some b2 ∧ newC (b2.line k) m2 = newC (b.line k) m ∧ b2.ben = b.ben ∧ ∀ q, b.ben = some q → R q b.mom b2.mom) :
    ∀ (N : Nat) (n m m2 : Int), n.toNat < N → R n m m2 → reachS S2.brs k n m2 = reachS S.brs k n m
  | 0, n, m, m2, hN, _ => by omega
  | N + 1, n, m, m2, hN, r => by
    obtain ⟨b, b2, hb, hb2, e1, e2, e3⟩ := h n m m2 r
    rw [reachS_of W k m hb, reachS_of W2 k m2 hb2, e1]
    cases newC (b.line k) m with
    | some c => rfl
    | none =>
      dsimp only
      unfold belowS
      rw [e2]
      cases hq : b.ben with
      | none => rfl
      | some q =>
        dsimp only
        have h1 := (W.ben n b q hb hq).1
        obtain ⟨c, hc⟩ := (W.ben n b q hb hq).2
        have h2 := (W.bnd q c hc).1
        exact reach_congr W W2 k R h N q b.mom b2.mom (by omega) (e3 q hq)
theorem sees_congr (W : WF Ks S) (W2 : WF Ks S2) (k : Str) (R : Int → Int → Int → Prop)
    (h : ∀ n m m2, R n m m2 → ∃ b b2, aget S.brs n = some b ∧ aget S2.brs n = some b2 ∧ newC (b2.line k) m2 = newC (b.line k) m ∧ b2.ben = b.ben ∧ ∀ q, b.ben = some q → R q b.mom b2.mom) {n m m2 : Int} (r : R n m m2) : seesM S2 k n m2 = seesM S k n m := by
  unfold seesM
  rw [reach_congr W W2 k R h _ n m m2 (Nat.lt_succ_self _) r]
/-- where the branches are the same -/
theorem sees_brs {S S2 : Sh} (h : S2.brs = S.brs) (k : Str) (n m : Int) : seesM S2 k n m = seesM S k n m := by unfold seesM; rw [h]
theorem line_now (W : WF Ks S) {n : Int} {b : Br} (hb : aget S.brs n = some b) (k : Str) : ∀ c ∈ b.line k, 1 ≤ c.1 ∧ c.1 ≤ S.now := fun c hc => by
  unfold Br.line at hc
  cases e : aget b.lines k with
  | none => rw [e] at hc; cases hc
  | some l => rw [e] at hc; exact (W.ln n b k l hb e).2.2 c hc
theorem newC_late {l : List Cel} {x m : Int} (h : ∀ c ∈ l, c.1 ≤ x) (hm : x ≤ m) : newC l m = newC l x := by
  unfold newC
  rw [List.filter_eq_self.mpr fun c hc => decide_eq_true (by have := h c hc; omega), List.filter_eq_self.mpr fun c hc => decide_eq_true (h c hc)]
/-- a later moment shows no more than there is -/
theorem sees_late (W : WF Ks S) (k : Str) {n m : Int} (hn : ∃ b, aget S.brs n = some b) (hm : S.now ≤ m) : seesM S k n m = seesM S k n S.now := by
  obtain ⟨b, hb⟩ := hn
  unfold seesM
  rw [reachS_of W k m hb, reachS_of W k S.now hb, newC_late (fun c hc => (line_now W hb k c hc).2) hm]
/-- other branches, where the lines and ways of the old ones stay -/
theorem sees_keep (W : WF Ks S) (W2 : WF Ks S2) (k : Str) (h : ∀ n b, aget S.brs n = some b → ∃ b2, aget S2.brs n = some b2 ∧ b2.line k = b.line k ∧ b2.ben = b.ben ∧ b2.mom = b.mom) {n m : Int} (hn : ∃ b, aget S.brs n = some b) : seesM S2 k n m = seesM S k n m := by
  refine sees_congr W W2 k (fun n m m2 => m2 = m ∧ ∃ b, aget S.brs n = some b) (fun n m m2 r => ?_) ⟨rfl, hn⟩
  obtain ⟨rfl, b, hb⟩ := r
  obtain ⟨b2, h1, h2, h3, h4⟩ := h n b hb
  exact ⟨b, b2, hb, h1, by rw [h2], h3, fun q hq => ⟨h4, (W.ben n b q hb hq).2⟩⟩
/-- a version more in branch q, later than all: views of earlier moments -/
theorem sees_old (W : WF Ks S) (W2 : WF Ks S2) (k : Str) (h : ∀ n b, aget S.brs n = some b → ∃ b2, aget S2.brs n = some b2 ∧ b2.ben = b.ben ∧ b2.mom = b.mom ∧ ∀ m, m ≤ S.now → newC (b2.line k) m = newC (b.line k) m) {n m : Int} (hn : ∃ b, aget S.brs n = some b) (hm : m ≤ S.now) :
    seesM S2 k n m = seesM S k n m := by
  refine sees_congr W W2 k (fun n m m2 => m2 = m ∧ m ≤ S.now ∧ ∃ b, aget S.brs n = some b) (fun n m m2 r => ?_) ⟨rfl, hm, hn⟩
  obtain ⟨rfl, hm, b, hb⟩ := r
  obtain ⟨b2, h1, h2, h3, h4⟩ := h n b hb
  exact ⟨b, b2, hb, h1, h4 _ hm, h2, fun q hq => ⟨h3, (W.bnd n b hb).2.2.2, (W.ben n b q hb hq).2⟩⟩
/-- on the way down from n -/
inductive Way (S : Sh) : Int → Int → Prop where
  | here (n : Int) : Way S n n
  | down {n q r : Int} {b : Br} : aget S.brs n = some b → b.ben = some q → Way S q r → Way S n r
theorem reach_way (W : WF Ks S) (k : Str) : ∀ (N : Nat) (n m : Int), n.toNat < N → ∀ b, aget S.brs n = some b → ∀ v, reachS S.brs k n m = some v → Way S n v.1
  | 0, n, m, hN, _, _, _, _ => by omega
  | N + 1, n, m, hN, b, hb, v, hv => by
    rw [reachS_of W k m hb] at hv
    cases e : newC (b.line k) m with
    | some c =>
      rw [e] at hv
      obtain rfl := Option.some.inj hv
      exact .here n
    | none =>
      rw [e] at hv
      dsimp only at hv
      unfold belowS at hv
      cases hq : b.ben with
      | none => rw [hq] at hv; cases hv
      | some q =>
        rw [hq] at hv
        dsimp only at hv
        have h1 := (W.ben n b q hb hq).1
        obtain ⟨c, hc⟩ := (W.ben n b q hb hq).2
        have h2 := (W.bnd q c hc).1
        exact .down hb hq (reach_way W k N q b.mom (by omega) c hc v hv)
/-- who owns, is a view -/
theorem own_from (r : Int → Int → Option Ver) (key : Int × Int) (o : Own) : ∀ (vs : List (Own × Int × Int)) (acc : List ((Int × Int) × Own)),
    aget (vs.foldl (fun acc v => addOwn acc (r v.2.1 v.2.2) v.1) acc) key = some o → aget acc key = some o ∨ ∃ v ∈ vs, ∃ w, r v.2.1 v.2.2 = some w ∧ (w.1, w.2.1) = key ∧ v.1 = o
  | [], acc, h => .inl h
  | v :: vs, acc, h => by
    rw [List.foldl_cons] at h
    rcases own_from r key o vs _ h with z | ⟨x, hx, w, hw⟩
    · unfold addOwn at z
      cases e : r v.2.1 v.2.2 with
      | none => rw [e] at z; exact .inl z
      | some w =>
        rw [e] at z
        dsimp only at z
        by_cases q : (aget acc (w.1, w.2.1)).isSome = true
        · rw [if_pos q] at z; exact .inl z
        · rw [if_neg q, aget_append] at z
          cases e2 : aget acc key with
          | some y => rw [e2] at z; exact .inl z
          | none =>
            rw [e2, aget_cons, aget_nil] at z
            by_cases y : (w.1, w.2.1) = key
            · rw [if_pos y] at z
              exact .inr ⟨v, List.mem_cons_self, w, e, y, Option.some.inj z⟩
            · rw [if_neg y] at z; cases z
    · exact .inr ⟨x, List.mem_cons_of_mem _ hx, w, hw⟩
theorem owner_view {k : Str} {n m : Int} {o : Own} (h : aget (ownersM S k) (n, m) = some o) : ∃ v ∈ viewsM S, ∃ w, reachS S.brs k v.2.1 v.2.2 = some w ∧ w.1 = n ∧ w.2.1 = m ∧ v.1 = o := by
  rcases own_from (reachS S.brs k) (n, m) o (viewsM S) [] h with z | ⟨v, hv, w, h1, h2, h3⟩
  · cases z
  · exact ⟨v, hv, w, h1, congrArg Prod.fst h2, congrArg Prod.snd h2, h3⟩
theorem kept_own (k : Str) (n : Int) (ow : Int → Option Own) {x : Cel × Rsn} : ∀ (l : List Cel) (be : Option Ver), x ∈ keepL k n ow be l → ow x.1.1 = some x.2.own
  | [], be, hx => by cases hx
  | a :: l, be, hx => by
    unfold keepL at hx
    cases hr : reasonM k a.2 (ow a.1) be with
    | none => rw [hr] at hx; exact kept_own k n ow l be hx
    | some y =>
      rw [hr] at hx
      rcases List.mem_cons.mp hx with z | z
      · rw [z]
        dsimp only
        cases ho : ow a.1 with
        | none => rw [ho] at hr; cases hr
        | some o =>
          rw [ho] at hr
          unfold reasonM at hr
          dsimp only at hr
          cases ha : a.2 with
          | some x => rw [ha] at hr; obtain rfl := Option.some.inj hr; rfl
          | none =>
            rw [ha] at hr
            dsimp only at hr
            cases be with
            | none => cases hr
            | some u =>
              obtain ⟨u1, u2, u3⟩ := u
              cases u3 with
              | none => cases hr
              | some t => obtain rfl := Option.some.inj hr; rfl
      · exact kept_own k n ow l _ z
/-- a reason's owner is a view that comes to the version -/
theorem reason_view {k : Str} {n m : Int} {y : Rsn} (h : aget (reasonsM S k) (n, m) = some y) : ∃ v ∈ viewsM S, ∃ w, reachS S.brs k v.2.1 v.2.2 = some w ∧ w.1 = n ∧ w.2.1 = m ∧ v.1 = y.own := by
  have hm := aget_mem h
  unfold reasonsM reasonsO at hm
  obtain ⟨p, hp, hm⟩ := List.mem_flatMap.mp hm
  obtain ⟨x, hx, ex⟩ := List.mem_map.mp hm
  have e1 : p.1 = n := congrArg (fun t : (Int × Int) × Rsn => t.1.1) ex
  have e2 : x.1.1 = m := congrArg (fun t : (Int × Int) × Rsn => t.1.2) ex
  have e3 : x.2 = y := congrArg (fun t : (Int × Int) × Rsn => t.2) ex
  have := kept_own k p.1 _ _ _ hx
  rw [e1, e2, e3] at this
  exact owner_view this
/-- where nothing goes, each version has its reason -/
theorem idle_reason (W : WF Ks S) (h : goM S = []) {n : Int} {b : Br} (hb : aget S.brs n = some b) {k : Str} {c : Cel} (hc : c ∈ b.line k) : ∃ y, aget (reasonsM S k) (n, c.1) = some y := by
  cases e : aget (reasonsM S k) (n, c.1) with
  | some y => exact ⟨y, rfl⟩
  | none =>
    have := (gone_iff W hb hc).mpr e
    rw [h] at this
    cases this
end
end Vs
/-! ## Which branches stay -/
namespace Vs
open PySem L2
structure GoW (S : Sh) (R : List Int) (i : Nat) (st : List Int × Sh) : Prop where
  nd : ∀ q ∈ st.1, q ∈ S.hns.map (·.2.br) ∨ ∃ m c, m ∈ R.take i ∧ aget st.2.brs m = some c ∧ c.ben = some q
  why : ∀ n b, n ∈ R.take i → aget st.2.brs n = some b → b.alive = true ∨ b.lines ≠ [] ∨ n ∈ st.1
theorem goW_step {S : Sh} {R : List Int} (hR : R.Pairwise (· > ·)) {i : Nat} {n : Int} (hn : R[i]? = some n) {st : List Int × Sh} (g : GoW S R i st) : GoW S R (i + 1) (goB st n) := by
  have nin : n ∉ R.take i := fun z => by
    obtain ⟨j, hj⟩ := List.mem_iff_getElem?.mp z
    rw [List.getElem?_take] at hj
    by_cases lt : j < i
    · rw [if_pos lt] at hj
      obtain ⟨j1, j2⟩ := List.getElem?_eq_some_iff.mp hj
      obtain ⟨i1, i2⟩ := List.getElem?_eq_some_iff.mp hn
      have := (List.pairwise_iff_getElem.mp hR) j i j1 i1 lt
      omega
    · rw [if_neg lt] at hj; cases hj
  have tk := take_snoc hn
  have memS : ∀ m, m ∈ R.take (i + 1) ↔ m ∈ R.take i ∨ m = n := fun m => by rw [tk, List.mem_append, List.mem_singleton]
  unfold goB
  cases e : aget st.2.brs n with
  | none =>
    dsimp only
    refine ⟨fun q hq => ?_, fun m b hm hb => ?_⟩
    · rcases g.nd q hq with z | ⟨m, c, h1, h2⟩
      · exact .inl z
      · exact .inr ⟨m, c, (memS m).mpr (.inl h1), h2⟩
    · rcases (memS m).mp hm with z | z
      · exact g.why m b z hb
      · rw [z, e] at hb; cases hb
  | some b =>
    dsimp only
    by_cases y : b.alive = true ∨ b.lines ≠ [] ∨ n ∈ st.1
    · rw [if_pos y]
      refine ⟨fun q hq => ?_, fun m b' hm hb => ?_⟩
      · rcases List.mem_append.mp hq with z | z
        · refine .inr ⟨n, b, (memS n).mpr (.inr rfl), e, ?_⟩
          cases hb : b.ben with
          | none => rw [hb] at z; cases z
          | some x =>
            rw [hb] at z
            have : q = x := by simpa using z
            rw [this]
        · rcases g.nd q z with z | ⟨m, c, h1, h2⟩
          · exact .inl z
          · exact .inr ⟨m, c, (memS m).mpr (.inl h1), h2⟩
      · have up : ∀ x, x ∈ st.1 → x ∈ b.ben.toList ++ st.1 := fun x hx => List.mem_append.mpr (.inr hx)
        rcases (memS m).mp hm with z | z
        · rcases g.why m b' z hb with a | a | a
          · exact .inl a
          · exact .inr (.inl a)
          · exact .inr (.inr (up _ a))
        · subst z
          dsimp only at hb
          rw [e] at hb
          obtain rfl := Option.some.inj hb
          rcases y with a | a | a
          · exact .inl a
          · exact .inr (.inl a)
          · exact .inr (.inr (up _ a))
    · rw [if_neg y]
      refine ⟨fun q hq => ?_, fun m b' hm hb => ?_⟩
      · rcases g.nd q hq with z | ⟨m, c, h1, h2, h3⟩
        · exact .inl z
        · refine .inr ⟨m, c, (memS m).mpr (.inl h1), ?_, h3⟩
          show aget (adel st.2.brs n) m = some c
          rw [aget_del, if_neg (fun z => nin (by rw [← z]; exact h1))]; exact h2
      · obtain ⟨hb1, hb2⟩ := del_old (l := st.2.brs) hb
        rcases (memS m).mp hm with z | z
        · exact g.why m b' z hb1
        · exact absurd z hb2
theorem goW_all {S : Sh} {R : List Int} (hR : R.Pairwise (· > ·)) : ∀ i, i ≤ R.length → GoW S R i (S.goTo (R.take i))
  | 0, _ => ⟨fun q hq => .inl hq, fun n b h => by cases h⟩
  | i + 1, h => by
    have e : R[i]? = some R[i] := List.getElem?_eq_getElem (by omega)
    rw [goTo_snoc S e]
    exact goW_step hR e (goW_all hR i (by omega))
theorem takeB_why {Ks : List Str} {S : Sh} (W : WF Ks S) {n : Int} {b : Br} (h : aget S.takeB.brs n = some b) : b.alive = true ∨ b.lines ≠ [] ∨ n ∈ S.hns.map (·.2.br) ∨ ∃ m c, aget S.takeB.brs m = some c ∧ c.ben = some n := by
  have hR : ((S.brs.map (·.1)).reverse).Pairwise (· > ·) := by rw [List.pairwise_reverse]; exact W.bks
  have g := goW_all (S := S) hR _ (Nat.le_refl _)
  rw [List.take_length] at g
  have hn : n ∈ (S.brs.map (·.1)).reverse := List.mem_reverse.mpr (aget_key ((takeB_is W).sub n b h))
  rcases g.why n b (by rw [List.take_length]; exact hn) h with a | a | a
  · exact .inl a
  · exact .inr (.inl a)
  · rcases g.nd n a with z | ⟨m, c, _, h2, h3⟩
    · exact .inr (.inr (.inl z))
    · exact .inr (.inr (.inr ⟨m, c, h2, h3⟩))
end Vs
/-! ## Deep branches: how the shelf stands -/
namespace Vs
open PySem L2
theorem sortK_one (k : Str) : sortK [k] = [k] := List.perm_singleton.mp (sortK_perm [k])
theorem adel_new {β : Type} {l : List (Int × β)} {n : Int} {x : β} (h : aget l n = none) : adel (l ++ [(n, x)]) n = l := by
  unfold adel
  rw [List.filter_append, List.filter_eq_self.mpr fun p hp => ?_]
  · simp
  · have : p.1 ≠ n := fun e => by
      obtain ⟨y, hy⟩ := aget_of_key (l := l) (k := n) (List.mem_map.mpr ⟨p, hp, e⟩)
      rw [h] at hy; cases hy
    simpa using this
/-- a version more in branch n, by a hand of its own -/
def Sh.putV (S : Sh) (n : Int) (b : Br) (k : Str) (v : Option Int) : Sh :=
  { S with now := S.now + 1, brs := aput S.brs n { b with lines := aput b.lines k (b.line k ++ [(S.now + 1, v)]), marks := aput b.marks k (S.now + 1) }, hm := S.hm + 1 }
section
variable {Ks : List Str} {S : Sh}
theorem hand_new (W : WF Ks S) (n : Int) : aget (S.addHand n S.now).hns S.hm = some ⟨n, S.now, []⟩ := aget_right W.fresh
theorem write_new (W : WF Ks S) (n : Int) (k : Str) (v : Option Int) : aget ((S.addHand n S.now).write S.hm ⟨n, S.now, []⟩ k v).hns S.hm = some ⟨n, S.now, [(k, v)]⟩ := by
  show aget (aput _ _ _) _ = _
  rw [aget_put_same]
  rfl
theorem made_new (W : WF Ks S) (n : Int) : (S.addHand n S.now).delHand S.hm = { S with hm := S.hm + 1 } := by
  show Sh.mk _ _ _ (adel (S.hns ++ [(S.hm, _)]) S.hm) _ = _
  rw [adel_new W.fresh]
  rfl
theorem aput_snoc {β : Type} {l : List (Int × β)} {n : Int} {x y : β} (h : aget l n = none) : aput (l ++ [(n, x)]) n y = l ++ [(n, y)] := by
  unfold aput
  rw [aget_right h, if_pos (by rfl), List.map_append]
  congr 1
  · rw [List.map_congr_left (g := id) fun p hp => ?_, List.map_id]
    have : p.1 ≠ n := fun e => by
      obtain ⟨y, hy⟩ := aget_of_key (l := l) (k := n) (List.mem_map.mpr ⟨p, hp, e⟩)
      rw [h] at hy; cases hy
    rw [if_neg this]; rfl
  · simp
theorem made_put (W : WF Ks S) {n : Int} {b : Br} (hb : aget S.brs n = some b) (k : Str) (v : Option Int) : (((S.addHand n S.now).write S.hm ⟨n, S.now, []⟩ k v).settle n ⟨n, S.now, [(k, v)]⟩).delHand S.hm = S.putV n b k v := by
  unfold Sh.settle
  rw [show (List.map (·.1) (⟨n, S.now, [(k, v)]⟩ : Hn).drafts) = [k] from rfl, sortK_one, List.foldl_cons, List.foldl_nil]
  unfold addS
  rw [show aget ({ (S.addHand n S.now).write S.hm ⟨n, S.now, []⟩ k v with now := ((S.addHand n S.now).write S.hm ⟨n, S.now, []⟩ k v).now + 1 } : Sh).brs n = some b from hb]
  show Sh.mk _ _ _ (adel (aput (S.hns ++ [(S.hm, _)]) S.hm _) S.hm) _ = _
  rw [aput_snoc W.fresh, adel_new W.fresh]
  unfold Sh.putV addC
  have : (aget (⟨n, S.now, [(k, v)]⟩ : Hn).drafts k).getD none = v := by
    rw [show aget (⟨n, S.now, [(k, v)]⟩ : Hn).drafts k = some v from by rw [aget_cons, if_pos rfl]]; rfl
  rw [this]
  rfl
theorem made_clash (W : WF Ks S) {n : Int} {b : Br} (hb : aget S.brs n = some b) (k : Str) (v : Option Int) : clashM b ⟨n, S.now, [(k, v)]⟩ = none := by
  unfold clashM
  rw [show (List.map (·.1) (⟨n, S.now, [(k, v)]⟩ : Hn).drafts) = [k] from rfl, sortK_one, List.find?_cons]
  have : decide (S.now < (aget b.marks k).getD 0) = false := by
    apply decide_eq_false
    cases e : aget b.marks k with
    | none => show ¬ S.now < 0; have := W.sz.1; omega
    | some m => show ¬ S.now < m; have := (W.mkb n b k m hb e).2; omega
  rw [this]
  rfl
theorem WF.putV (W : WF Ks S) {n : Int} {b : Br} (hb : aget S.brs n = some b) {k : Str} (hk : k ∈ Ks) (v : Option Int) (hn : S.now < 1000) (hl : S.hns.length < 1000) (hm : 0 ≤ S.hm ∧ S.hm < 10 ^ 18) : WF Ks (S.putV n b k v) := by
  rw [← made_put W hb k v]
  apply WF.delHand
  unfold Sh.settle
  rw [show (List.map (·.1) (⟨n, S.now, [(k, v)]⟩ : Hn).drafts) = [k] from rfl, sortK_one, List.foldl_cons, List.foldl_nil]
  have W1 := W.addHand ⟨b, hb⟩ W.sz.1 (Int.le_refl _) hl hm
  have W2 := W1.write (hand_new W n) hk v
  have W3 := W2.later (by show S.now < 10 ^ 18; omega)
  refine W3.addS n _ hk ⟨by show 1 ≤ S.now + 1; have := W.sz.1; omega, by show S.now + 1 ≤ 1000; omega⟩ fun c hc d hd => ?_
  have hc : aget S.brs n = some c := hc
  show d.1 < S.now + 1
  have := (line_now W hc k d hd).2
  omega
theorem putV_get (n : Int) (b : Br) (k : Str) (v : Option Int) (m : Int) : aget (S.putV n b k v).brs m = if m = n then some { b with lines := aput b.lines k (b.line k ++ [(S.now + 1, v)]), marks := aput b.marks k (S.now + 1) } else aget S.brs m := aget_put _ _ _ _
theorem putV_line (b : Br) (k j : Str) (now : Int) (v : Option Int) (ms : List (Str × Int)) : ({ b with lines := aput b.lines k (b.line k ++ [(now, v)]), marks := ms } : Br).line j = if j = k then b.line k ++ [(now, v)] else b.line j := by
  unfold Br.line
  dsimp only
  rw [aget_put]
  by_cases e : j = k
  · rw [if_pos e, if_pos e]; rfl
  · rw [if_neg e, if_neg e]
theorem newC_more {cs : List Cel} {c : Cel} {m : Int} (h : m < c.1) : newC (cs ++ [c]) m = newC cs m := by
  unfold newC
  rw [List.filter_append, List.filter_cons, if_neg (by simp; omega), List.filter_nil, List.append_nil]
/-- what was seen at a moment until now, is seen still -/
theorem putV_old (W : WF Ks S) {n : Int} {b : Br} (hb : aget S.brs n = some b) {k : Str} {v : Option Int} (W2 : WF Ks (S.putV n b k v)) (j : Str) {q m : Int} (hq : ∃ b, aget S.brs q = some b) (hm : m ≤ S.now) : seesM (S.putV n b k v) j q m = seesM S j q m := by
  refine sees_old W W2 j (fun x c hx => ?_) hq hm
  rw [putV_get]
  by_cases e : x = n
  · rw [if_pos e]
    rw [e, hb] at hx
    obtain rfl := Option.some.inj hx
    refine ⟨_, rfl, rfl, rfl, fun m hm => ?_⟩
    rw [putV_line]
    by_cases z : j = k
    · rw [if_pos z, z]; exact newC_more (by show m < S.now + 1; omega)
    · rw [if_neg z]
  · rw [if_neg e]
    exact ⟨c, hx, rfl, rfl, fun _ _ => rfl⟩
/-- what the heads see behind it -/
theorem putV_head (W : WF Ks S) {n : Int} {b : Br} (hb : aget S.brs n = some b) {k : Str} {v : Option Int} (W2 : WF Ks (S.putV n b k v)) (j : Str) {q : Int} (hq : ∃ b, aget S.brs q = some b) :
    seesM (S.putV n b k v) j q (S.putV n b k v).now = if q = n ∧ j = k then v else seesM S j q S.now := by
  show seesM (S.putV n b k v) j q (S.now + 1) = _
  obtain ⟨c, hc⟩ := hq
  by_cases e : q = n ∧ j = k
  · obtain ⟨rfl, rfl⟩ := e
    rw [if_pos ⟨rfl, rfl⟩]
    have hg := putV_get (S := S) q b j v q
    rw [if_pos rfl] at hg
    unfold seesM
    rw [reachS_of W2 j _ hg, putV_line, if_pos rfl]
    have : newC (b.line j ++ [(S.now + 1, v)]) (S.now + 1) = some (S.now + 1, v) := by
      unfold newC
      rw [List.filter_append, List.filter_cons, if_pos (by simp), List.filter_nil, List.getLast?_append]
      rfl
    rw [this]
    rfl
  · rw [if_neg e]
    refine sees_congr W W2 j (fun x m m2 => (∃ b, aget S.brs x = some b) ∧ ((m2 = m ∧ m ≤ S.now) ∨ (x = q ∧ m = S.now ∧ m2 = S.now + 1))) (fun x m m2 r => ?_) ⟨⟨c, hc⟩, .inr ⟨rfl, rfl, rfl⟩⟩
    obtain ⟨⟨d, hd⟩, r⟩ := r
    refine ⟨d, ?_⟩
    rw [putV_get]
    have late : newC (d.line j) (S.now + 1) = newC (d.line j) S.now := newC_late (fun c hc => (line_now W hd j c hc).2) (by omega)
    have go : ∀ y, d.ben = some y → (∃ b, aget S.brs y = some b) ∧ ((d.mom = d.mom ∧ d.mom ≤ S.now) ∨ (y = q ∧ d.mom = S.now ∧ d.mom = S.now + 1)) := fun y hy => ⟨(W.ben x d y hd hy).2, .inl ⟨rfl, (W.bnd x d hd).2.2.2⟩⟩
    by_cases z : x = n
    · rw [if_pos z]
      rw [z, hb] at hd
      obtain rfl := Option.some.inj hd
      refine ⟨_, by rw [z]; exact hb, rfl, ?_, rfl, go⟩
      rw [putV_line]
      by_cases y : j = k
      · rw [if_pos y]
        rcases r with ⟨rfl, hm⟩ | ⟨h1, _⟩
        · rw [y]; exact newC_more (by show m2 < S.now + 1; omega)
        · exact absurd ⟨h1.symm.trans z, y⟩ e
      · rw [if_neg y]
        rcases r with ⟨rfl, hm⟩ | ⟨_, rfl, rfl⟩
        · rfl
        · exact late
    · rw [if_neg z]
      refine ⟨d, hd, hd, ?_, rfl, go⟩
      rcases r with ⟨rfl, hm⟩ | ⟨_, rfl, rfl⟩
      · rfl
      · exact late
/-- what is seen behind a fork -/
theorem fork_old (W : WF Ks S) {u : Int} (W2 : WF Ks (S.fork u S.now)) (j : Str) {q m : Int} (hq : ∃ b, aget S.brs q = some b) : seesM (S.fork u S.now) j q m = seesM S j q m :=
  sees_keep W W2 j (fun n b hb => ⟨b, aget_left hb, rfl, rfl, rfl⟩) hq
theorem fork_new (W : WF Ks S) {u : Int} (W2 : WF Ks (S.fork u S.now)) (j : Str) (hu : ∃ b, aget S.brs u = some b) (m : Int) : seesM (S.fork u S.now) j S.bm m = seesM S j u S.now := by
  have hg : aget (S.fork u S.now).brs S.bm = some ⟨some u, S.now, true, [], []⟩ := aget_right W.bfresh
  rw [← fork_old W W2 j hu]
  unfold seesM
  rw [reachS_of W2 j m hg]
  rfl
theorem drop_sees (W : WF Ks S) {n : Int} {b : Br} (hb : aget S.brs n = some b) (j : Str) {q m : Int} (hq : ∃ b, aget S.brs q = some b) : seesM (S.drop n b) j q m = seesM S j q m :=
  sees_keep W (W.drop hb) j (fun x c hc => by
    unfold Sh.drop
    rw [setBr_get]
    by_cases e : x = n
    · rw [if_pos e]
      rw [e, hb] at hc
      obtain rfl := Option.some.inj hc
      exact ⟨_, rfl, rfl, rfl, rfl⟩
    · rw [if_neg e]; exact ⟨c, hc, rfl, rfl, rfl⟩) hq
end
end Vs
namespace Vs
open PySem L2
abbrev K2 : List Str := ["a", "b"]
/-- branches 0 to N - 1 were made, n from un n; al says which weren't dropped; their heads see vs -/
structure I14 (S : Sh) (N : Int) (un : Int → Int) (al : Int → Bool) (vs : Int → Str → Option Int) : Prop where
  W : WF K2 S
  br : ∀ n b, aget S.brs n = some b → 0 ≤ n ∧ n < N ∧ (n ≠ 0 → b.ben = some (un n)) ∧ b.alive = al n ∧ b.lines.length ≤ 1 ∧ ∀ k, (b.line k).length ≤ 1
  live : ∀ n : Int, 0 ≤ n → n < N → al n = true → ∃ b, aget S.brs n = some b
  a0 : al 0 = true
  head : ∀ n : Int, 0 ≤ n → n < N → al n = true → ∀ k ∈ K2, seesM S k n S.now = vs n k
section
variable {S S2 : Sh} {N : Int} {un : Int → Int} {al : Int → Bool} {vs : Int → Str → Option Int}
theorem I14.brs (I : I14 S N un al vs) (e1 : S2.brs = S.brs) (e2 : S2.now = S.now) (W2 : WF K2 S2) : I14 S2 N un al vs where
  W := W2
  br := fun n b h => I.br n b (by rw [← e1]; exact h)
  live := fun n h0 h1 h2 => by rw [e1]; exact I.live n h0 h1 h2
  a0 := I.a0
  head := fun n h0 h1 h2 k hk => by rw [sees_brs e1, e2]; exact I.head n h0 h1 h2 k hk
theorem I14.zero (I : I14 S N un al vs) (b : Br) (h : aget S.brs 0 = some b) : b.alive = true := by rw [(I.br 0 b h).2.2.2.1]; exact I.a0
theorem I14.fork (I : I14 S N un (fun _ => true) vs) (hN : S.bm = N) {u : Int} (h0 : 0 ≤ u) (h1 : u < N) (W2 : WF K2 (S.fork u S.now)) :
    I14 (S.fork u S.now) (N + 1) (fun n => if n = N then u else un n) (fun _ => true) (fun n => if n = N then vs u else vs n) where
  W := W2
  br := fun n b h => by
    rcases aget_snoc (l := S.brs) h with z | ⟨rfl, rfl, _⟩
    · obtain ⟨a, b', c, d, e⟩ := I.br n b z
      refine ⟨a, by omega, fun ne => ?_, d, e⟩
      rw [if_neg (by omega)]; exact c ne
    · have := I.W.bm0
      refine ⟨by omega, by omega, fun _ => ?_, rfl, Nat.zero_le _, fun k => Nat.zero_le _⟩
      rw [if_pos hN]
  live := fun n a b _ => by
    by_cases e : n = N
    · subst hN
      exact ⟨_, by rw [e]; exact aget_right I.W.bfresh⟩
    · obtain ⟨c, hc⟩ := I.live n a (by omega) rfl
      exact ⟨c, aget_left hc⟩
  a0 := rfl
  head := fun n a b _ k hk => by
    have hu := I.live u h0 h1 rfl
    by_cases e : n = N
    · rw [if_pos e, e, ← hN, fork_new I.W W2 k hu]
      exact I.head u h0 h1 rfl k hk
    · rw [if_neg e, fork_old I.W W2 k (I.live n a (by omega) rfl)]
      exact I.head n a (by omega) rfl k hk
theorem I14.putV (I : I14 S N un al vs) {n : Int} {b : Br} (hb : aget S.brs n = some b) (hl : b.lines = []) {k : Str} {v : Option Int} (W2 : WF K2 (S.putV n b k v)) :
    I14 (S.putV n b k v) N un al (fun q j => if q = n ∧ j = k then v else vs q j) where
  W := W2
  br := fun m c h => by
    rw [putV_get] at h
    by_cases e : m = n
    · rw [if_pos e] at h
      obtain rfl := Option.some.inj h
      obtain ⟨a1, a2, a3, a4, a5, a6⟩ := I.br n b hb
      rw [e]
      refine ⟨a1, a2, a3, a4, ?_, fun j => ?_⟩
      · show (aput b.lines k _).length ≤ 1
        rw [hl]; exact Nat.le_refl _
      · rw [putV_line]
        have : b.line k = [] := by unfold Br.line; rw [hl]; rfl
        by_cases z : j = k
        · rw [if_pos z, this]; exact Nat.le_refl _
        · rw [if_neg z]; exact a6 j
    · rw [if_neg e] at h; exact I.br m c h
  live := fun m h0 h1 h2 => by
    rw [putV_get]
    by_cases e : m = n
    · rw [if_pos e]; exact ⟨_, rfl⟩
    · rw [if_neg e]; exact I.live m h0 h1 h2
  a0 := I.a0
  head := fun m h0 h1 h2 j hj => by
    rw [putV_head I.W hb W2 j (I.live m h0 h1 h2)]
    by_cases e : m = n ∧ j = k
    · rw [if_pos e, if_pos e]
    · rw [if_neg e, if_neg e]; exact I.head m h0 h1 h2 j hj
theorem I14.drop (I : I14 S N un al vs) {n : Int} {b : Br} (hb : aget S.brs n = some b) (hn : n ≠ 0) : I14 (S.drop n b) N un (fun q => if q = n then false else al q) vs where
  W := I.W.drop hb
  br := fun m c h => by
    unfold Sh.drop at h
    rw [setBr_get] at h
    by_cases e : m = n
    · rw [if_pos e] at h
      obtain rfl := Option.some.inj h
      obtain ⟨a1, a2, a3, a4, a5, a6⟩ := I.br n b hb
      rw [e]
      exact ⟨a1, a2, a3, by rw [if_pos rfl], a5, a6⟩
    · rw [if_neg e] at h
      obtain ⟨a1, a2, a3, a4, a5, a6⟩ := I.br m c h
      exact ⟨a1, a2, a3, by rw [if_neg e]; exact a4, a5, a6⟩
  live := fun m h0 h1 h2 => by
    unfold Sh.drop
    rw [setBr_get]
    by_cases e : m = n
    · rw [if_pos e]; exact ⟨_, rfl⟩
    · rw [if_neg e] at h2 ⊢; exact I.live m h0 h1 h2
  a0 := by rw [if_neg (Ne.symm hn)]; exact I.a0
  head := fun m h0 h1 h2 j hj => by
    by_cases e : m = n
    · rw [if_pos e] at h2; cases h2
    · rw [if_neg e] at h2
      rw [drop_sees I.W hb j (I.live m h0 h1 h2)]
      exact I.head m h0 h1 h2 j hj
theorem int_len : ∀ {l : List Int} {lo hi : Int}, l.Pairwise (· < ·) → (∀ x ∈ l, lo ≤ x ∧ x < hi) → lo ≤ hi → (l.length : Int) ≤ hi - lo
  | [], lo, hi, _, _, h => by show (0 : Int) ≤ _; omega
  | x :: l, lo, hi, hp, hb, h => by
    rw [List.pairwise_cons] at hp
    have h1 := hb x List.mem_cons_self
    have := int_len (l := l) (lo := x + 1) (hi := hi) hp.2 (fun y hy => ⟨by have := hp.1 y hy; omega, (hb y (List.mem_cons_of_mem _ hy)).2⟩) (by omega)
    rw [List.length_cons]
    omega
theorem I14.n0 (I : I14 S N un al vs) : 0 < N := by
  obtain ⟨b, hb⟩ := I.W.b0
  have := I.br 0 b hb
  omega
theorem I14.count (I : I14 S N un al vs) : (S.brs.length : Int) ≤ N := by
  have := int_len (lo := 0) (hi := N) I.W.bks (fun x hx => by
    obtain ⟨b, hb⟩ := aget_of_key hx
    exact ⟨(I.br x b hb).1, (I.br x b hb).2.1⟩) (by have := I.n0; omega)
  rw [List.length_map] at this
  omega
end
end Vs
namespace Vs
open PySem L2
theorem flat_len {β γ : Type} (f : β → List γ) : ∀ (l : List β), (∀ p ∈ l, (f p).length ≤ 1) → (l.flatMap f).length ≤ l.length
  | [], _ => Nat.le_refl _
  | x :: l, h => by
    rw [List.flatMap_cons, List.length_append, List.length_cons]
    have h1 := h x List.mem_cons_self
    have h2 := flat_len f l fun p hp => h p (List.mem_cons_of_mem _ hp)
    omega
/-! ### marks, where there is no hand -/
theorem mkS_marks (now : Int) (S : Sh) (n m : Int) {b : Br} (h : aget (mkS [] now S n).brs m = some b) : ∃ b0, aget S.brs m = some b0 ∧ b.marks = if m = n then b0.marks.filter (fun p => decide (now < p.2)) else b0.marks := by
  unfold mkS at h
  cases e : aget S.brs n with
  | none =>
    rw [e] at h
    refine ⟨b, h, ?_⟩
    by_cases q : m = n
    · rw [q, e] at h; cases h
    · rw [if_neg q]
  | some c =>
    rw [e] at h
    dsimp only at h
    rw [setBr_get] at h
    by_cases q : m = n
    · rw [if_pos q] at h
      obtain rfl := Option.some.inj h
      exact ⟨c, by rw [q]; exact e, by rw [if_pos q]; rfl⟩
    · rw [if_neg q] at h
      exact ⟨b, h, by rw [if_neg q]⟩
theorem marks_none (now : Int) : ∀ (ns : List Int) (S : Sh), (∀ n b, aget S.brs n = some b → n ∈ ns ∨ b.marks = []) → (∀ n b, aget S.brs n = some b → ∀ p ∈ b.marks, p.2 ≤ now) → ∀ n b, aget (ns.foldl (mkS [] now) S).brs n = some b → b.marks = []
  | [], S, h, _, n, b, hb => by
    rcases h n b hb with z | z
    · cases z
    · exact z
  | x :: ns, S, h, le, n, b, hb => by
    rw [List.foldl_cons] at hb
    refine marks_none now ns (mkS [] now S x) (fun m c hc => ?_) (fun m c hc p hp => ?_) n b hb
    · obtain ⟨c0, h0, e⟩ := mkS_marks now S x m hc
      by_cases q : m = x
      · rw [if_pos q] at e
        refine .inr ?_
        rw [e, List.filter_eq_nil_iff]
        intro p hp
        have := le m c0 h0 p hp
        simp; omega
      · rw [if_neg q] at e
        rcases h m c0 h0 with z | z
        · rcases List.mem_cons.mp z with y | y
          · exact absurd y q
          · exact .inl y
        · exact .inr (e.trans z)
    · obtain ⟨c0, h0, e⟩ := mkS_marks now S x m hc
      refine le m c0 h0 p ?_
      by_cases q : m = x
      · rw [if_pos q] at e; rw [e] at hp; exact (List.mem_filter.mp hp).1
      · rw [if_neg q] at e; rw [e] at hp; exact hp
theorem takeM_none {Ks : List Str} {S : Sh} (W : WF Ks S) (h : S.hns = []) {n : Int} {b : Br} (hb : aget S.takeM.brs n = some b) : b.marks = [] := by
  unfold Sh.takeM Sh.markTo at hb
  rw [h] at hb
  refine marks_none S.now _ S (fun m c hc => .inl (aget_key hc)) (fun m c hc p hp => ?_) n b hb
  have : aget c.marks p.1 = some p.2 := aget_of_mem (W.mks m c hc).1 hp
  exact (W.mkb m c p.1 p.2 hc this).2
/-! ### a sweep of all -/
theorem sweep_br {Ks : List Str} {S : Sh} {n : Int} {b2 : Br} (hb2 : aget (takeAll S (goM S)).takeM.brs n = some b2) : ∃ b, aget S.brs n = some b ∧ b2.alive = b.alive := by
  have c1 := takeM_core (takeAll S (goM S)) n
  rw [hb2] at c1
  cases hb1 : aget (takeAll S (goM S)).brs n with
  | none => rw [hb1] at c1; cases c1
  | some b1 =>
    rw [hb1] at c1
    have c1 : core b2 = core b1 := Option.some.inj c1
    have c2 := takeAll_br (S := S) (goM S) S n
    rw [hb1] at c2
    cases hb : aget S.brs n with
    | none => rw [hb] at c2; cases c2
    | some b =>
      rw [hb] at c2
      have c2 : (b1.ben, b1.mom, b1.alive, b1.marks) = (b.ben, b.mom, b.alive, b.marks) := Option.some.inj c2
      have d3 : b2.alive = b1.alive := congrArg (fun t => t.2.2.1) c1
      exact ⟨b, rfl, d3.trans (congrArg (fun t => t.2.2.1) c2)⟩
theorem sweep_back {Ks : List Str} {S : Sh} {n : Int} {b : Br} (hb : aget S.brs n = some b) : ∃ b2, aget (takeAll S (goM S)).takeM.brs n = some b2 ∧ b2.alive = b.alive := by
  cases e : aget (takeAll S (goM S)).takeM.brs n with
  | some b2 =>
    obtain ⟨b', h1, h2⟩ := sweep_br (Ks := Ks) e
    rw [hb] at h1
    obtain rfl := Option.some.inj h1
    exact ⟨b2, rfl, h2⟩
  | none =>
    have c1 := takeM_core (takeAll S (goM S)) n
    rw [e] at c1
    cases hb1 : aget (takeAll S (goM S)).brs n with
    | some b1 => rw [hb1] at c1; cases c1
    | none =>
      have c2 := takeAll_br (S := S) (goM S) S n
      rw [hb1, hb] at c2; cases c2
theorem mkS_num (fm : List (Int × Int)) (now : Int) (S : Sh) (n : Int) : (mkS fm now S n).bm = S.bm ∧ (mkS fm now S n).hm = S.hm := by
  unfold mkS
  cases aget S.brs n <;> exact ⟨rfl, rfl⟩
theorem marks_num (fm : List (Int × Int)) (now : Int) : ∀ (ns : List Int) (S : Sh), (ns.foldl (mkS fm now) S).bm = S.bm ∧ (ns.foldl (mkS fm now) S).hm = S.hm
  | [], S => ⟨rfl, rfl⟩
  | n :: ns, S => by
    obtain ⟨a, b⟩ := marks_num fm now ns (mkS fm now S n)
    obtain ⟨a', b'⟩ := mkS_num fm now S n
    exact ⟨a.trans a', b.trans b'⟩
section
variable {S S2 : Sh} {N : Int} {un : Int → Int} {al : Int → Bool} {vs : Int → Str → Option Int}
theorem I14.go (I : I14 S N un al vs) (hN : N ≤ 10) : (goM S).length ≤ 100 := by
  have h1 : (versM S.brs).length ≤ S.brs.length := by
    refine flat_len _ _ fun p hp => ?_
    have hb := aget_of_mem (nodup_of_lt I.W.bks) hp
    obtain ⟨_, _, _, _, h5, h6⟩ := I.br p.1 p.2 hb
    refine Nat.le_trans (flat_len _ _ fun k hk => ?_) ?_
    · unfold versL
      rw [List.length_map, withNext_len]; exact h6 k
    · rw [sortK_length, List.length_map]; exact h5
  have h2 := I.count
  unfold goM unOf baOf
  rw [List.length_append, List.length_map, List.length_map]
  have h3 := List.length_filter_le (isUn S) (versM S.brs)
  have h4 := List.length_filter_le (isBa S) (versM S.brs)
  omega
theorem head_view {n : Int} {b : Br} (hb : aget S.brs n = some b) (ha : b.alive = true) : ((("head" : Str), n), n, S.now) ∈ viewsM S := by
  unfold viewsM
  refine List.mem_append.mpr (.inr (List.mem_map.mpr ⟨(n, b), List.mem_filter.mpr ⟨aget_mem hb, ha⟩, rfl⟩))
theorem hand_view {n : Int} {h : Hn} (hh : aget S.hns n = some h) : ((("hand" : Str), n), h.br, h.mom) ∈ viewsM S := by
  unfold viewsM
  exact List.mem_append.mpr (.inl (List.mem_map.mpr ⟨(n, h), aget_mem hh, rfl⟩))
theorem I14.sweep (I : I14 S N un al vs) (hN : N ≤ 10) : I14 (S.sweepTo 100) N un al vs ∧ goM (S.sweepTo 100) = [] ∧ (S.sweepTo 100).hns = S.hns ∧ (S.sweepTo 100).now = S.now ∧ (S.sweepTo 100).hm = S.hm ∧
    ∀ n h, aget S.hns n = some h → ∀ k, seesM (S.sweepTo 100) k h.br h.mom = seesM S k h.br h.mom := by
  obtain ⟨Z, z1, z2, z3⟩ := swept_all I.W I.zero (I.go hN)
  have hm : (S.sweepTo 100).hm = S.hm := by
    rw [z3.rest.2.2.2]
    unfold Sh.takeM Sh.markTo
    rw [(marks_num _ _ _ _).2, (takeAll_hns _ _).2.2.2]
  refine ⟨⟨Z.W2, fun n b2 h => ?_, fun n h0 h1 h2 => ?_, I.a0, fun n h0 h1 h2 k hk => ?_⟩, Z.idem, z1, z2, hm, fun n h hh k => Z.sees (hand_view hh) k⟩
  · obtain ⟨b, hb, e1, e2, e3⟩ := Z.br n b2 h
    obtain ⟨b', hb', e4⟩ := sweep_br (Ks := K2) (z3.sub n b2 h)
    rw [hb] at hb'
    obtain rfl := Option.some.inj hb'
    obtain ⟨a1, a2, a3, a4, a5, a6⟩ := I.br n b hb
    have sub : ∀ k, (b2.line k).Sublist (b.line k) := fun k => by
      rw [e3, ← lineAt_of hb]; exact Kn_sub S k n
    refine ⟨a1, a2, fun ne => by rw [e1]; exact a3 ne, by rw [e4]; exact a4, ?_, fun k => Nat.le_trans (sub k).length_le (a6 k)⟩
    refine Nat.le_trans ?_ a5
    have := len_le_pool (Ks := b.lines.map (·.1)) (Z.W2.lks n b2 h).1 fun k hk => ?_
    · rw [List.length_map, List.length_map] at this; exact this
    · obtain ⟨l, hl⟩ := aget_of_key hk
      have ne := (Z.W2.ln n b2 k l h hl).2.1
      have el : b2.line k = l := by unfold Br.line; rw [hl]; rfl
      cases l with
      | nil => exact absurd rfl ne
      | cons c l => exact keyIn (sub k |>.subset (by rw [el]; exact List.mem_cons_self))
  · obtain ⟨b, hb⟩ := I.live n h0 h1 h2
    obtain ⟨b1, hb1, e⟩ := sweep_back (Ks := K2) hb
    cases e2 : aget (S.sweepTo 100).brs n with
    | some b2 => exact ⟨b2, rfl⟩
    | none =>
      have := (z3.del n b1 hb1 e2).1
      rw [e, (I.br n b hb).2.2.2.1, h2] at this
      cases this
  · obtain ⟨b, hb⟩ := I.live n h0 h1 h2
    rw [z2]
    have := Z.sees (head_view hb (by rw [(I.br n b hb).2.2.2.1]; exact h2)) k
    rw [show seesM (S.sweepTo 100) k n S.now = seesM S k n S.now from this]
    exact I.head n h0 h1 h2 k hk
/-! ### what is left at the end -/
inductive Up (N : Int) (un : Int → Int) (al : Int → Bool) : Int → Prop where
  | al {n : Int} : 0 ≤ n → n < N → al n = true → Up N un al n
  | by {m : Int} : Up N un al m → m ≠ 0 → Up N un al (un m)
theorem I14.way (I : I14 S N un al vs) {q n : Int} (w : Way S q n) : Up N un al q → Up N un al n := by
  induction w with
  | here n => exact id
  | down hb hq _ ih =>
    intro h
    refine ih ?_
    rename_i n q r b _
    have n0 : n ≠ 0 := fun z => by
      have := (I.W.root n b hb).mpr z
      rw [this] at hq; cases hq
    have := (I.br n b hb).2.2.1 n0
    rw [hq] at this
    rw [Option.some.inj this]
    exact h.by n0
theorem I14.up_in (I : I14 S N un al vs) {n : Int} (h : Up N un al n) : ∃ b, aget S.brs n = some b := by
  induction h with
  | al h0 h1 h2 => exact I.live _ h0 h1 h2
  | «by» _ n0 ih =>
    obtain ⟨b, hb⟩ := ih
    exact (I.W.ben _ b _ hb ((I.br _ b hb).2.2.1 n0)).2
theorem I14.left (I : I14 S N un al vs) (hN : N ≤ 10) (hh : S.hns = []) : ∀ (M : Nat) (n : Int), (N - n).toNat < M → ∀ b, aget (S.sweepTo 100).brs n = some b → Up N un al n
  | 0, n, hM, _, _ => by omega
  | M + 1, n, hM, b, hb => by
    obtain ⟨I2, idle, e1, e2, _, _⟩ := I.sweep hN
    obtain ⟨Z, z1, z2, z3⟩ := swept_all I.W I.zero (I.go hN)
    have eS : S.sweepTo 100 = (takeAll S (goM S)).takeM.takeB := by unfold Sh.sweepTo; rw [List.take_of_length_le (I.go hN)]
    obtain ⟨a1, a2, a3, a4, a5, a6⟩ := I2.br n b hb
    have W2 := (I.W.takeAll (goM S)).takeM
    have hb' := hb
    rw [eS] at hb'
    have hns : (takeAll S (goM S)).takeM.hns = [] := by rw [(takeM_rest _).1, (takeAll_hns _ _).1, hh]
    rcases takeB_why W2 hb' with y | y | y | ⟨m, c, y1, y2⟩
    · exact .al a1 a2 (by rw [← a4]; exact y)
    · cases el : b.lines with
      | nil => exact absurd el y
      | cons p ps =>
        have hp : aget b.lines p.1 = some p.2 := by rw [el]; obtain ⟨k, l⟩ := p; rw [aget_cons, if_pos rfl]
        have ne := (I2.W.ln n b p.1 p.2 hb hp).2.1
        have eq : b.line p.1 = p.2 := by unfold Br.line; rw [hp]; rfl
        cases hl : p.2 with
        | nil => exact absurd hl ne
        | cons c cs =>
          obtain ⟨r, hr⟩ := idle_reason I2.W idle hb (k := p.1) (c := c) (by rw [eq, hl]; exact List.mem_cons_self)
          obtain ⟨v, hv, w, w1, w2, w3, w4⟩ := reason_view hr
          unfold viewsM at hv
          rw [e1, hh] at hv
          rcases List.mem_append.mp hv with z | z
          · cases z
          · obtain ⟨u, hu, rfl⟩ := List.mem_map.mp z
            obtain ⟨hu1, hu2⟩ := List.mem_filter.mp hu
            have hu3 := aget_of_mem (nodup_of_lt I2.W.bks) hu1
            have hway := reach_way I2.W p.1 _ u.1 _ (Nat.lt_succ_self _) u.2 hu3 w w1
            rw [w2] at hway
            obtain ⟨b1, b2, _, b4, _⟩ := I2.br u.1 u.2 hu3
            exact I2.way hway (.al b1 b2 (by rw [← b4]; exact hu2))
    · rw [hns] at y; cases y
    · rw [← eS] at y1
      obtain ⟨c1, c2, c3, _⟩ := I2.br m c y1
      have lt := (I2.W.ben m c n y1 y2).1
      have n0 : m ≠ 0 := by omega
      have := I.left hN hh M m (by omega) c y1
      have e := c3 n0
      rw [y2] at e
      rw [Option.some.inj e]
      exact this.by n0
theorem I14.noMarks (I : I14 S N un al vs) (hN : N ≤ 10) (hh : S.hns = []) {n : Int} {b : Br} (hb : aget (S.sweepTo 100).brs n = some b) : b.marks = [] := by
  obtain ⟨Z, z1, z2, z3⟩ := swept_all I.W I.zero (I.go hN)
  exact takeM_none (I.W.takeAll (goM S)) (by rw [(takeAll_hns _ _).1, hh]) (z3.sub n b hb)
end
end Vs
namespace Vs
open PySem L2
section
variable {P : Program} {w : World} {K : PySem.W.Frag} {mg : Str → Option Value} {base : Heap} {T : Cs} {U : Es} {Pt : Addr}
/-! ### fork -/
def spFork (T : Cs) (U : Es) : Sp := fun vs H Q E => ∃ (Ks : List Str) (p : Addr) (S : Sh) (F : Addr → Prop) (n : Int), vs = [.ref p, .int n] ∧ LyAt T H p S F ∧ WF Ks S ∧ n.natAbs < 10 ^ 20 ∧
  (∀ h, aget S.hns n = some h → ∀ H' F', ShAt T H' p (S.fork h.br h.mom) F' → Step H F H' F' → Q (.int S.bm) H') ∧ (aget S.hns n = none → E (.ref U.noHand) none H)
theorem sc_fork : FnScope ["self", "hand", "held", "number"] ["self", "hand"] (defScope s_Shelf_fork) := ⟨rfl, rfl, rfl, by decide +kernel, rfl, by decide +kernel, by decide +kernel⟩
theorem ok_fork {f : Addr} {fd : FuncData} (F : Fun K "fork" "Shelf.fork" s_Shelf_fork f fd) (C : Cf K T) (c1 : Mx P w K mg base (L2.CX P w) T.S "hand_there" 1 ["self", "hand"] (spHandThere T U))
    (c2 : Kx P w K mg base "Branch" T.B 1 ["self", "beneath", "moment"] (spBranchInit T)) : FnOk P w K mg base (L2.CX P w) 3 f fd ["self", "hand"] (spFork T U) := by
  obtain ⟨f1, fd1, m1, b1, G1⟩ := c1
  obtain ⟨f2, fd2, g2, m2, b2, G2⟩ := c2
  refine F.okX sc_fork (fun vs H Q E h => ?_) (fun cdv A outer s H vs Q E hr h => ?_)
  · obtain ⟨Ks, p, S, F, n, rfl, _⟩ := h
    rfl
  · obtain ⟨Ks, p, S, F, n, rfl, ⟨α, δ, J, G, rfl, rfl, L, Z⟩, W, hn, q1, q2⟩ := h
    have hu := hu_of hr
    refine ⟨_, pss_cons (ps_set (i := 2) sc_fork.nd rfl (.inl rfl) (pe_meth (pv 0) C.S m1 G1 (hr.mono (by decide)) b1 .nil (passes_call (takes_of rfl rfl rfl rfl) (fun _ _ _ _ h => h)) (pa_cons (pv 1) pa_nil)))
      (pss_cons (ps_set (i := 3) sc_fork.nd rfl (.inl rfl) (pe_fld (pv 0) rfl))
      (pss_cons (ps_dput hu (pe_fld (pv 0) rfl) (pv 3) (pe_make m2 G2 hr rfl g2 b2 .nil pass0 (pa_cons (pe_fld (pv 2) rfl) (pa_cons (pe_fld (pv 2) rfl) pa_nil))) rfl)
      (pss_cons (ps_fldaug (pv 0) pe_int in_add)
      (pss_cons (ps_fld (pv 0) pe_dnewK rfl)
      (pss_one (ps_ret (pv 3))))))), ?_⟩
    refine ⟨_, rfl, _, _, _, rfl, L.sh, fSh_no, _, rfl, S, α, δ, J, G, n, rfl, L, hn, fun h hh => ?_, q2⟩
    refine ⟨_, rfl, _, _, _, _, _, rfl, L.sh, C.S, C.sBm, rfl, ?_⟩
    refine ⟨_, rfl, _, _, _, _, _, rfl, L.hn hh, C.N, C.nBr, rfl, _, rfl, _, _, _, _, _, rfl, L.hn hh, C.N, C.nMom, rfl, fun x dx hx hdx ndx => ?_⟩
    refine ⟨x, dx, some h.br, h.mom, rfl, upd_same, fun l m H1 hl hm nlm k1 h1 h2 h3 => ⟨rfl, ?_⟩⟩
    have free : ∀ a, (upd (upd H dx (.own x)) x (.ins T.B dx [])) a = none → a ≠ x ∧ H a = none := fun a q => by
      have n1 : a ≠ x := fun e => by rw [e, upd_same] at q; cases q
      rw [upd_ne n1] at q
      have n2 : a ≠ dx := fun e => by rw [e, upd_same] at q; cases q
      rw [upd_ne n2] at q
      exact ⟨n1, q⟩
    obtain ⟨nlx, hl0⟩ := free l hl
    obtain ⟨nmx, hm0⟩ := free m hm
    have k0 : ∀ b o, H b = some o → H1 b = some o := fun b o e => k1 b o (by rw [upd_ne (ne_of_none e hx), upd_ne (ne_of_none e hdx)]; exact e) (ne_of_none e hx)
    have e1 : H1 (α .sh) = some (.ins T.S (δ .sh) (fSh S α)) := k0 _ _ L.sh
    refine ⟨_, rfl, _, _, _, _, _, rfl, e1, C.S, C.sBrs, rfl, _, rfl, _, _, rfl, DPut.k (k := Sum.inl S.bm) (k0 _ _ L.brs) (by rw [enc_length]; exact le1000000 (Nat.le_trans W.cap.b (by decide))), ?_⟩
    obtain ⟨L2, st2⟩ := L.newBr (be := some h.br) (mom := h.mom) W.bfresh (Z _) hx hl0 hm0 (Ne.symm nlx) (Ne.symm nmx) nlm k0 h1 h2 h3
    refine ⟨_, rfl, _, _, _, _, _, rfl, L2.sh, C.S, C.sBm, rfl, _, _, rfl, rfl, _, _, L2.sh, by show 6 < 1000; decide, ?_⟩
    obtain ⟨L3, st3⟩ := L2.setSh S.now (S.bm + 1) S.hm
    intro j hj
    refine ⟨_, rfl, _, _, _, _, rfl, (upd_ne (ne_of_none L3.sh hj)).trans L3.sh, C.S, C.sJd, by show 6 < 1000; decide, ?_⟩
    obtain ⟨L4, st4⟩ := L3.void hj
    exact ⟨_, rfl, q1 h hh _ _ ⟨aJd (aBr α S.bm x l m) j, _, [], G, rfl, rfl, L4, RightJ.nil, Z⟩ (st2.trans (st3.trans st4))⟩
/-! ### drop -/
def spDrop (T : Cs) (U : Es) : Sp := fun vs H Q E => ∃ (p : Addr) (S : Sh) (F : Addr → Prop) (n : Int), vs = [.ref p, .int n] ∧ LyAt T H p S F ∧ n.natAbs < 10 ^ 20 ∧
  (∀ b, aget S.brs n = some b → (n = 0 → E (.ref U.noBranch) none H) ∧ (n ≠ 0 → (b.alive = true → ∀ H' F', ShAt T H' p (S.drop n b) F' → Step H F H' F' → Q .non H') ∧ (b.alive = false → E (.ref U.dropped) none H))) ∧ (aget S.brs n = none → E (.ref U.noBranch) none H)
theorem sc_drop : FnScope ["self", "branch", "there"] ["self", "branch"] (defScope s_Shelf_drop) := ⟨rfl, rfl, rfl, by decide +kernel, rfl, by decide +kernel, by decide +kernel⟩
theorem ok_drop {f : Addr} {fd : FuncData} (F : Fun K "drop" "Shelf.drop" s_Shelf_drop f fd) (C : Cf K T) (X : Ex K mg U) (c1 : Mx P w K mg base (L2.CX P w) T.S "branch_there" 1 ["self", "branch"] (spBranchThere T U)) :
    FnOk P w K mg base (L2.CX P w) 2 f fd ["self", "branch"] (spDrop T U) := by
  obtain ⟨f1, fd1, m1, b1, G1⟩ := c1
  refine F.okX sc_drop (fun vs H Q E h => ?_) (fun cdv A outer s H vs Q E hr h => ?_)
  · obtain ⟨p, S, F, n, rfl, _⟩ := h
    rfl
  · obtain ⟨p, S, F, n, rfl, ⟨α, δ, J, G, rfl, rfl, L, Z⟩, hn, q1, q2⟩ := h
    refine ⟨_, pss_cons (ps_set (i := 2) sc_drop.nd rfl (.inl rfl) (pe_meth (pv 0) C.S m1 G1 hr b1 .nil (passes_call (takes_of rfl rfl rfl rfl) (fun _ _ _ _ h => h)) (pa_cons (pv 1) pa_nil)))
      (pss_cons (ps_if (pt_cmpR op_eq (pv 1) pe_int (nomark _)) (pss_one (ps_raise rfl (takes_of rfl rfl rfl rfl) (pmk_ownA PySem.F.excBase_ValueError X.noBranch.x X.noBranch.g X.noBranch.k (raises_own X.noBranch.b X.noBranch.t) rfl (pa_cons pe_str pa_nil)))) pss_nil)
      (pss_cons (ps_if (pt_not (pt_val (pe_fld (pv 2) rfl)))
        (pss_one (ps_raise rfl (takes_of rfl rfl rfl rfl) (pmk_ownA PySem.F.excBase_ValueError X.dropped.x X.dropped.g X.dropped.k (raises_own X.dropped.b X.dropped.t) rfl (pa_cons (pe_joined (.cons pe_str (.cons (pe_fmt (pv 1)) (.cons pe_str .nil)))) pa_nil)))) pss_nil)
      (pss_cons (ps_fld (pv 2) pe_bl rfl)
      (pss_one (ps_fld (pv 0) pe_dnewK rfl))))), ?_⟩
    refine ⟨_, rfl, _, _, _, rfl, L.sh, fSh_no, _, rfl, S, α, δ, J, G, n, rfl, L, hn, fun b hb => ?_, q2⟩
    obtain ⟨r1, r2⟩ := q1 b hb
    refine ⟨_, rfl, rfl, _, rfl, ?_⟩
    by_cases n0 : n = 0
    · exact ifT (decide_eq_true (by rw [n0])) ⟨by show 1 ≤ sizeLine; decide, r1 n0⟩
    · refine ifF (decide_eq_false (fun z => n0 (V.int.inj z))) ?_
      obtain ⟨r3, r4⟩ := r2 n0
      refine ⟨_, rfl, _, _, _, _, _, rfl, L.br hb, C.B, C.bAl, rfl, _, rfl, ?_⟩
      cases hal : b.alive with
      | false =>
        have f1 := fit1 (b := ("branch " : Str)) (by decide +kernel)
        have f2 := fit2 (b := Str.ofString (toString n)) f1.1 (by have := text_small hn; omega)
        have f3 := fit2 (b := (" was dropped" : Str)) f2.1 (by decide +kernel)
        exact ifT rfl ⟨_, rfl, f1.2, _, rfl, .inr ⟨n, rfl, log2_small hn, _, rfl, f2.2, _, rfl, f3.2, by show 1 ≤ sizeLine; decide, r4 hal⟩⟩
      | true =>
        refine ifF rfl ⟨_, rfl, _, _, _, _, rfl, L.br hb, C.B, C.bAl, by show 5 < 1000; decide, ?_⟩
        obtain ⟨L1, st1⟩ := L.setAlive hb false
        intro j hj
        refine ⟨_, rfl, _, _, _, _, rfl, (upd_ne (ne_of_none L1.sh hj)).trans L1.sh, C.S, C.sJd, by show 6 < 1000; decide, ?_⟩
        obtain ⟨L2, st2⟩ := L1.void hj
        exact r3 hal _ _ ⟨aJd α j, δ, [], G, rfl, rfl, L2, RightJ.nil, Z⟩ (st1.trans st2)
/-! ### reason -/
theorem rsnGet {H : Hp} {eo : List (List Key × V)} {os : List ((Int × Int) × Rsn)} (h : RsRep H eo os) (n b : Int) : RsnO H ((valV eo (cellKey (n, b))).getD .non) (aget os (n, b)) := by
  obtain ⟨r1, r2⟩ := repVal (p := (n, b)) (R := RsnAt H) h
  cases e : valV eo (cellKey (n, b)) with
  | none =>
    have := r2 e
    rw [this]; rfl
  | some v =>
    obtain ⟨o, e1, e2⟩ := r1 v e
    rw [e1]; exact e2
theorem newC_own {l : List Cel} {m : Int} {v : Option Int} (r : Rise l) (h : (m, v) ∈ l) : ∃ j, cnt l m = j + 1 ∧ newC l m = some (m, v) := by
  have hm : (m, v) ∈ l.filter (fun c => decide (c.1 ≤ m)) := List.mem_filter.mpr ⟨h, by simp⟩
  have hR : (l.filter (fun c => decide (c.1 ≤ m))).Pairwise (fun a b => a.1 < b.1) := r.sublist List.filter_sublist
  have up : ∀ c ∈ l.filter (fun c => decide (c.1 ≤ m)), c.1 ≤ m := fun c hc => of_decide_eq_true (List.mem_filter.mp hc).2
  unfold cnt newC
  generalize l.filter (fun c => decide (c.1 ≤ m)) = xs at *
  obtain ⟨i, hi, hi'⟩ := List.getElem_of_mem hm
  refine ⟨xs.length - 1, by omega, ?_⟩
  rw [List.getLast?_eq_getElem?, List.getElem?_eq_getElem (by omega)]
  have hj : xs.length - 1 < xs.length := by omega
  rcases Nat.lt_or_eq_of_le (show i ≤ xs.length - 1 by omega) with lt | eq
  · have h1 := List.pairwise_iff_getElem.mp hR i (xs.length - 1) hi hj lt
    have h2 := up _ (List.getElem_mem hj)
    rw [hi'] at h1
    dsimp only at h1
    omega
  · subst eq
    rw [hi']
/-- of a version that is there -/
def spReasonOf (T : Cs) (Pt : Addr) : Sp := fun vs H Q E => ∃ (Ks : List Str) (p : Addr) (S : Sh) (F : Addr → Prop) (n : Int) (k : Str) (m : Int) (b : Br) (v : Option Int), vs = [.ref p, .int n, .str k, .int m] ∧ ShAt T H p S F ∧ WF Ks S ∧ GxR.TabG H Pt ∧ n.natAbs < 10 ^ 20 ∧ k.length ≤ 1000 ∧
  isKeyB k = true ∧ aget S.brs n = some b ∧ (m, v) ∈ b.line k ∧ ∀ H' F' u, ShAt T H' p S F' → Step H F H' F' → RsnO H' u (aget (reasonsM S k) (n, m)) → Q u H'
theorem sc_reasonOf : FnScope ["self", "branch", "key", "born", "there", "line", "place"] ["self", "branch", "key", "born"] (defScope s_Shelf_reason) := ⟨rfl, rfl, rfl, by decide +kernel, rfl, by decide +kernel, by decide +kernel⟩
theorem ok_reasonOf {f : Addr} {fd : FuncData} (F : Fun K "reason" "Shelf.reason" s_Shelf_reason f fd) (C : Cf K T) (X : Xc K mg "NoCell" U.noCell) (c1 : Mx P w K mg base (L2.CX P w) T.S "branch_there" 1 ["self", "branch"] (spBranchThere T U))
    (c2 : Fx P w K mg base (L2.CX P w) "check_key" 4 ["key"] (spCheck U Pt)) (c3 : Fx P w K mg base CX0 "newest" 1 ["line", "moment"] (spNewest K)) (c4 : Mx P w K mg base CX0 T.S "judgement" 6 ["self", "key"] (spJudgement T)) :
    FnOk P w K mg base (L2.CX P w) 7 f fd ["self", "branch", "key", "born"] (spReasonOf T Pt) := by
  obtain ⟨f1, fd1, m1, b1, G1⟩ := c1
  obtain ⟨f2, fd2, g2, k2, b2, G2⟩ := c2
  obtain ⟨f3, fd3, g3, k3, b3, G3⟩ := c3
  obtain ⟨f4, fd4, m4, b4, G4⟩ := c4
  refine F.okX sc_reasonOf (fun vs H Q E h => ?_) (fun cdv A outer s H vs Q E hr h => ?_)
  · obtain ⟨Ks, p, S, F, n, k, m, b, v, rfl, _⟩ := h
    rfl
  · obtain ⟨Ks, p, S, F, n, k, m, b, v, rfl, ⟨α, δ, J, G, rfl, rfl, L, R, Z⟩, W, hT, hn, hk, hy, hb, hc, kq⟩ := h
    have hu := hu_of hr
    refine ⟨_, pss_cons (ps_set (i := 4) sc_reasonOf.nd rfl (.inl rfl) (pe_meth (pv 0) C.S m1 G1 (hr.mono (by decide)) b1 .nil (passes_call (takes_of rfl rfl rfl rfl) (fun _ _ _ _ h => h)) (pa_cons (pv 1) pa_nil)))
      (pss_cons (ps_expr (pe_call G2 (hr.mono (by decide)) rfl g2 k2 b2 .nil (passes_call (takes_of rfl rfl rfl rfl) (fun _ _ _ _ h => h)) (pa_cons (pv 2) pa_nil)))
      (pss_cons (ps_set (i := 5) sc_reasonOf.nd rfl (.inl rfl) (pe_dget2 hu (pe_fld (pv 4) rfl) (pv 2) (pe_lst pa_nil) ⟨rfl, rfl, rfl, rfl⟩))
      (pss_cons (ps_set (i := 6) sc_reasonOf.nd rfl (.inl rfl) (pe_call G3 (hr.mono (by decide)) rfl g3 k3 b3 .nil pass0 (pa_cons (pv 5) (pa_cons (pv 3) pa_nil))))
      (pss_cons (ps_if (PW.pt (pw_or (pt_cmpR op_lt (pv 6) pe_int (nomark _)) (pw_or1 (pt_cmpR op_ne (pe_ix ix_tup (pe_ix ix_list (pv 5) (pv 6) (fun _ _ => rfl)) pe_int (fun _ _ => rfl)) (pv 3) (nomark _)))))
        (pss_one (ps_raise rfl (takes_of rfl rfl rfl rfl) (pmk_ownA PySem.F.excBase_ValueError X.x X.g X.k (raises_own X.b X.t) rfl (pa_cons (pe_joined (.cons pe_str (.cons (pe_fmt (pv 1)) (.cons pe_str (.cons (pe_fmt (pv 2)) (.cons pe_str (.cons (pe_fmt (pv 3)) .nil))))))) pa_nil)))) pss_nil)
      (pss_one (ps_ret (pe_dget1 hu (pe_fld (pe_meth (pv 0) C.S m4 G4 hr b4 .nil pass0 (pa_cons (pv 2) pa_nil)) rfl) (pe_tup (pa_cons (pv 1) (pa_cons (pv 3) pa_nil))) ⟨rfl, rfl, rfl, rfl⟩))))))), ?_⟩
    refine ⟨_, rfl, _, _, _, rfl, L.sh, fSh_no, _, rfl, S, α, δ, J, G, n, rfl, L, hn, fun b' hb' => ?_, fun z => by rw [hb] at z; cases z⟩
    refine ⟨_, rfl, k, rfl, hk, hT, fun H1 s1 => ⟨fun _ => ?_, fun z => by rw [hy] at z; cases z⟩⟩
    have L1 := L.sm s1
    refine ⟨_, rfl, _, _, _, _, _, rfl, L1.br hb, C.B, C.bLn, rfl, _, rfl, .inl ⟨_, L1.lnsR hb⟩, _, rfl, by show 0 ≤ sizeLine; exact Nat.zero_le _, fun p hp => ?_⟩
    have s2 := Sm.new (o := .lst []) hp
    obtain ⟨o, rs, a, g1, g2, g3, g4, _⟩ := L1.getLine hb k s2 upd_same
    refine ⟨o, g1, ?_⟩
    rw [g2]
    have hR := W.rise hb k
    refine ⟨_, rfl, _, rfl, a, m, rs, b.line k, rfl, SqL.of g3, g4, hR, ?_⟩
    have L2 := L1.sm s2
    generalize upd H1 p (.lst []) = H2 at s2 L2 g1 g3 g4
    have s12 := s1.trans s2
    obtain ⟨j, hj, hm⟩ : ∃ j, cnt (b.line k) m = j + 1 ∧ newC (b.line k) m = some (m, v) := newC_own hR hc
    obtain ⟨c, c1, c2, c3⟩ := newC_at hR hj
    rw [hm] at c2
    obtain rfl := Option.some.inj c2
    obtain ⟨t, t1, t2⟩ := g4.get c1
    rw [hj]
    refine ⟨_, rfl, _, _, rfl, rfl, _, rfl, ifF (decide_eq_false (by omega)) ?_⟩
    refine ⟨_, rfl, _, rfl, a, _, _, _, rfl, rfl, SqL.of g3, (by rw [show (((j + 1 : Nat) : Int) - 1) = (j : Int) by omega]; exact atI_nat t1), t, _, _, _, rfl, rfl, SqT.of t2, rfl, _, rfl, ?_⟩
    refine ⟨rfl, _, rfl, ifF (by simp) ?_⟩
    refine ⟨_, rfl, _, _, _, rfl, L2.sh, fSh_no, _, rfl, Ks, S, α, δ, J, G, k, rfl, L2, R.rt, W, Nat.le_trans (R.len W) (by decide), fun H3 α3 δ3 J3 G3 off fz L3 R3 hJ kin st => ?_⟩
    obtain ⟨er, r1, r2⟩ := L3.rs kin
    refine ⟨_, _, _, _, _, rfl, L3.jg kin, C.J, C.jRs, rfl, _, rfl, .inr ⟨_, .inl r1⟩, _, rfl, _, rfl, by show 2 ≤ sizeLine; decide, fun t1 hf1 => ?_⟩
    have s4 : Sm H3 (upd H3 t1 (.tup [.int n, .int m])) := Sm.new hf1
    have t1at : upd H3 t1 (.tup [.int n, .int m]) t1 = some (.tup ((cellKey (n, m)).map kV)) := upd_same
    generalize upd H3 t1 (.tup [.int n, .int m]) = H4 at s4 t1at
    refine ⟨_, DGet.t (s4.dT r1) t1at, ?_⟩
    have hkl : k ∈ b.lines.map (·.1) := by
      unfold Br.line at hc
      cases e : aget b.lines k with
      | none => rw [e] at hc; cases hc
      | some l => exact List.mem_map.mpr ⟨_, aget_mem e, rfl⟩
    have RJ : RightJ S J3 G3 := by
      refine ⟨R3, ?_, fun j hj => ?_⟩
      · rcases hJ with ⟨_, rfl⟩ | ⟨nk, rfl⟩
        · exact R.nd
        · rw [List.nodup_append]
          refine ⟨R.nd, List.nodup_cons.mpr ⟨fun z => (by cases z), List.nodup_nil⟩, fun x hx y hy e => nk ?_⟩
          have : y = k := by simpa using hy
          rw [← this, ← e]; exact hx
      · rcases hJ with ⟨_, rfl⟩ | ⟨nk, rfl⟩
        · exact R.ink j hj
        · rcases List.mem_append.mp hj with z | z
          · exact R.ink j z
          · obtain rfl : j = k := by simpa using z
            exact ⟨n, b, hb, hkl⟩
    refine kq H4 _ _ ⟨α3, δ3, J3, G3, off .sh (fun k => ⟨(by intro z; cases z), (by intro z; cases z), (by intro z; cases z)⟩), rfl, L3.sm s4, RJ, fun n => by rw [fz]; exact Z n⟩ ((Step.sm s12).trans (st.trans (Step.sm s4))) ?_
    have := rsnGet (RsRep.tups s4.tups r2) n m
    rw [R3 k kin] at this
    exact this
end
end Vs
/-! ## Deep branches: what stands beside the shelf -/
namespace Vs
open PySem L2 PyProof.Rows
theorem passE {X : Cx} {P : Program} {w : World} : Passes (L2.CX P w) X E0 := fun _ _ _ _ _ _ _ ⟨_, _, _, _, _, _, _, _, _, _, _, _, h⟩ => h.elim
theorem seq_by {t u : TS} {D : Ends} {σ : L2.St} {H : Hp} (I : L2.St → Hp → Prop) (h2 : ∀ σ' H', I σ' H' → u D σ' H') (h1 : ∀ R : L2.St → Hp → Prop, (∀ σ' H', I σ' H' → R σ' H') → t { D with nx := R } σ H) : tSeq t u D σ H := h1 _ h2
theorem ShAt.away {T : Cs} {H : Hp} {p : Addr} {S : Sh} {F : Addr → Prop} (h : ShAt T H p S F) {a : Addr} (n : ¬ F a) {u : HO} (hu : H a = some u) (nt : ∀ xs, u ≠ .tup xs) (o : HO) : ShAt T (upd H a o) p S F := by
  obtain ⟨α, δ, J, G, h1, h2, h3, h4⟩ := h
  subst h2
  exact ⟨α, δ, J, G, h1, rfl, h3.keep (fun b xs e => by rw [upd_ne (fun z => by rw [z, hu] at e; exact nt xs (Option.some.inj e))]; exact e) (fun r hr => upd_ne fun e => n ⟨r, hr, e⟩), h4⟩
theorem LyAt.sm {T : Cs} {H H' : Hp} {p : Addr} {S : Sh} {F : Addr → Prop} (h : LyAt T H p S F) (s : Sm H H') : LyAt T H' p S F := by
  obtain ⟨α, δ, J, G, h1, h2, h3, h4⟩ := h
  exact ⟨α, δ, J, G, h1, h2, h3.sm s, h4⟩
theorem LyAt.new {T : Cs} {H : Hp} {p : Addr} {S : Sh} {F : Addr → Prop} (h : LyAt T H p S F) {a : Addr} (n : H a = none) : ¬ F a := by
  obtain ⟨α, δ, J, G, h1, rfl, h3, _⟩ := h
  rintro ⟨r, hr, e⟩
  exact h3.nofr n hr e
theorem LyAt.ins {T : Cs} {H : Hp} {p : Addr} {S : Sh} {F : Addr → Prop} (h : LyAt T H p S F) : ∃ dx fs, H p = some (.ins T.S dx fs) ∧ ∀ m : Str, (["now", "branches", "branches_made", "hands", "hands_made", "judged"] : List Str).contains m = false → fs.lookup m = none := by
  obtain ⟨α, δ, J, G, rfl, _, h3, _⟩ := h
  exact ⟨_, _, h3.sh, fun m hm => fSh_no hm⟩
theorem tab_upd {Pt : Addr} {H : Hp} {a : Addr} {u : HO} (h : H a = some u) (nu : NT u) (t : GxR.TabG H Pt) (o : HO) : GxR.TabG (upd H a o) Pt := by
  obtain ⟨ps, e, q⟩ := t
  exact ⟨ps, by rw [upd_ne (ne_of e h (fun z => nu ps z.symm))]; exact e, q⟩
/-- from one heap to the next beside the row at ro -/
structure Stp (ro : Addr) (H : Hp) (F : Addr → Prop) (H' : Hp) (F' : Addr → Prop) : Prop where
  keep : ∀ a o, H a = some o → NT o → ¬ F a → a ≠ ro → H' a = some o ∧ ¬ F' a
  tups : Tups H H'
theorem Stp.refl (ro : Addr) (H : Hp) (F : Addr → Prop) : Stp ro H F H F := ⟨fun _ _ h _ n _ => ⟨h, n⟩, Tups.refl H⟩
theorem Stp.of {ro : Addr} {H H' : Hp} {F F' : Addr → Prop} (s : Step H F H' F') : Stp ro H F H' F' := ⟨fun a o h t n _ => s.keep a o h t n, s.tups⟩
theorem Stp.sm {ro : Addr} {H H' : Hp} {F : Addr → Prop} (s : Sm H H') : Stp ro H F H' F := .of (Step.sm s)
theorem Stp.trans {ro : Addr} {H1 H2 H3 : Hp} {F1 F2 F3 : Addr → Prop} (a : Stp ro H1 F1 H2 F2) (b : Stp ro H2 F2 H3 F3) : Stp ro H1 F1 H3 F3 :=
  ⟨fun c o h t n r => let ⟨h', n'⟩ := a.keep c o h t n r; b.keep c o h' t n' r, a.tups.trans b.tups⟩
/-- the row and the script -/
structure RO (K : PySem.W.Frag) (Pt sc : Addr) (ns : List Int) (ro : Addr) (H : Hp) (F : Addr → Prop) : Prop where
  row : RowAt H ro sc
  nro : ¬ F ro
  scr : ((H sc = some (.lst (ns.map V.int)) ∨ ∃ o, H sc = some (.frz o (.lst (ns.map V.int)))) ∧ ¬ F sc ∧ ro ≠ sc) ∨ ∀ H', SqL K H' sc (ns.map V.int)
  tab : GxR.TabG H Pt
section
variable {K : PySem.W.Frag} {T : Cs} {Pt sc : Addr} {ns : List Int} {ro p : Addr} {S : Sh} {H H' : Hp} {F F' : Addr → Prop}
theorem RowAt.at {H : Hp} {a sc : Addr} (h : RowAt H a sc) : ∃ xs, H a = some (.lst xs) := by
  obtain ⟨i, s, b, h, _⟩ := h; exact ⟨_, h⟩
theorem RO.scR (o : RO K Pt sc ns ro H F) : ScR K H ro sc (ns.map V.int) := by
  rcases o.scr with ⟨h, _, n⟩ | h
  · exact .inl ⟨n, h⟩
  · exact .inr h
theorem RO.step (o : RO K Pt sc ns ro H F) (st : Step H F H' F') : RO K Pt sc ns ro H' F' := by
  obtain ⟨i, sd, bg, h1, h4⟩ := o.row
  have kr := st.keep ro _ h1 (ntL _) o.nro
  refine ⟨⟨i, sd, bg, kr.1, h4⟩, kr.2, ?_, st.tab _ o.tab⟩
  rcases o.scr with ⟨h | ⟨x, h⟩, n, n1⟩ | h
  · have k := st.keep sc _ h (ntL _) n
    exact .inl ⟨.inl k.1, k.2, n1⟩
  · have k := st.keep sc _ h (fun _ z => by cases z) n
    exact .inl ⟨.inr ⟨x, k.1⟩, k.2, n1⟩
  · exact .inr h
theorem RO.sm (o : RO K Pt sc ns ro H F) (s : Sm H H') : RO K Pt sc ns ro H' F := o.step (Step.sm s)
/-- a number was taken -/
theorem RO.taken (o : RO K Pt sc ns ro H F) (sh : ShAt T H p S F) {xs : List V} (r : RowAt (upd H ro (.lst xs)) ro sc) : ShAt T (upd H ro (.lst xs)) p S F ∧ RO K Pt sc ns ro (upd H ro (.lst xs)) F ∧ Stp ro H F (upd H ro (.lst xs)) F := by
  obtain ⟨i, sd, bg, h1, h4⟩ := o.row
  have tp : Tups H (upd H ro (.lst xs)) := fun b ys e => by rw [upd_ne (ne_of e h1 (by intro z; cases z))]; exact e
  refine ⟨sh.away o.nro h1 (fun _ z => by cases z) _, ⟨r, o.nro, ?_, tab_upd h1 (ntL _) o.tab _⟩, fun a u e _ n na => ⟨by rw [upd_ne na]; exact e, n⟩, tp⟩
  · rcases o.scr with ⟨h | ⟨x, h⟩, n, n1⟩ | h
    · exact .inl ⟨.inl (by rw [upd_ne (Ne.symm n1)]; exact h), n, n1⟩
    · exact .inl ⟨.inr ⟨x, by rw [upd_ne (Ne.symm n1)]; exact h⟩, n, n1⟩
    · exact .inr h
/-- another object beside the shelf was changed -/
theorem RO.put (o : RO K Pt sc ns ro H F) {a : Addr} {u : HO} (ha : H a = some u) (nu : NT u) (n1 : a ≠ ro) (n2 : (∀ H', SqL K H' sc (ns.map V.int)) ∨ a ≠ sc) (v : HO) : RO K Pt sc ns ro (upd H a v) F := by
  obtain ⟨i, sd, bg, h1, h4⟩ := o.row
  refine ⟨⟨i, sd, bg, by rw [upd_ne (Ne.symm n1)]; exact h1, h4⟩, o.nro, ?_, tab_upd ha nu o.tab _⟩
  rcases n2 with h | n2
  · exact .inr h
  · rcases o.scr with ⟨h | ⟨x, h⟩, n, n1⟩ | h
    · exact .inl ⟨.inl (by rw [upd_ne (Ne.symm n2)]; exact h), n, n1⟩
    · exact .inl ⟨.inr ⟨x, by rw [upd_ne (Ne.symm n2)]; exact h⟩, n, n1⟩
    · exact .inr h
theorem RO.fresh (o : RO K Pt sc ns ro H F) {a : Addr} (h : H a = none) : a ≠ ro ∧ ((∀ H', SqL K H' sc (ns.map V.int)) ∨ a ≠ sc) := by
  obtain ⟨i, sd, bg, h1, h4⟩ := o.row
  refine ⟨(ne_of_none h1 h).symm, ?_⟩
  rcases o.scr with ⟨h' | ⟨x, h'⟩, n, n1⟩ | h'
  · exact .inr (ne_of_none h' h).symm
  · exact .inr (ne_of_none h' h).symm
  · exact .inl h'
end
end Vs
namespace Vs
open PySem L2 PyProof.Rows
abbrev V2 := Option Int × Option Int
def vD (x : V2) : List (Key × V) := [(.inr "a", optV x.1), (.inr "b", optV x.2)]
def V2.at (x : V2) (k : Str) : Option Int := if k = "a" then x.1 else x.2
def V2.put (x : V2) (k : Str) (v : Option Int) : V2 := if k = "a" then (v, x.2) else (x.1, v)
theorem vD_put (x : V2) {k : Str} (hk : k ∈ K2) (v : Option Int) : putK (vD x) (.inr k) (optV v) = vD (x.put k v) := by
  rcases List.mem_cons.mp hk with rfl | hk
  · rfl
  · obtain rfl : k = "b" := by simpa using hk
    rfl
theorem vD_get (x : V2) {k : Str} (hk : k ∈ K2) : valV (vD x) (.inr k) = some (optV (x.at k)) := by
  rcases List.mem_cons.mp hk with rfl | hk
  · rfl
  · obtain rfl : k = "b" := by simpa using hk
    rfl
theorem at_put (x : V2) {k j : Str} (hk : k ∈ K2) (hj : j ∈ K2) (v : Option Int) : (x.put k v).at j = if j = k then v else x.at j := by
  rcases List.mem_cons.mp hk with rfl | hk <;> rcases List.mem_cons.mp hj with rfl | hj
  · rfl
  · obtain rfl : j = "b" := by simpa using hj
    rfl
  · obtain rfl : k = "b" := by simpa using hk
    rfl
  · obtain rfl : k = "b" := by simpa using hk
    obtain rfl : j = "b" := by simpa using hj
    rfl
theorem key_K2 {k : Str} (hk : k ∈ K2) : isKeyB k = true ∧ k.length ≤ 1000 := by
  rcases List.mem_cons.mp hk with rfl | hk
  · exact ⟨by decide +kernel, by decide +kernel⟩
  · obtain rfl : k = "b" := by simpa using hk
    exact ⟨by decide +kernel, by decide +kernel⟩
section
variable {P : Program} {w : World} {K : PySem.W.Frag} {mg : Str → Option Value} {base : Heap} {T : Cs} {U : Es} {Pt : Addr}
/-! ### _law_made -/
def spMade (K : PySem.W.Frag) (T : Cs) (Pt : Addr) : Sp := fun vs H Q _ => ∃ (ro p D sc : Addr) (ns : List Int) (S : Sh) (F : Addr → Prop) (n : Int) (b : Br) (x : V2), vs = [.ref ro, .ref p, .int n, .ref D] ∧ RO K Pt sc ns ro H F ∧ ShAt T H p S F ∧ WF K2 S ∧
  aget S.brs n = some b ∧ b.alive = true ∧ S.now < 900 ∧ S.hns.length < 900 ∧ 0 ≤ S.hm ∧ S.hm < 10 ^ 9 ∧ n < 10 ^ 9 ∧ H D = some (.dK (vD x)) ∧ ¬ F D ∧ D ≠ ro ∧
  ∀ H' F' S' D' x', ShAt T H' p S' F' → RO K Pt sc ns ro H' F' → Stp ro H F H' F' → H' D' = some (.dK (vD x')) → ¬ F' D' → D' ≠ ro → (∀ a o, H a = some o → NT o → ¬ F a → a ≠ D') → WF K2 S' →
    ((S' = { S with hm := S.hm + 1 } ∧ x' = x) ∨ ∃ k v, k ∈ K2 ∧ S' = S.putV n b k v ∧ x' = x.put k v) → Q (.ref D') H'
abbrev nMade : List Str := ["_law_row", "_law_shelf", "_law_branch", "_law_values", "_law_hand", "_law_way", "_law_key", "_law_found"]
theorem sc_made : FnScope nMade ["_law_row", "_law_shelf", "_law_branch", "_law_values"] (defScope s__law_made) := ⟨rfl, rfl, rfl, by decide +kernel, rfl, by decide +kernel, by decide +kernel⟩
theorem ok_made {f : Addr} {fd : FuncData} (F : Fun K "_law_made" "_law_made" s__law_made f fd) (B : Bt mg) (bd : mg "dict" = none) (C : Cf K T) (ct : Fx P w K mg base CX0 "_law_taken" 1 ["_law_row", "_law_many"] (spTaken K))
    (cbe : Mx P w K mg base (L2.CX P w) T.S "begin" 4 ["self", "branch"] (spBegin T U)) (cer : Mx P w K mg base (L2.CX P w) T.S "erase" 5 ["self", "hand", "key"] (spErase T U Pt)) (cwr : Mx P w K mg base (L2.CX P w) T.S "write" 5 ["self", "hand", "key", "value"] (spWrite T U Pt))
    (cco : Mx P w K mg base (L2.CX P w) T.S "commit" 4 ["self", "hand"] (spCommit T U)) : FnOk P w K mg base CX0 6 f fd ["_law_row", "_law_shelf", "_law_branch", "_law_values"] (spMade K T Pt) := by
  obtain ⟨ft, fdt, gt, kt, bt, Gt⟩ := ct
  obtain ⟨fbe, fdbe, mbe, bbe, Gbe⟩ := cbe
  obtain ⟨fer, fder, mer, ber, Ger⟩ := cer
  obtain ⟨fwr, fdwr, mwr, bwr, Gwr⟩ := cwr
  obtain ⟨fco, fdco, mco, bco, Gco⟩ := cco
  refine F.ok sc_made (fun vs H Q E h => ?_) (fun cdv A outer s H vs Q E hr h => ?_)
  · obtain ⟨ro, p, D, sc, ns, S, F, n, b, x, rfl, _⟩ := h
    rfl
  · obtain ⟨ro, p, D, sc, ns, S, F, n, b, x, rfl, o, sh, W, hb, ha, hnow, hlen, hm0, hm1, hn1, hD, nFD, nDr, kq⟩ := h
    have hu := hu_of hr
    refine ⟨_, pss_cons (ps_set (i := 4) sc_made.nd rfl (.inl rfl) (pe_meth (pv 1) C.S mbe Gbe (hr.mono (by decide)) bbe .nil passE (pa_cons (pv 2) pa_nil)))
      (pss_cons (ps_set (i := 5) sc_made.nd rfl (.inl rfl) (pe_call Gt (hr.mono (by decide)) rfl gt kt bt .nil pass0 (pa_cons (pv 0) (pa_cons pe_int pa_nil))))
      (pss_cons (ps_set (i := 6) sc_made.nd rfl (.inl rfl) (pe_ix ix_str pe_str (pe_call Gt (hr.mono (by decide)) rfl gt kt bt .nil pass0 (pa_cons (pv 0) (pa_cons pe_int pa_nil))) (fun _ _ => rfl)))
      (pss_cons (ps_set (i := 7) sc_made.nd rfl (.inl rfl) (pe_callTy call_dictD (by rfl) bd (by decide +kernel) (pa_cons (pv 3) pa_nil)))
      (pss_cons (ps_if (pt_cmpR op_lt (pv 5) pe_int (nomark _))
        (pss_cons (ps_dput hu (pv 7) (pv 6) (pe_call Gt (hr.mono (by decide)) rfl gt kt bt .nil pass0 (pa_cons (pv 0) (pa_cons pe_int pa_nil))) rfl)
        (pss_one (ps_expr (pe_meth (pv 1) C.S mwr Gwr hr bwr .nil passE (pa_cons (pv 4) (pa_cons (pv 6) (pa_cons (pe_dget hu (pv 7) (pv 6) (fun _ _ => rfl)) pa_nil)))))))
        (pss_one (ps_if (pt_cmpR op_eq (pv 5) pe_int (nomark _))
          (pss_cons (ps_dput hu (pv 7) (pv 6) pe_non rfl)
          (pss_one (ps_expr (pe_meth (pv 1) C.S mer Ger hr ber .nil passE (pa_cons (pv 4) (pa_cons (pv 6) pa_nil)))))) pss_nil)))
      (pss_cons (ps_expr (pe_meth (pv 1) C.S mco Gco (hr.mono (by decide)) bco .nil passE (pa_cons (pv 4) pa_nil)))
      (pss_one (ps_ret (pv 7)))))))), ?_⟩
    have nb := W.bnd n b hb
    have h20 : (10 : Nat) ^ 20 = 100000000000000000000 := by decide
    have W1 := W.addHand ⟨b, hb⟩ W.sz.1 (Int.le_refl _) (by omega) ⟨hm0, by omega⟩
    obtain ⟨dx, fs, hp, no⟩ := sh.ly.ins
    refine ⟨_, rfl, p, dx, fs, rfl, hp, no _ (by decide +kernel), _, rfl, K2, p, S, F, n, rfl, sh.ly, W, by omega, fun b' hb' => ⟨fun _ H1 F1 sh1 st1 => ?_, fun z => by rw [hb] at hb'; cases hb'; rw [ha] at z; cases z⟩, fun z => by rw [hb] at z; cases z⟩
    have o1 := o.step st1
    refine ⟨_, rfl, ro, 4, sc, ns, rfl, o1.row, o1.scR, by decide, by decide, fun way ys _ _ d2 => ?_⟩
    obtain ⟨sh2, o2, st2⟩ := o1.taken sh1 d2
    generalize upd H1 ro (.lst ys) = H2 at sh2 o2 st2
    refine ⟨_, rfl, ro, 2, sc, ns, rfl, o2.row, o2.scR, by decide, by decide, fun kr ys k0 k1 d3 => ?_⟩
    obtain ⟨sh3, o3, st3⟩ := o2.taken sh2 d3
    generalize upd H2 ro (.lst ys) = H3 at sh3 o3 st3
    have st03 := ((Stp.of st1).trans st2).trans st3
    obtain ⟨k, hk, ck⟩ : ∃ k ∈ K2, ∃ c, atI ("ab" : Str).cps.toList kr = some c ∧ (⟨#[c]⟩ : Str) = k := by
      have : kr = 0 ∨ kr = 1 := by omega
      rcases this with rfl | rfl
      · exact ⟨"a", List.mem_cons_self, _, rfl, rfl⟩
      · exact ⟨"b", by simp, _, rfl, rfl⟩
    obtain ⟨c, ck, rfl⟩ := ck
    refine ⟨_, _, c, rfl, rfl, by decide +kernel, ck, ?_⟩
    have hD3 := st03.keep D _ hD (ntD _) nFD nDr
    refine ⟨_, rfl, D, _, rfl, .inl hD3.1, fun D' hD' => ?_⟩
    have s4 : Sm H3 (upd H3 D' (.dK (vD x))) := Sm.new hD'
    have h4 : upd H3 D' (.dK (vD x)) D' = some (.dK (vD x)) := upd_same
    have nF4 : ¬ F1 D' := sh3.ly.new hD'
    obtain ⟨nDr', nDs⟩ := o3.fresh hD'
    have new : ∀ a u, H a = some u → NT u → ¬ F a → a ≠ D' := fun a u e nt nf => by
      by_cases q : a = ro
      · rw [q]; exact Ne.symm nDr'
      · exact ne_of_none (st03.keep a u e nt nf q).1 hD'
    have sh4 := sh3.sm s4
    have o4 := o3.sm s4
    have st04 := st03.trans (Stp.sm (ro := ro) (F := F1) s4)
    generalize upd H3 D' (.dK (vD x)) = H4 at s4 h4 sh4 o4 st04
    generalize (⟨#[c]⟩ : Str) = k at *
    clear s4 ck c st03 hD3
    obtain ⟨kk1, kk2⟩ := key_K2 hk
    have hnew := hand_new W n
    have hmb : S.hm.natAbs < 10 ^ 20 := by omega
    -- the end: commit with a draft
    have fin : ∀ (v : Option Int) (H5 : Hp) (F5 : Addr → Prop), ShAt T H5 p ((S.addHand n S.now).write S.hm ⟨n, S.now, []⟩ k v) F5 → RO K Pt sc ns ro H5 F5 → Stp ro H F H5 F5 → H5 D' = some (.dK (vD (x.put k v))) → ¬ F5 D' →
        tSeq (tDrop (tMeth T.S "commit" (spCommit T U) [] E0 (tVar 1) (tCons (tVar 4) tNil))) (tRet (tVar 7)) { nx := fun _ H' => Q V.non H', rt := Q }
          [some (.ref ro), some (.ref p), some (.int n), some (.ref D), some (.int S.hm), some (.int way), some (.str k), some (.ref D')] H5 := fun v H5 F5 sh5 o5 st5 h5 nF5 => by
      obtain ⟨dx5, fs5, hp5, no5⟩ := sh5.ly.ins
      have hw := write_new W n k v
      have W2 : WF K2 ((S.addHand n S.now).write S.hm ⟨n, S.now, []⟩ k v) := W1.write hnew hk v
      refine ⟨_, rfl, p, dx5, fs5, rfl, hp5, no5 _ (by decide +kernel), _, rfl, K2, p, _, F5, S.hm, rfl, sh5.ly, W2, hmb, fun z => (by rw [hw] at z; cases z), fun h hh => ?_⟩
      rw [hw] at hh
      obtain rfl := Option.some.inj hh
      refine ⟨fun z => (by cases z), fun _ b' hb' => ?_⟩
      have hb' : aget S.brs n = some b' := hb'
      rw [hb] at hb'
      obtain rfl := Option.some.inj hb'
      refine ⟨fun z => (by rw [ha] at z; cases z), fun _ k' hk' => (by rw [made_clash W hb] at hk'; cases hk'), fun _ _ H6 F6 sh6 st6 => ?_⟩
      have em := made_put W hb k v
      dsimp only at sh6
      rw [em] at sh6
      have k6 := st6.keep D' _ h5 (ntD _) nF5
      exact ⟨_, rfl, kq H6 F6 _ D' _ sh6 (o5.step st6) (st5.trans (Stp.of st6)) k6.1 k6.2 nDr' new (W.putV hb hk v (by omega) (by omega) ⟨hm0, by omega⟩) (.inr ⟨k, v, hk, rfl, rfl⟩)⟩
    refine ⟨_, rfl, _, _, rfl, rfl, _, rfl, ?_⟩
    by_cases hw : way < 2
    · refine ifT (decide_eq_true hw) ?_
      refine ⟨_, rfl, ro, 100, sc, ns, rfl, o4.row, o4.scR, by decide, by decide, fun v ys v0 v1 d5 => ?_⟩
      obtain ⟨sh5, o5, st5⟩ := o4.taken sh4 d5
      have h5 := st5.keep D' _ h4 (ntD _) nF4 nDr'
      generalize upd H4 ro (.lst ys) = H5 at sh5 o5 st5 h5
      refine ⟨_, rfl, _, rfl, _, _, rfl, DPut.k (k := Sum.inr k) h5.1 (by show 2 < sizeLine; decide), ?_⟩
      rw [show V.int v = optV (some v) from rfl, vD_put x hk]
      have sh6 := sh5.away nF4 h5.1 (fun _ z => by cases z) (.dK (vD (x.put k (some v))))
      have o6 := o5.put h5.1 (ntD _) nDr' nDs (.dK (vD (x.put k (some v))))
      have h6 : upd H5 D' (.dK (vD (x.put k (some v)))) D' = some (.dK (vD (x.put k (some v)))) := upd_same
      have st6 : Stp ro H F (upd H5 D' (.dK (vD (x.put k (some v))))) F1 := ⟨fun a u e nt nf na => by
        have := (st04.trans st5).keep a u e nt nf na
        exact ⟨by rw [upd_ne (new a u e nt nf)]; exact this.1, this.2⟩, fun a xs e => by
        have := (st04.trans st5).tups a xs e
        rw [upd_ne (ne_of this h5.1 (by intro z; cases z))]; exact this⟩
      generalize upd H5 D' (.dK (vD (x.put k (some v)))) = H6 at sh6 o6 h6 st6
      obtain ⟨dx6, fs6, hp6, no6⟩ := sh6.ly.ins
      have dg : DGet H6 D' (.str k) (some (.int v)) := by
        have := DGet.k (k := Sum.inr k) h6
        rw [vD_get _ hk, at_put x hk hk, if_pos rfl] at this; exact this
      have iv : isVal v = true := by unfold isVal; rw [decide_eq_true v0, decide_eq_true (show v ≤ 999999 by omega)]; rfl
      refine ⟨_, rfl, p, dx6, fs6, rfl, hp6, no6 _ (by decide +kernel), _, rfl, _, rfl, _, rfl, _, rfl, _, _, rfl, dg, ?_⟩
      refine ⟨K2, p, _, F1, S.hm, k, v, rfl, sh6, W1, o6.tab, hmb, kk2, by omega, fun h hh => ⟨fun _ _ H7 F7 sh7 st7 => ?_, fun z => (by rw [kk1, iv] at z; cases z)⟩, fun z => (by rw [hnew] at z; cases z)⟩
      rw [hnew] at hh
      obtain rfl := Option.some.inj hh
      have k7 := st7.keep D' _ h6 (ntD _) nF4
      exact fin (some v) H7 F7 sh7 (o6.step st7) (st6.trans (Stp.of st7)) k7.1 k7.2
    · refine ifF (decide_eq_false hw) ?_
      refine ⟨_, rfl, rfl, _, rfl, ?_⟩
      by_cases hw2 : way = 2
      · refine ifT (decide_eq_true (by rw [hw2])) ?_
        refine ⟨_, rfl, _, rfl, _, _, rfl, DPut.k (k := Sum.inr k) h4 (by show 2 < sizeLine; decide), ?_⟩
        rw [show V.non = optV none from rfl, vD_put x hk]
        have sh6 := sh4.away nF4 h4 (fun _ z => by cases z) (.dK (vD (x.put k none)))
        have o6 := o4.put h4 (ntD _) nDr' nDs (.dK (vD (x.put k none)))
        have h6 : upd H4 D' (.dK (vD (x.put k none))) D' = some (.dK (vD (x.put k none))) := upd_same
        have st6 : Stp ro H F (upd H4 D' (.dK (vD (x.put k none)))) F1 := ⟨fun a u e nt nf na => by
          have := st04.keep a u e nt nf na
          exact ⟨by rw [upd_ne (new a u e nt nf)]; exact this.1, this.2⟩, fun a xs e => by
          have := st04.tups a xs e
          rw [upd_ne (ne_of this h4 (by intro z; cases z))]; exact this⟩
        generalize upd H4 D' (.dK (vD (x.put k none))) = H6 at sh6 o6 h6 st6
        obtain ⟨dx6, fs6, hp6, no6⟩ := sh6.ly.ins
        refine ⟨_, rfl, p, dx6, fs6, rfl, hp6, no6 _ (by decide +kernel), _, rfl, _, rfl, ?_⟩
        refine ⟨K2, p, _, F1, S.hm, k, rfl, sh6, W1, o6.tab, hmb, kk2, fun h hh => ⟨fun _ H7 F7 sh7 st7 => ?_, fun z => (by rw [kk1] at z; cases z)⟩, fun z => (by rw [hnew] at z; cases z)⟩
        rw [hnew] at hh
        obtain rfl := Option.some.inj hh
        have k7 := st7.keep D' _ h6 (ntD _) nF4
        exact fin none H7 F7 sh7 (o6.step st7) (st6.trans (Stp.of st7)) k7.1 k7.2
      · refine ifF (decide_eq_false (fun z => hw2 (V.int.inj z))) ?_
        obtain ⟨dx5, fs5, hp5, no5⟩ := sh4.ly.ins
        refine ⟨_, rfl, p, dx5, fs5, rfl, hp5, no5 _ (by decide +kernel), _, rfl, K2, p, _, F1, S.hm, rfl, sh4.ly, W1, hmb, fun z => (by rw [hnew] at z; cases z), fun h hh => ?_⟩
        rw [hnew] at hh
        obtain rfl := Option.some.inj hh
        refine ⟨fun _ H6 F6 sh6 st6 => ?_, fun z => absurd rfl z⟩
        rw [made_new W n] at sh6
        have k6 := st6.keep D' _ h4 (ntD _) nF4
        have W6 := W1.delHand S.hm
        rw [made_new W n] at W6
        exact ⟨_, rfl, kq H6 F6 _ D' _ sh6 (o4.step st6) (st04.trans (Stp.of st6)) k6.1 k6.2 nDr' new W6 (.inl ⟨rfl, rfl⟩)⟩
end
end Vs
namespace Vs
open PySem L2 PyProof.Rows
def sees2 (S : Sh) (n m : Int) : V2 := (seesM S "a" n m, seesM S "b" n m)
section
variable {P : Program} {w : World} {K : PySem.W.Frag} {mg : Str → Option Value} {base : Heap} {T : Cs} {U : Es} {Pt : Addr}
/-! ### _law_seen_by -/
def spSeenBy (T : Cs) (Pt : Addr) : Sp := fun vs H Q _ => ∃ (p : Addr) (S : Sh) (F : Addr → Prop) (n : Int) (h : Hn), vs = [.ref p, .int n] ∧ LyAt T H p S F ∧ WF K2 S ∧ GxR.TabG H Pt ∧ n.natAbs < 10 ^ 20 ∧ aget S.hns n = some h ∧ h.drafts = [] ∧
  ∀ H' D, Sm H H' → H D = none → H' D = some (.dK (vD (sees2 S h.br h.mom))) → Q (.ref D) H'
theorem sc_seenBy : FnScope ["_law_shelf", "_law_hand"] ["_law_shelf", "_law_hand"] (defScope s__law_seen_by) := ⟨rfl, rfl, rfl, by decide +kernel, rfl, by decide +kernel, by decide +kernel⟩
theorem ok_seenBy {f : Addr} {fd : FuncData} (F : Fun K "_law_seen_by" "_law_seen_by" s__law_seen_by f fd) (C : Cf K T) (clo : Mx P w K mg base (L2.CX P w) T.S "look" 5 ["self", "hand", "key"] (spLook T U Pt)) :
    FnOk P w K mg base CX0 6 f fd ["_law_shelf", "_law_hand"] (spSeenBy T Pt) := by
  obtain ⟨flo, fdlo, mlo, blo, Glo⟩ := clo
  refine F.ok sc_seenBy (fun vs H Q E h => ?_) (fun cdv A outer s H vs Q E hr h => ?_)
  · obtain ⟨p, S, F, n, h, rfl, _⟩ := h
    rfl
  · obtain ⟨p, S, F, n, h, rfl, ly, W, tab, hn, hh, hd, kq⟩ := h
    have hu := hu_of hr
    refine ⟨_, pss_one (ps_ret (pe_disp (pps_cons pe_str (pe_meth (pv 0) C.S mlo Glo hr blo .nil passE (pa_cons (pv 1) (pa_cons pe_str pa_nil))) (pps_cons pe_str (pe_meth (pv 0) C.S mlo Glo hr blo .nil passE (pa_cons (pv 1) (pa_cons pe_str pa_nil))) pps_nil)) (by rfl) (by rfl) (fun z => by cases z) (by decide))), ?_⟩
    intro D hD
    have s1 : Sm H (upd H D (.dK [])) := Sm.new hD
    have h1 : upd H D (.dK []) D = some (.dK []) := upd_same
    generalize upd H D (.dK []) = H1 at s1 h1
    have look : ∀ k, lookM S h k = seesM S k h.br h.mom := fun k => by unfold lookM; rw [hd]; rfl
    obtain ⟨dx1, fs1, hp1, no1⟩ := (ly.sm s1).ins
    refine ⟨_, rfl, p, dx1, fs1, rfl, hp1, no1 _ (by decide +kernel), _, rfl, K2, p, S, F, n, "a", rfl, ly.sm s1, W, s1.tab _ tab, hn, by decide +kernel, fun H2 s2 => ⟨fun h' hh' => ⟨fun _ => ?_, fun z => (by rw [(key_K2 (k := "a") List.mem_cons_self).1] at z; cases z)⟩, fun z => (by rw [hh] at z; cases z)⟩⟩
    rw [hh] at hh'
    obtain rfl := Option.some.inj hh'
    have s12 := s1.trans s2
    obtain ⟨dx2, fs2, hp2, no2⟩ := (ly.sm s12).ins
    refine ⟨_, rfl, p, dx2, fs2, rfl, hp2, no2 _ (by decide +kernel), _, rfl, K2, p, S, F, n, "b", rfl, ly.sm s12, W, s12.tab _ tab, hn, by decide +kernel, fun H3 s3 => ⟨fun h' hh' => ⟨fun _ => ?_, fun z => (by rw [(key_K2 (k := "b") (by simp)).1] at z; cases z)⟩, fun z => (by rw [hh] at z; cases z)⟩⟩
    rw [hh] at hh'
    obtain rfl := Option.some.inj hh'
    refine ⟨s3.dK (s2.dK h1), vD (sees2 S h.br h.mom), ?_, by show 2 ≤ 15; decide, ?_⟩
    · rw [look, look]; rfl
    · have s13 := s12.trans s3
      refine kq _ D ⟨fun b o e nt => ?_, fun Q t => ?_, fun b ps e => ?_⟩ hD upd_same
      · rw [upd_ne (ne_of_none e hD)]; exact s13.keep b o e nt
      · obtain ⟨ps, e, q⟩ := s13.tab _ t
        obtain ⟨ps0, e0, _⟩ := t
        exact ⟨ps, by rw [upd_ne (ne_of_none e0 hD)]; exact e, q⟩
      · obtain ⟨qs, e'⟩ := s13.tbl b ps e
        exact ⟨qs, by rw [upd_ne (ne_of_none e hD)]; exact e'⟩
end
end Vs
namespace Vs
open PySem L2 PyProof.Rows
/-- the lists of values and of unders -/
structure BO (ro vl ul : Addr) (Ds : List Addr) (xs : List V2) (us : List Int) (H : Hp) (F : Addr → Prop) : Prop where
  vls : H vl = some (.lst (Ds.map V.ref)) ∧ ¬ F vl ∧ vl ≠ ro
  uls : H ul = some (.lst (us.map V.int)) ∧ ¬ F ul ∧ ul ≠ ro
  vu : vl ≠ ul
  ds : Paired (fun D x => H D = some (.dK (vD x)) ∧ ¬ F D ∧ D ≠ ro) Ds xs
def unF (us : List Int) (n : Int) : Int := us[n.toNat]?.getD 0
def vsF (xs : List V2) (n : Int) (k : Str) : Option Int := ((xs[n.toNat]?).getD (none, none)).at k
section
variable {K : PySem.W.Frag} {T : Cs} {Pt sc : Addr} {ns : List Int} {ro p vl ul : Addr} {S S2 : Sh} {H H' : Hp} {F F' : Addr → Prop} {Ds : List Addr} {xs : List V2} {us : List Int} {N : Int} {un un' : Int → Int} {al : Int → Bool} {vs vs' : Int → Str → Option Int}
theorem BO.stp (o : BO ro vl ul Ds xs us H F) (st : Stp ro H F H' F') : BO ro vl ul Ds xs us H' F' := by
  obtain ⟨a1, a2, a3⟩ := o.vls
  obtain ⟨b1, b2, b3⟩ := o.uls
  have ka := st.keep _ _ a1 (ntL _) a2 a3
  have kb := st.keep _ _ b1 (ntL _) b2 b3
  exact ⟨⟨ka.1, ka.2, a3⟩, ⟨kb.1, kb.2, b3⟩, o.vu, Paired.mapP o.ds fun D x ⟨d1, d2, d3⟩ => let k := st.keep _ _ d1 (ntD _) d2 d3; ⟨k.1, k.2, d3⟩⟩
theorem BO.under (o : BO ro vl ul Ds xs us H F) (u : Int) : BO ro vl ul Ds xs (us ++ [u]) (upd H ul (.lst ((us ++ [u]).map V.int))) F := by
  obtain ⟨a1, a2, a3⟩ := o.vls
  obtain ⟨b1, b2, b3⟩ := o.uls
  exact ⟨⟨by rw [upd_ne o.vu]; exact a1, a2, a3⟩, ⟨upd_same, b2, b3⟩, o.vu, Paired.mapP o.ds fun D x ⟨d1, d2, d3⟩ => ⟨by rw [upd_ne (ne_of d1 b1 (by intro z; cases z))]; exact d1, d2, d3⟩⟩
theorem BO.value (o : BO ro vl ul Ds xs us H F) {D : Addr} {x : V2} (h : H D = some (.dK (vD x)) ∧ ¬ F D ∧ D ≠ ro) : BO ro vl ul (Ds ++ [D]) (xs ++ [x]) us (upd H vl (.lst ((Ds ++ [D]).map V.ref))) F := by
  obtain ⟨a1, a2, a3⟩ := o.vls
  obtain ⟨b1, b2, b3⟩ := o.uls
  refine ⟨⟨upd_same, a2, a3⟩, ⟨by rw [upd_ne (Ne.symm o.vu)]; exact b1, b2, b3⟩, o.vu, Paired.snoc (Paired.mapP o.ds fun D x ⟨d1, d2, d3⟩ => ⟨by rw [upd_ne (ne_of d1 a1 (by intro z; cases z))]; exact d1, d2, d3⟩) ⟨by rw [upd_ne (ne_of h.1 a1 (by intro z; cases z))]; exact h.1, h.2⟩⟩
theorem I14.congr (I : I14 S N un al vs) (hu : ∀ n, 0 ≤ n → n < N → un n = un' n) (hv : ∀ n, 0 ≤ n → n < N → ∀ k ∈ K2, vs n k = vs' n k) : I14 S N un' al vs' where
  W := I.W
  br := fun n b h => by
    obtain ⟨a1, a2, a3, a4⟩ := I.br n b h
    exact ⟨a1, a2, fun ne => by rw [← hu n a1 a2]; exact a3 ne, a4⟩
  live := I.live
  a0 := I.a0
  head := fun n h0 h1 h2 k hk => by rw [← hv n h0 h1 k hk]; exact I.head n h0 h1 h2 k hk
theorem unF_old {us : List Int} {u n : Int} (h0 : 0 ≤ n) (h1 : n < us.length) : unF (us ++ [u]) n = unF us n := by
  unfold unF; rw [List.getElem?_append_left (by omega)]
theorem unF_new {us : List Int} {u : Int} : unF (us ++ [u]) us.length = u := by
  unfold unF; rw [Int.toNat_natCast, List.getElem?_append_right (Nat.le_refl _), Nat.sub_self]; rfl
theorem vsF_old {xs : List V2} {x : V2} {n : Int} (h0 : 0 ≤ n) (h1 : n < xs.length) : vsF (xs ++ [x]) n = vsF xs n := by
  funext k; unfold vsF; rw [List.getElem?_append_left (by omega)]
theorem vsF_new {xs : List V2} {x : V2} : vsF (xs ++ [x]) xs.length = x.at := by
  funext k; unfold vsF; rw [Int.toNat_natCast, List.getElem?_append_right (Nat.le_refl _), Nat.sub_self]; rfl
theorem vsF_at {xs : List V2} {x : V2} {i : Nat} (h : xs[i]? = some x) : vsF xs (i : Int) = x.at := by
  funext k; unfold vsF; rw [Int.toNat_natCast, h]; rfl
end
/-- how all stands when branches 0 to k - 1 were made -/
structure G14 (K : PySem.W.Frag) (T : Cs) (Pt sc : Addr) (ns : List Int) (ro p vl ul : Addr) (k : Nat) (H : Hp) (F : Addr → Prop) (S : Sh) (Ds : List Addr) (xs : List V2) (us : List Int) (st : Int) (kd : Addr) (kx : V2) : Prop where
  sh : ShAt T H p S F
  row : RO K Pt sc ns ro H F
  scl : (∀ H', SqL K H' sc (ns.map V.int)) ∨ (vl ≠ sc ∧ ul ≠ sc)
  bo : BO ro vl ul Ds xs us H F
  I : I14 S k (unF us) (fun _ => true) (vsF xs)
  lx : xs.length = k
  lu : us.length = k
  bm : S.bm = k
  hm : 0 ≤ S.hm ∧ S.hm ≤ 3 * k + 2
  now : S.now ≤ k
  hn : ∃ b m, S.hns = [(st, ⟨b, m, []⟩)] ∧ m ≤ S.now ∧ (∃ c, aget S.brs b = some c) ∧ ∀ j ∈ K2, seesM S j b m = kx.at j
  dk : H kd = some (.dK (vD kx)) ∧ ¬ F kd ∧ kd ≠ ro
/-- the shelf behind a fork by a hand of its own -/
def Sh.fork1 (S : Sh) (u : Int) : Sh := { S.fork u S.now with hm := S.hm + 1 }
theorem fork1_is {Ks : List Str} {S : Sh} (W : WF Ks S) (u : Int) : ((S.addHand u S.now).fork u S.now).delHand S.hm = S.fork1 u := by
  show Sh.mk _ _ _ (adel (S.hns ++ [(S.hm, _)]) S.hm) _ = _
  rw [adel_new W.fresh]
  rfl
section
variable {S : Sh} {N : Int} {un : Int → Int} {vs : Int → Str → Option Int}
theorem I14.fork1 (I : I14 S N un (fun _ => true) vs) (hN : S.bm = N) (hN1 : N < 900) {u : Int} (h0 : 0 ≤ u) (h1 : u < N) (hl : S.hns.length < 900) (hm : 0 ≤ S.hm ∧ S.hm < 10 ^ 9) :
    I14 (S.fork1 u) (N + 1) (fun n => if n = N then u else un n) (fun _ => true) (fun n => if n = N then vs u else vs n) ∧ WF K2 (S.addHand u S.now) ∧ WF K2 ((S.addHand u S.now).fork u S.now) ∧ ∀ j q m, (∃ b, aget S.brs q = some b) → seesM (S.fork1 u) j q m = seesM S j q m := by
  have hu := I.live u h0 h1 rfl
  have cn := I.count
  have W1 := I.W.addHand hu I.W.sz.1 (Int.le_refl _) (by omega) ⟨hm.1, by omega⟩
  have W2 : WF K2 ((S.addHand u S.now).fork u S.now) := W1.fork hu I.W.sz.1 (Int.le_refl _) (by show S.brs.length < 1000; omega) (by show S.bm < 10 ^ 18; omega)
  have W3 := W2.delHand S.hm
  rw [fork1_is I.W] at W3
  have WF' : WF K2 (S.fork u S.now) := I.W.fork hu I.W.sz.1 (Int.le_refl _) (by omega) (by omega)
  exact ⟨(I.fork hN h0 h1 WF').brs rfl rfl W3, W1, W2, fun j q m hq => (sees_brs (S := S.fork u S.now) (S2 := S.fork1 u) rfl j q m).trans (fork_old I.W WF' j hq)⟩
end
end Vs
namespace Vs
open PySem L2 PyProof.Rows
theorem S0_br {n : Int} {b : Br} (h : aget S0.brs n = some b) : n = 0 ∧ b = ⟨none, 0, true, [], []⟩ := by
  have h : aget [((0 : Int), (⟨none, 0, true, [], []⟩ : Br))] n = some b := h
  rw [aget_cons, aget_nil] at h
  by_cases q : (0 : Int) = n
  · rw [if_pos q] at h; exact ⟨q.symm, (Option.some.inj h).symm⟩
  · rw [if_neg q] at h; cases h
theorem WF_S0 : WF K2 S0 where
  bks := List.pairwise_singleton _ _
  b0 := ⟨_, rfl⟩
  root := fun n b h => by obtain ⟨rfl, rfl⟩ := S0_br h; exact ⟨fun _ => rfl, fun _ => rfl⟩
  ben := fun n b q h hq => by obtain ⟨rfl, rfl⟩ := S0_br h; cases hq
  bnd := fun n b h => by obtain ⟨rfl, rfl⟩ := S0_br h; exact ⟨by decide, by decide, by decide, by decide⟩
  lks := fun n b h => by obtain ⟨rfl, rfl⟩ := S0_br h; exact ⟨List.nodup_nil, fun k hk => by cases hk⟩
  ln := fun n b k l h hl => by obtain ⟨rfl, rfl⟩ := S0_br h; cases hl
  mks := fun n b h => by obtain ⟨rfl, rfl⟩ := S0_br h; exact ⟨List.nodup_nil, fun k hk => by cases hk⟩
  mkb := fun n b k m h hm => by obtain ⟨rfl, rfl⟩ := S0_br h; cases hm
  hks := List.Pairwise.nil
  hn := fun n h e => by cases e
  dks := fun n h e => by cases e
  key := fun k hk => by
    rcases List.mem_cons.mp hk with rfl | hk
    · exact ⟨by decide +kernel, by decide +kernel, by decide +kernel⟩
    · obtain rfl : k = "b" := by simpa using hk
      exact ⟨by decide +kernel, by decide +kernel, by decide +kernel⟩
  pool := by decide
  sz := ⟨by decide, by decide, by decide, by decide⟩
  cap := ⟨by decide, by decide, fun n b k l h hl => by obtain ⟨rfl, rfl⟩ := S0_br h; cases hl⟩
theorem I14_S0 : I14 S0 1 (unF [0]) (fun _ => true) (fun _ _ => none) where
  W := WF_S0
  br := fun n b h => by obtain ⟨rfl, rfl⟩ := S0_br h; exact ⟨by decide, by decide, fun z => absurd rfl z, rfl, Nat.zero_le _, fun k => Nat.zero_le _⟩
  live := fun n h0 h1 _ => by
    have : n = 0 := by omega
    rw [this]; exact ⟨_, rfl⟩
  a0 := rfl
  head := fun n h0 h1 _ k hk => by
    have : n = 0 := by omega
    subst this
    unfold seesM
    rw [reachS_of WF_S0 k _ (b := ⟨none, 0, true, [], []⟩) rfl]
    rfl
section
variable {S S' : Sh} {N n : Int} {un : Int → Int} {vs : Int → Str → Option Int} {b : Br} {x x' : V2}
structure MadeI (S S' : Sh) (N n : Int) (un : Int → Int) (vs : Int → Str → Option Int) (x' : V2) : Prop where
  I : I14 S' N un (fun _ => true) (fun q j => if q = n then x'.at j else vs q j)
  hm : S'.hm = S.hm + 1
  bm : S'.bm = S.bm
  hns : S'.hns = S.hns
  now : S.now ≤ S'.now ∧ S'.now ≤ S.now + 1
  old : ∀ j q m, (∃ c, aget S.brs q = some c) → m ≤ S.now → seesM S' j q m = seesM S j q m
  br : ∀ q c, aget S.brs q = some c → ∃ c', aget S'.brs q = some c'
theorem made_I (I : I14 S N un (fun _ => true) vs) (hb : aget S.brs n = some b) (hl : b.lines = []) (hx : ∀ j ∈ K2, vs n j = x.at j) (W' : WF K2 S')
    (alt : (S' = { S with hm := S.hm + 1 } ∧ x' = x) ∨ ∃ k v, k ∈ K2 ∧ S' = S.putV n b k v ∧ x' = x.put k v) : MadeI S S' N n un vs x' := by
  rcases alt with ⟨rfl, rfl⟩ | ⟨k, v, hk, rfl, rfl⟩
  · refine ⟨(I.brs (S2 := { S with hm := S.hm + 1 }) rfl rfl W').congr (fun _ _ _ => rfl) fun q _ _ j hj => ?_, rfl, rfl, rfl, ⟨Int.le_refl _, by show S.now ≤ S.now + 1; omega⟩, fun j q m _ _ => sees_brs rfl j q m, fun q c h => ⟨c, h⟩⟩
    by_cases e : q = n
    · rw [if_pos e, e]; exact hx j hj
    · rw [if_neg e]
  · refine ⟨(I.putV hb hl W').congr (fun _ _ _ => rfl) fun q _ _ j hj => ?_, rfl, rfl, rfl, ⟨by show S.now ≤ S.now + 1; omega, Int.le_refl _⟩, fun j q m hq hm => putV_old I.W hb W' j hq hm, fun q c h => ?_⟩
    · by_cases e : q = n
      · rw [if_pos e, at_put x hk hj]
        by_cases z : j = k
        · rw [if_pos ⟨e, z⟩, if_pos z]
        · rw [if_neg (fun y => z y.2), if_neg z, e]; exact hx j hj
      · rw [if_neg e, if_neg (fun y => e y.1)]
    · rw [putV_get]
      by_cases e : q = n
      · rw [if_pos e]; exact ⟨_, rfl⟩
      · rw [if_neg e]; exact ⟨c, h⟩
end
end Vs
namespace Vs
open PySem L2 PyProof.Rows
section
variable {P : Program} {w : World} {K : PySem.W.Frag} {mg : Str → Option Value} {base : Heap} {T : Cs} {U : Es} {Pt : Addr}
/-! ### _law_branches -/
def spBranches (K : PySem.W.Frag) (T : Cs) (Pt : Addr) : Sp := fun vs H Q _ => ∃ (ro p sc : Addr) (ns : List Int) (F : Addr → Prop), vs = [.ref ro, .ref p] ∧ RO K Pt sc ns ro H F ∧ ShAt T H p S0 F ∧
  ∀ H' t F' S vl ul k Ds xs us st kd kx, 1 ≤ k → k ≤ 10 → G14 K T Pt sc ns ro p vl ul k H' F' S Ds xs us st kd kx → H' t = some (.tup [.ref vl, .ref ul, .int st, .ref kd]) → Q (.ref t) H'
abbrev nBr : List Str := ["_law_row", "_law_shelf", "_law_values", "_law_unders", "_law_stays", "_law_kept", "_law_k", "_law_under", "_law_hand"]
theorem sc_branches : FnScope nBr ["_law_row", "_law_shelf"] (defScope s__law_branches) := ⟨rfl, rfl, rfl, by decide +kernel, rfl, by decide +kernel, by decide +kernel⟩
theorem ok_branches {f : Addr} {fd : FuncData} (F : Fun K "_law_branches" "_law_branches" s__law_branches f fd) (B : Bt mg) (C : Cf K T) (ct : Fx P w K mg base CX0 "_law_taken" 1 ["_law_row", "_law_many"] (spTaken K)) (cm : Fx P w K mg base CX0 "_law_made" 6 ["_law_row", "_law_shelf", "_law_branch", "_law_values"] (spMade K T Pt))
    (cbe : Mx P w K mg base (L2.CX P w) T.S "begin" 4 ["self", "branch"] (spBegin T U)) (ccl : Mx P w K mg base (L2.CX P w) T.S "close" 2 ["self", "hand"] (spClose T U)) (cfo : Mx P w K mg base (L2.CX P w) T.S "fork" 3 ["self", "hand"] (spFork T U)) :
    FnOk P w K mg base CX0 7 f fd ["_law_row", "_law_shelf"] (spBranches K T Pt) := by
  obtain ⟨ft, fdt, gt, kt, bt, Gt⟩ := ct
  obtain ⟨fm, fdm, gm, km, bm, Gm⟩ := cm
  obtain ⟨fbe, fdbe, mbe, bbe, Gbe⟩ := cbe
  obtain ⟨fcl, fdcl, mcl, bcl, Gcl⟩ := ccl
  obtain ⟨ffo, fdfo, mfo, bfo, Gfo⟩ := cfo
  refine F.ok sc_branches (fun vs H Q E h => ?_) (fun cdv A outer s H vs Q E hr h => ?_)
  · obtain ⟨ro, p, sc, ns, F, rfl, _⟩ := h
    rfl
  · obtain ⟨ro, p, sc, ns, F, rfl, o, sh, kq⟩ := h
    have hu := hu_of hr
    refine ⟨_, pss_cons (ps_set (i := 2) sc_branches.nd rfl (.inl rfl) (pe_lst (pa_cons (pe_call Gm hr rfl gm km bm .nil pass0 (pa_cons (pv 0) (pa_cons (pv 1) (pa_cons pe_int (pa_cons (pe_disp (pps_cons pe_str pe_non (pps_cons pe_str pe_non pps_nil)) (by rfl) (by rfl) (fun z => by cases z) (by decide)) pa_nil))))) pa_nil)))
      (pss_cons (ps_set (i := 3) sc_branches.nd rfl (.inl rfl) (pe_lst (pa_cons pe_int pa_nil)))
      (pss_cons (ps_set (i := 4) sc_branches.nd rfl (.inl rfl) (pe_meth (pv 1) C.S mbe Gbe (hr.mono (by decide)) bbe .nil passE (pa_cons pe_int pa_nil)))
      (pss_cons (ps_set (i := 5) sc_branches.nd rfl (.inl rfl) (pe_ix ix_list (pv 2) pe_int (fun _ _ => rfl)))
      (pss_cons (ps_for PassesOwn.never rfl (pi_range2 (by rfl) B.range (pa_cons pe_int (pa_cons (pe_op op_add pe_int (pe_call Gt (hr.mono (by decide)) rfl gt kt bt .nil pass0 (pa_cons (pv 0) (pa_cons pe_int pa_nil)))) pa_nil))) (pg_name (i := 6) sc_branches.nd rfl (.inl rfl))
        (pss_cons (ps_set (i := 7) sc_branches.nd rfl (.inl rfl) (pe_ix ix_list (pe_lst (pa_cons (pe_op op_sub (pv 6) pe_int) (pa_cons (pe_call Gt (hr.mono (by decide)) rfl gt kt bt .nil pass0 (pa_cons (pv 0) (pa_cons (pv 6) pa_nil))) pa_nil)))
            (pe_callTy call_int1 (by rfl) B.int (by decide +kernel) (pa_cons (pe_cmpR op_eq (pe_call Gt (hr.mono (by decide)) rfl gt kt bt .nil pass0 (pa_cons (pv 0) (pa_cons pe_int pa_nil))) pe_int (nomark _)) pa_nil)) (fun _ _ => rfl)))
        (pss_cons (ps_expr (pe_bm PySem.F.plainAttrs_list PySem.F.slot_list_append PySem.F.type_list_append mt_append (pv 3) (pa_cons (pv 7) pa_nil)))
        (pss_cons (ps_set (i := 8) sc_branches.nd rfl (.inl rfl) (pe_meth (pv 1) C.S mbe Gbe (hr.mono (by decide)) bbe .nil passE (pa_cons (pv 7) pa_nil)))
        (pss_cons (ps_if (pt_cmpR op_ne (pe_meth (pv 1) C.S mfo Gfo (hr.mono (by decide)) bfo .nil passE (pa_cons (pv 8) pa_nil)) (pv 6) (nomark _)) (pss_one (ps_ret pe_non)) pss_nil)
        (pss_cons (ps_expr (pe_meth (pv 1) C.S mcl Gcl (hr.mono (by decide)) bcl .nil passE (pa_cons (pv 8) pa_nil)))
        (pss_cons (ps_expr (pe_bm PySem.F.plainAttrs_list PySem.F.slot_list_append PySem.F.type_list_append mt_append (pv 2) (pa_cons (pe_call Gm hr rfl gm km bm .nil pass0 (pa_cons (pv 0) (pa_cons (pv 1) (pa_cons (pv 6) (pa_cons (pe_ix ix_list (pv 2) (pv 7) (fun _ _ => rfl)) pa_nil))))) pa_nil)))
        (pss_one (ps_if (pt_cmpR op_eq (pe_call Gt (hr.mono (by decide)) rfl gt kt bt .nil pass0 (pa_cons (pv 0) (pa_cons pe_int pa_nil))) pe_int (nomark _))
          (pss_cons (ps_expr (pe_meth (pv 1) C.S mcl Gcl (hr.mono (by decide)) bcl .nil passE (pa_cons (pv 4) pa_nil)))
          (pss_cons (ps_set (i := 4) sc_branches.nd rfl (.inl rfl) (pe_meth (pv 1) C.S mbe Gbe (hr.mono (by decide)) bbe .nil passE (pa_cons (pv 6) pa_nil)))
          (pss_one (ps_set (i := 5) sc_branches.nd rfl (.inl rfl) (pe_ix ix_list (pv 2) (pv 6) (fun _ _ => rfl)))))) pss_nil)))))))))
      (pss_one (ps_ret (pe_tup (pa_cons (pv 2) (pa_cons (pv 3) (pa_cons (pv 4) (pa_cons (pv 5) pa_nil))))))))))), ?_⟩
    refine ⟨_, rfl, _, rfl, fun D0 hD0 => ?_⟩
    have s1 : Sm H (upd H D0 (.dK [])) := Sm.new hD0
    refine ⟨upd_same, vD (none, none), rfl, by show 2 ≤ 15; decide, ?_⟩
    rw [upd_upd, show mergeK [] (vD (none, none)) = vD (none, none) from rfl]
    have s1 : Sm H (upd H D0 (.dK (vD (none, none)))) := Sm.new hD0
    have h1 : upd H D0 (.dK (vD (none, none))) D0 = some (.dK (vD (none, none))) := upd_same
    generalize upd H D0 (.dK (vD (none, none))) = H1 at s1 h1
    have o1 := o.sm s1
    have sh1 := sh.sm s1
    refine ⟨ro, p, D0, sc, ns, S0, F, 0, _, (none, none), rfl, o1, sh1, WF_S0, rfl, rfl, by decide, by decide, by decide, by decide, by decide, h1, sh.ly.new hD0, (o.fresh hD0).1, fun H2 F2 S2 D2 x2 sh2 o2 st2 h2 nF2 nr2 new2 W2 alt2 => ?_⟩
    have M2 := made_I I14_S0 (b := ⟨none, 0, true, [], []⟩) rfl rfl (x := (none, none)) (fun j hj => by unfold V2.at; split <;> rfl) W2 alt2
    refine ⟨by show 1 ≤ sizeLine; decide, fun vl hvl => ?_⟩
    have s3 : Sm H2 (upd H2 vl (.lst [.ref D2])) := Sm.new hvl
    have v3 : upd H2 vl (.lst [.ref D2]) vl = some (.lst [.ref D2]) := upd_same
    generalize upd H2 vl (.lst [.ref D2]) = H3 at s3 v3
    have sh3 := sh2.sm s3
    have o3 := o2.sm s3
    refine ⟨by show 1 ≤ sizeLine; decide, fun ul hul => ?_⟩
    have s4 : Sm H3 (upd H3 ul (.lst [.int 0])) := Sm.new hul
    have u4 : upd H3 ul (.lst [.int 0]) ul = some (.lst [.int 0]) := upd_same
    generalize upd H3 ul (.lst [.int 0]) = H4 at s4 u4
    have sh4 := sh3.sm s4
    have o4 := o3.sm s4
    have hm2 : S2.hm = 1 := M2.hm
    have now2 : S2.now ≤ 1 := M2.now.2
    have hb0 : ∃ b, aget S2.brs 0 = some b := W2.b0
    obtain ⟨b0, hb0⟩ := hb0
    have al0 : b0.alive = true := (M2.I.br 0 b0 hb0).2.2.2.1
    obtain ⟨dx4, fs4, hp4, no4⟩ := sh4.ly.ins
    refine ⟨_, rfl, p, dx4, fs4, rfl, hp4, no4 _ (by decide +kernel), K2, p, S2, F2, 0, rfl, sh4.ly, W2, by decide, fun b' hb' => ⟨fun _ H5 F5 sh5 st5 => ?_, fun z => by rw [hb0] at hb'; cases hb'; rw [al0] at z; cases z⟩, fun z => by rw [hb0] at z; cases z⟩
    have W5 := W2.addHand (mom := S2.now) ⟨b0, hb0⟩ W2.sz.1 (Int.le_refl _) (by rw [M2.hns]; decide) ⟨by omega, by omega⟩
    have v5 := st5.keep vl _ (s4.lst v3) (ntL _) (sh2.ly.new hvl)
    have u5 := st5.keep ul _ u4 (ntL _) (sh3.ly.new hul)
    have d5 := st5.keep D2 _ (s4.dK (s3.dK h2)) (ntD _) nF2
    have g5 : G14 K T Pt sc ns ro p vl ul 1 H5 F5 (S2.addHand 0 S2.now) [D2] [x2] [0] S2.hm D2 x2 := by
      refine ⟨sh5, o4.step st5, ?_, ⟨⟨v5.1, v5.2, (o2.fresh hvl).1⟩, ⟨u5.1, u5.2, (o3.fresh hul).1⟩, ne_of_none v3 hul, .cons ⟨d5.1, d5.2, nr2⟩ .nil⟩, ?_, rfl, rfl, M2.bm, ⟨by show 0 ≤ S2.hm + 1; omega, by show S2.hm + 1 ≤ _; omega⟩, now2, ⟨0, S2.now, ?_, Int.le_refl _, ⟨b0, hb0⟩, fun j hj => ?_⟩, ⟨d5.1, d5.2, nr2⟩⟩
      · rcases (o2.fresh hvl).2 with z | z
        · exact .inl z
        · rcases (o3.fresh hul).2 with y | y
          · exact .inl y
          · exact .inr ⟨z, y⟩
      · refine (M2.I.brs (S2 := S2.addHand 0 S2.now) rfl rfl W5).congr (fun n h0 h1 => rfl) fun n h0 h1 k hk => ?_
        have : n = 0 := by omega
        rw [this, if_pos rfl]; rfl
      · show S2.hns ++ [(S2.hm, _)] = _
        rw [M2.hns]; rfl
      · have := M2.I.head 0 (by decide) (by decide) rfl j hj
        rw [if_pos rfl] at this
        rw [sees_brs (S := S2) (S2 := S2.addHand 0 S2.now) rfl]; exact this
    refine ⟨_, rfl, vl, _, _, _, rfl, rfl, SqL.of v5.1, rfl, ?_⟩
    have o5 := g5.row
    refine ⟨_, rfl, ro, 9, sc, ns, rfl, o5.row, o5.scR, by decide, by decide, fun r ys r0 r1 d6 => ?_⟩
    obtain ⟨sh6, o6, st6⟩ := o5.taken sh5 d6
    generalize upd H5 ro (.lst ys) = H6 at sh6 o6 st6
    have g6 : G14 K T Pt sc ns ro p vl ul 1 H6 F5 (S2.addHand 0 S2.now) [D2] [x2] [0] S2.hm D2 x2 := by
      have k := st6.keep D2 _ g5.dk.1 (ntD _) g5.dk.2.1 g5.dk.2.2
      exact ⟨sh6, o6, g5.scl, g5.bo.stp st6, g5.I, g5.lx, g5.lu, g5.bm, g5.hm, g5.now, g5.hn, ⟨k.1, k.2, g5.dk.2.2⟩⟩
    generalize S2.addHand 0 S2.now = S6 at g6
    generalize S2.hm = st0 at g6
    clear g5 o5 sh5 d6 st6 sh6 o6 st5 v5 u5 d5 W5 sh4 o4 sh3 o3 s4 u4 s3 v3 sh2 o2 st2 h2 nF2 nr2 new2 W2 alt2 M2 hm2 now2 hb0 al0 hp4 no4
    refine ⟨_, _, rfl, rfl, 1, 2 + r, rfl, ⟨by decide, by decide, by omega, by omega⟩, ?_⟩
    obtain ⟨N, hN⟩ : ∃ N, N = (2 + r - 1).toNat := ⟨_, rfl⟩
    have hN1 : N ≤ 9 := by omega
    rw [← hN]
    refine for_range (lo := 1) (n := N) (fun i σ H => ∃ F S Ds xs us st kd kx x6 x7 x8, σ = [some (.ref ro), some (.ref p), some (.ref vl), some (.ref ul), some (.int st), some (.ref kd), x6, x7, x8] ∧ G14 K T Pt sc ns ro p vl ul (i + 1) H F S Ds xs us st kd kx)
      ⟨_, _, _, _, _, _, _, _, _, _, _, rfl, g6⟩ ?_ ?_
    · rintro i σ H7 hi ⟨F7, S, Ds, xs, us, st, kd, kx, x6, x7, x8, rfl, g⟩
      have hk : (1 : Int) + (i : Nat) = ((i + 1 : Nat) : Int) := by omega
      rw [hk]
      have hk9 : i + 1 ≤ 9 := by omega
      generalize i + 1 = k at *
      have k1 : 1 ≤ k := by have := g.I.n0; omega
      -- the under
      refine ⟨_, rfl, _, _, rfl, rfl, ?_⟩
      refine ⟨_, rfl, _, rfl, ro, (k : Int), sc, ns, rfl, g.row.row, g.row.scR, by omega, by omega, fun u0 ys u00 u01 d8 => ?_⟩
      obtain ⟨sh8, o8, st8⟩ := g.row.taken g.sh d8
      generalize upd H7 ro (.lst ys) = H8 at sh8 o8 st8
      refine ⟨by show 2 ≤ sizeLine; decide, fun l hl => ?_⟩
      have s9 : Sm H8 (upd H8 l (.lst [.int ((k : Int) - 1), .int u0])) := Sm.new hl
      have l9 : upd H8 l (.lst [.int ((k : Int) - 1), .int u0]) l = some (.lst [.int ((k : Int) - 1), .int u0]) := upd_same
      generalize upd H8 l (.lst [.int ((k : Int) - 1), .int u0]) = H9 at s9 l9
      have nlF : ¬ F7 l := sh8.ly.new hl
      have nlr := (o8.fresh hl).1
      have sh9 := sh8.sm s9
      have o9 := o8.sm s9
      refine ⟨_, rfl, ro, 3, sc, ns, rfl, o9.row, o9.scR, by decide, by decide, fun w3 ys _ _ d10 => ⟨rfl, .inr ⟨_, rfl, ?_⟩⟩⟩
      obtain ⟨sh10, o10, st10⟩ := o9.taken sh9 d10
      generalize upd H9 ro (.lst ys) = H10 at sh10 o10 st10
      have l10 := st10.keep l _ l9 (ntL _) nlF nlr
      have st7 := (st8.trans (Stp.sm (ro := ro) (F := F7) s9)).trans st10
      obtain ⟨u, h0u, h1u, at_⟩ : ∃ u : Int, 0 ≤ u ∧ u < k ∧ atI [V.int ((k : Int) - 1), V.int u0] (if decide (V.int w3 = V.int 2) = true then 1 else 0) = some (.int u) := by
        cases decide (V.int w3 = V.int 2) with
        | true => exact ⟨u0, u00, u01, rfl⟩
        | false => exact ⟨(k : Int) - 1, by omega, by omega, rfl⟩
      refine ⟨l, _, _, .int u, rfl, rfl, SqL.of l10.1, at_, ?_⟩
      have bo10 := g.bo.stp st7
      have dk10 := st7.keep kd _ g.dk.1 (ntD _) g.dk.2.1 g.dk.2.2
      obtain ⟨ub1, ub2, ub3⟩ := bo10.uls
      -- the list of unders
      refine ⟨_, rfl, .inl ⟨rfl, _, SqL.of ub1⟩, _, rfl, ul, _, _, rfl, rfl, ub1, le1000000 (by rw [List.length_map, g.lu]; omega), ?_⟩
      rw [show us.map V.int ++ [V.int u] = (us ++ [u]).map V.int from by rw [List.map_append]; rfl]
      have bo11 := bo10.under u
      have nus : (∀ H', SqL K H' sc (ns.map V.int)) ∨ ul ≠ sc := g.scl.imp id (·.2)
      have nvs : (∀ H', SqL K H' sc (ns.map V.int)) ∨ vl ≠ sc := g.scl.imp id (·.1)
      have sh11 := sh10.away ub2 ub1 (fun _ z => by cases z) (.lst ((us ++ [u]).map V.int))
      have o11 := o10.put ub1 (ntL _) ub3 nus (.lst ((us ++ [u]).map V.int))
      have dk11 : upd H10 ul (.lst ((us ++ [u]).map V.int)) kd = some (.dK (vD kx)) := by rw [upd_ne (ne_of dk10.1 ub1 (by intro z; cases z))]; exact dk10.1
      generalize upd H10 ul (.lst ((us ++ [u]).map V.int)) = H11 at bo11 sh11 o11 dk11
      clear bo10 ub1 sh10 o10 l10 l9 sh9 o9 sh8 o8
      -- the fork
      obtain ⟨sb, sm, ehn, hsm, ⟨sc0, hsc0⟩, hsee⟩ := g.hn
      have hhm := g.hm
      have hln : S.hns.length = 1 := by rw [ehn]; rfl
      obtain ⟨I12, W12, W13, old12⟩ := g.I.fork1 g.bm (by omega) h0u h1u (by omega) ⟨by omega, by omega⟩
      obtain ⟨bu, hbu⟩ := g.I.live u h0u h1u rfl
      have alu : bu.alive = true := (g.I.br u bu hbu).2.2.2.1
      have W := g.I.W
      have hnew := hand_new W u
      have h20 : (10 : Nat) ^ 20 = 100000000000000000000 := by decide
      obtain ⟨dx11, fs11, hp11, no11⟩ := sh11.ly.ins
      refine ⟨_, rfl, p, dx11, fs11, rfl, hp11, no11 _ (by decide +kernel), _, rfl, K2, p, S, F7, u, rfl, sh11.ly, W, by omega, fun b' hb' => ⟨fun _ H12 F12 sh12 st12 => ?_, fun z => by rw [hbu] at hb'; cases hb'; rw [alu] at z; cases z⟩, fun z => by rw [hbu] at z; cases z⟩
      obtain ⟨dx12, fs12, hp12, no12⟩ := sh12.ly.ins
      refine ⟨_, rfl, p, dx12, fs12, rfl, hp12, no12 _ (by decide +kernel), _, rfl, K2, p, _, F12, S.hm, rfl, sh12.ly, W12, by omega, fun h hh H13 F13 sh13 st13 => ?_, fun z => by rw [hnew] at z; cases z⟩
      rw [hnew] at hh
      obtain rfl := Option.some.inj hh
      dsimp only at sh13
      refine ⟨_, rfl, rfl, _, rfl, ifF (by rw [show (S.addHand u S.now).bm = (k : Int) from g.bm]; simp) ?_⟩
      obtain ⟨dx13, fs13, hp13, no13⟩ := sh13.ly.ins
      refine ⟨_, rfl, p, dx13, fs13, rfl, hp13, no13 _ (by decide +kernel), _, rfl, p, _, F13, S.hm, rfl, sh13.ly, by omega, fun h hh H14 F14 sh14 st14 => ?_, fun z => (by have z : aget (S.addHand u S.now).hns S.hm = none := z; rw [hnew] at z; cases z)⟩
      rw [fork1_is W u] at sh14
      have st11 := st12.trans (st13.trans st14)
      have o14 := o11.step st11
      have bo14 := bo11.stp (Stp.of st11)
      have dk14 := st11.keep kd _ dk11 (ntD _) g.dk.2.1
      clear bo11 o11 sh11 sh12 sh13 hp11 no11 hp12 no12 hp13 no13 dk11 dk10
      -- the new branch's version
      obtain ⟨vb1, vb2, vb3⟩ := bo14.vls
      have lD : Ds.length = xs.length := Paired.length bo14.ds
      have hux : u.toNat < Ds.length := by rw [lD, g.lx]; omega
      have hDu : Ds[u.toNat]? = some Ds[u.toNat] := List.getElem?_eq_getElem hux
      generalize Ds[u.toNat] = Du at hDu
      obtain ⟨xu, hxu, d1, d2, d3⟩ := LiI.paired_get bo14.ds hDu
      have hDv : (Ds.map V.ref)[u.toNat]? = some (.ref Du) := by rw [List.getElem?_map, hDu]; rfl
      have hbn : aget (S.fork1 u).brs (k : Int) = some ⟨some u, S.now, true, [], []⟩ := by rw [← g.bm]; exact aget_right W.bfresh
      refine ⟨_, rfl, .inl ⟨rfl, _, SqL.of vb1⟩, _, rfl, _, rfl, _, rfl, _, rfl, _, rfl, vl, _, _, _, rfl, rfl, SqL.of vb1, (by rw [← Int.toNat_of_nonneg h0u]; exact atI_nat hDv), ?_⟩
      refine ⟨ro, p, Du, sc, ns, S.fork1 u, F14, (k : Int), _, xu, rfl, o14, sh14, I12.W, hbn, rfl, by show S.now < 900; have := g.now; omega, by show S.hns.length < 900; omega, by show 0 ≤ S.hm + 1; omega, by show S.hm + 1 < 10 ^ 9; omega, by omega, d1, d2, d3, fun H15 F15 S15 D15 x15 sh15 o15 st15 h15 nF15 nr15 new15 W15 alt15 => ?_⟩
      have M15 := made_I I12 hbn rfl (x := xu) (fun j hj => by
        rw [if_pos rfl, ← Int.toNat_of_nonneg h0u, vsF_at hxu]) W15 alt15
      have bo15 := bo14.stp st15
      have dk15 := st15.keep kd _ dk14.1 (ntD _) dk14.2 g.dk.2.2
      have dk15n := dk15.2
      obtain ⟨wb1, wb2, wb3⟩ := bo15.vls
      refine ⟨vl, _, _, rfl, rfl, wb1, le1000000 (by rw [List.length_map, lD, g.lx]; omega), ?_⟩
      rw [show Ds.map V.ref ++ [V.ref D15] = (Ds ++ [D15]).map V.ref from by rw [List.map_append]; rfl]
      have bo16 := bo15.value ⟨h15, nF15, nr15⟩
      have sh16 := sh15.away wb2 wb1 (fun _ z => by cases z) (.lst ((Ds ++ [D15]).map V.ref))
      have o16 := o15.put wb1 (ntL _) wb3 nvs (.lst ((Ds ++ [D15]).map V.ref))
      have dk16 : upd H15 vl (.lst ((Ds ++ [D15]).map V.ref)) kd = some (.dK (vD kx)) := by rw [upd_ne (ne_of dk15.1 wb1 (by intro z; cases z))]; exact dk15.1
      have h16 : upd H15 vl (.lst ((Ds ++ [D15]).map V.ref)) D15 = some (.dK (vD x15)) := by rw [upd_ne (ne_of h15 wb1 (by intro z; cases z))]; exact h15
      generalize upd H15 vl (.lst ((Ds ++ [D15]).map V.ref)) = H16 at bo16 sh16 o16 dk16 h16
      have lxk : ((xs.length : Nat) : Int) = (k : Int) := by rw [g.lx]
      have luk : ((us.length : Nat) : Int) = (k : Int) := by rw [g.lu]
      have I15 : I14 S15 ((k + 1 : Nat) : Int) (unF (us ++ [u])) (fun _ => true) (vsF (xs ++ [x15])) := by
        rw [show ((k + 1 : Nat) : Int) = (k : Int) + 1 by omega]
        refine M15.I.congr (fun n h0 h1 => ?_) fun n h0 h1 j hj => ?_
        · by_cases e : n = k
          · rw [if_pos e, e, ← luk, unF_new]
          · rw [if_neg e, unF_old h0 (by omega)]
        · by_cases e : n = k
          · rw [if_pos e, e, ← lxk, vsF_new]
          · rw [if_neg e, if_neg e, vsF_old h0 (by omega)]
      have see15 : ∀ j ∈ K2, seesM S15 j sb sm = kx.at j := fun j hj => by
        rw [M15.old j sb sm ⟨sc0, aget_left hsc0⟩ hsm, old12 j sb sm ⟨sc0, hsc0⟩]; exact hsee j hj
      obtain ⟨c15, hc15⟩ := M15.br sb sc0 (aget_left hsc0)
      have hns15 : S15.hns = [(st, ⟨sb, sm, []⟩)] := M15.hns.trans ehn
      have hm15 : S15.hm = S.hm + 2 := by rw [M15.hm]; show S.hm + 1 + 1 = _; omega
      have now15 : S.now ≤ S15.now ∧ S15.now ≤ S.now + 1 := M15.now
      have bm15 : S15.bm = ((k + 1 : Nat) : Int) := by rw [M15.bm]; show S.bm + 1 = _; rw [g.bm]; omega
      have gnow := g.now
      clear M15 old12 I12 W12 W13 alt15 new15 st15 bo15 o15 sh15 wb1 dk15 vb1 d1 bo14 o14 sh14 dk14
      -- who stays
      refine ⟨_, rfl, ro, 4, sc, ns, rfl, o16.row, o16.scR, by decide, by decide, fun w4 ys _ _ d17 => ⟨rfl, _, rfl, ?_⟩⟩
      obtain ⟨sh17, o17, st17⟩ := o16.taken sh16 d17
      generalize upd H16 ro (.lst ys) = H17 at sh17 o17 st17
      have bo17 := bo16.stp st17
      have dk17 := st17.keep kd _ dk16 (ntD _) dk15n g.dk.2.2
      have h17 := st17.keep D15 _ h16 (ntD _) nF15 nr15
      cases hw4 : decide (V.int w4 = V.int 3) with
      | false =>
        refine ifF rfl ⟨F15, S15, Ds ++ [D15], xs ++ [x15], us ++ [u], st, kd, kx, _, _, _, rfl, ⟨sh17, o17, g.scl, bo17, I15, ?_, ?_, bm15, ⟨by omega, by omega⟩, by omega, ⟨sb, sm, hns15, by omega, ⟨c15, hc15⟩, see15⟩, ⟨dk17.1, dk17.2, g.dk.2.2⟩⟩⟩
        · rw [List.length_append, g.lx]; rfl
        · rw [List.length_append, g.lu]; rfl
      | true =>
        refine ifT rfl ?_
        have hst : aget S15.hns st = some ⟨sb, sm, []⟩ := by rw [hns15, aget_cons, if_pos rfl]
        have hst2 := W15.hn st _ hst
        obtain ⟨dx17, fs17, hp17, no17⟩ := sh17.ly.ins
        refine ⟨_, rfl, p, dx17, fs17, rfl, hp17, no17 _ (by decide +kernel), _, rfl, p, _, F15, st, rfl, sh17.ly, by omega, fun h hh H18 F18 sh18 st18 => ?_, fun z => (by rw [hst] at z; cases z)⟩
        have W18 := W15.delHand st
        have hns18 : (S15.delHand st).hns = [] := by
          show adel S15.hns st = []
          rw [hns15]; unfold adel; simp
        have hbk : ∃ b, aget (S15.delHand st).brs (k : Int) = some b := I15.live k (by omega) (by omega) rfl
        obtain ⟨bk, hbk⟩ := hbk
        have alk : bk.alive = true := (I15.br k bk hbk).2.2.2.1
        obtain ⟨dx18, fs18, hp18, no18⟩ := sh18.ly.ins
        refine ⟨_, rfl, p, dx18, fs18, rfl, hp18, no18 _ (by decide +kernel), _, rfl, K2, p, _, F18, (k : Int), rfl, sh18.ly, W18, by omega, fun b' hb' => ⟨fun _ H19 F19 sh19 st19 => ?_, fun z => by rw [hbk] at hb'; cases hb'; rw [alk] at z; cases z⟩, fun z => by rw [hbk] at z; cases z⟩
        have st1719 := st18.trans st19
        have bo19 := bo17.stp (Stp.of st1719)
        have h19 := st1719.keep D15 _ h17.1 (ntD _) h17.2
        have W19 : WF K2 ((S15.delHand st).addHand (k : Int) S15.now) := W18.addHand ⟨bk, hbk⟩ W15.sz.1 (Int.le_refl _) (by rw [hns18]; decide) ⟨by show 0 ≤ S15.hm; omega, by show S15.hm < _; omega⟩
        obtain ⟨zb1, _, _⟩ := bo19.vls
        have hat : ((Ds ++ [D15]).map V.ref)[k]? = some (.ref D15) := by
          rw [List.getElem?_map, List.getElem?_append_right (by rw [lD, g.lx]; exact Nat.le_refl _), lD, g.lx, Nat.sub_self]; rfl
        refine ⟨_, rfl, _, rfl, vl, _, _, _, rfl, rfl, SqL.of zb1, atI_nat hat, ?_⟩
        refine ⟨F19, (S15.delHand st).addHand (k : Int) S15.now, Ds ++ [D15], xs ++ [x15], us ++ [u], S15.hm, D15, x15, _, _, _, rfl, ⟨sh19, o17.step st1719, g.scl, bo19, I15.brs rfl rfl W19, ?_, ?_, bm15, ⟨by show 0 ≤ S15.hm + 1; omega, by show S15.hm + 1 ≤ _; omega⟩, by show S15.now ≤ _; omega, ⟨k, S15.now, ?_, Int.le_refl _, ⟨bk, hbk⟩, fun j hj => ?_⟩, ⟨h19.1, h19.2, nr15⟩⟩⟩
        · rw [List.length_append, g.lx]; rfl
        · rw [List.length_append, g.lu]; rfl
        · show (S15.delHand st).hns ++ [(S15.hm, _)] = _
          rw [hns18]; rfl
        · have := I15.head k (by omega) (by omega) rfl j hj
          rw [← lxk, vsF_new, lxk] at this
          rw [sees_brs (S := S15) (S2 := (S15.delHand st).addHand (k : Int) S15.now) rfl]; exact this
    · rintro σ H7 ⟨F7, S, Ds, xs, us, st, kd, kx, x6, x7, x8, rfl, g⟩
      refine ⟨_, rfl, _, rfl, _, rfl, _, rfl, by show 4 ≤ sizeLine; decide, fun t ht => ?_⟩
      have s8 : Sm H7 (upd H7 t (.tup [.ref vl, .ref ul, .int st, .ref kd])) := Sm.new ht
      have h8 : upd H7 t (.tup [.ref vl, .ref ul, .int st, .ref kd]) t = some (.tup [.ref vl, .ref ul, .int st, .ref kd]) := upd_same
      generalize upd H7 t (.tup [.ref vl, .ref ul, .int st, .ref kd]) = H8 at s8 h8
      have st8 : Stp ro H7 F7 H8 F7 := Stp.sm s8
      exact kq H8 t F7 S vl ul (N + 1) Ds xs us st kd kx (by omega) (by omega) ⟨g.sh.sm s8, g.row.sm s8, g.scl, g.bo.stp st8, g.I, g.lx, g.lu, g.bm, g.hm, g.now, g.hn, ⟨s8.dK g.dk.1, g.dk.2.1, g.dk.2.2⟩⟩ h8
end
end Vs
namespace Vs
open PySem L2 PyProof.Rows
theorem nd_len {α : Type} [DecidableEq α] {l : List α} : ∀ {Ks : List α}, l.Nodup → (∀ k ∈ l, k ∈ Ks) → l.length ≤ Ks.length := by
  induction l with
  | nil => intro Ks _ _; exact Nat.zero_le _
  | cons a l ih =>
    intro Ks hn hs
    obtain ⟨h1, h2⟩ := List.nodup_cons.mp hn
    have ha := hs a List.mem_cons_self
    have := ih (Ks := Ks.erase a) h2 fun k hk => (List.mem_erase_of_ne (fun z => h1 (by rw [← z]; exact hk))).mpr (hs k (List.mem_cons_of_mem _ hk))
    rw [List.length_erase_of_mem ha] at this
    have : 0 < Ks.length := List.length_pos_of_mem ha
    rw [List.length_cons]; omega
theorem inV_int (n : Int) (l : List Int) : inV (.int n) (l.map V.int) = decide (n ∈ l) := by
  unfold inV
  rw [Bool.eq_iff_iff, List.any_eq_true, decide_eq_true_eq]
  constructor
  · rintro ⟨y, hy, e⟩
    obtain ⟨m, hm, rfl⟩ := List.mem_map.mp hy
    have : m = n := by simpa [eqV] using e
    rw [← this]; exact hm
  · intro h
    exact ⟨.int n, List.mem_map.mpr ⟨n, h, rfl⟩, by simp [eqV]⟩
theorem flat_ints (l : List Int) : (l.map V.int).all flatV = true := by
  rw [List.all_eq_true]
  intro x hx
  obtain ⟨m, _, rfl⟩ := List.mem_map.mp hx
  rfl
def alF (ds : List Int) (n : Int) : Bool := decide (n ∉ ds)
def alL (ds : List Int) (i : Nat) : List Int := ((List.range i).map (fun (j : Nat) => (j : Int))).filter (alF ds)
theorem alL_snoc (ds : List Int) (i : Nat) : alL ds (i + 1) = if alF ds (i : Int) = true then alL ds i ++ [(i : Int)] else alL ds i := by
  unfold alL
  rw [List.range_succ, List.map_append, List.filter_append]
  show _ ++ List.filter _ [(i : Int)] = _
  by_cases h : alF ds (i : Int) = true
  · rw [if_pos h, List.filter_cons, if_pos h]; rfl
  · rw [if_neg h, List.filter_cons, if_neg h, List.filter_nil, List.append_nil]
theorem alL_mem (ds : List Int) (i : Nat) (n : Int) : n ∈ alL ds i ↔ (0 ≤ n ∧ n < i) ∧ alF ds n = true := by
  unfold alL
  rw [List.mem_filter, List.mem_map]
  refine and_congr ⟨?_, ?_⟩ Iff.rfl
  · rintro ⟨j, hj, rfl⟩
    have := List.mem_range.mp hj
    omega
  · rintro ⟨h0, h1⟩
    exact ⟨n.toNat, List.mem_range.mpr (by omega), by omega⟩
theorem alL_nd (ds : List Int) (i : Nat) : (alL ds i).Nodup := by
  unfold alL
  exact List.Pairwise.filter _ (List.Pairwise.map (R := fun a b => a ≠ b) (fun (j : Nat) => (j : Int)) (fun a b h => by omega) List.nodup_range)
structure LInv (N : Nat) (un : Int → Int) (ds : List Int) (i : Nat) (L : List Int) : Prop where
  nd : L.Nodup
  up : ∀ n ∈ L, Up N un (alF ds) n
  al : ∀ n : Int, 0 ≤ n → n < N → alF ds n = true → n ∈ L
  cl : ∀ m ∈ L, (N : Int) - i ≤ m → m ≠ 0 → un m ∈ L
theorem up_rng {N : Nat} {un : Int → Int} {al : Int → Bool} (uo : ∀ i, 0 < i → i < (N : Int) → 0 ≤ un i ∧ un i < i) {n : Int} (h : Up N un al n) : 0 ≤ n ∧ n < N := by
  induction h with
  | al h0 h1 _ => exact ⟨h0, h1⟩
  | «by» _ n0 ih =>
    have := uo _ (by omega) ih.2
    omega
theorem LInv.len {N : Nat} {un : Int → Int} {ds : List Int} {i : Nat} {L : List Int} (uo : ∀ i, 0 < i → i < (N : Int) → 0 ≤ un i ∧ un i < i) (h : LInv N un ds i L) : L.length ≤ N := by
  have h1 := nd_len (Ks := (List.range N).map (fun (j : Nat) => (j : Int))) h.nd fun n hn => by
    have := up_rng uo (h.up n hn)
    exact List.mem_map.mpr ⟨n.toNat, List.mem_range.mpr (by omega), by omega⟩
  rw [List.length_map, List.length_range] at h1
  exact h1
theorem LInv.start (N : Nat) (un : Int → Int) (ds : List Int) : LInv N un ds 0 (alL ds N) where
  nd := alL_nd ds N
  up := fun n hn => by
    obtain ⟨⟨a, b⟩, c⟩ := (alL_mem ds N n).mp hn
    exact .al a b c
  al := fun n a b c => (alL_mem ds N n).mpr ⟨⟨a, b⟩, c⟩
  cl := fun m hm h _ => by
    have := ((alL_mem ds N m).mp hm).1.2
    omega
theorem LInv.skip {N : Nat} {un : Int → Int} {ds : List Int} {i : Nat} {L : List Int} (h : LInv N un ds i L) {k : Int} (hk : k = (N : Int) - 1 - i) (hs : k ∉ L ∨ un k ∈ L) : LInv N un ds (i + 1) L where
  nd := h.nd
  up := h.up
  al := h.al
  cl := fun m hm hl m0 => by
    by_cases e : m = k
    · rcases hs with z | z
      · rw [e] at hm; exact absurd hm z
      · rw [e]; exact z
    · exact h.cl m hm (by omega) m0
theorem LInv.add {N : Nat} {un : Int → Int} {ds : List Int} {i : Nat} {L : List Int} (uo : ∀ i, 0 < i → i < (N : Int) → 0 ≤ un i ∧ un i < i) (h : LInv N un ds i L) {k : Int} (hk : k = (N : Int) - 1 - i) (k0 : 0 < k) (h1 : k ∈ L) (h2 : un k ∉ L) : LInv N un ds (i + 1) (L ++ [un k]) where
  nd := by
    rw [List.nodup_append]
    refine ⟨h.nd, List.nodup_cons.mpr ⟨fun z => (by cases z), List.nodup_nil⟩, fun x hx y hy e => h2 ?_⟩
    have : y = un k := by simpa using hy
    rw [← this, ← e]; exact hx
  up := fun n hn => by
    rcases List.mem_append.mp hn with z | z
    · exact h.up n z
    · have : n = un k := by simpa using z
      rw [this]; exact (h.up k h1).by (by omega)
  al := fun n a b c => List.mem_append.mpr (.inl (h.al n a b c))
  cl := fun m hm hl m0 => by
    have hu := uo k k0 (by omega)
    rcases List.mem_append.mp hm with z | z
    · by_cases e : m = k
      · rw [e]; exact List.mem_append.mpr (.inr (by simp))
      · exact List.mem_append.mpr (.inl (h.cl m z (by omega) m0))
    · have : m = un k := by simpa using z
      omega
theorem LInv.all {N : Nat} {un : Int → Int} {ds : List Int} {L : List Int} (h : LInv N un ds (N - 1) L) (uo : ∀ i, 0 < i → i < (N : Int) → 0 ≤ un i ∧ un i < i) (hN : 0 < N) (n : Int) : n ∈ L ↔ Up N un (alF ds) n := by
  refine ⟨h.up n, fun u => ?_⟩
  induction u with
  | al a b c => exact h.al _ a b c
  | «by» hm m0 ih =>
    have := up_rng uo hm
    exact h.cl _ ih (by omega) m0
section
variable {P : Program} {w : World} {K : PySem.W.Frag} {mg : Str → Option Value} {base : Heap} {T : Cs} {U : Es} {Pt : Addr}
/-! ### _law_left -/
def spLeft (K : PySem.W.Frag) : Sp := fun vs H Q _ => ∃ (ul dl : Addr) (us ds : List Int), vs = [.ref ul, .ref dl] ∧ H ul = some (.lst (us.map V.int)) ∧ H dl = some (.lst (ds.map V.int)) ∧ us.length ≤ 900 ∧ ds.length ≤ 900 ∧ (∀ i, 0 < i → i < (us.length : Int) → 0 ≤ unF us i ∧ unF us i < i) ∧
  ∀ H' t a b c (L : List Int), Sm H H' → H' t = some (.tup [.ref a, .ref b, .ref c]) → H' a = some (.lst (L.map V.int)) → H' b = some (.lst ((ds.filter fun n => decide (n ∈ L)).map V.int)) → H' c = some (.lst []) → L.Pairwise (· < ·) → (∀ n, n ∈ L ↔ Up us.length (unF us) (alF ds) n) → Q (.ref t) H'
abbrev nLeft : List Str := ["_law_unders", "_law_dropped", "_law_found", "_law_k"]
theorem sc_left : FnScope nLeft ["_law_unders", "_law_dropped"] (defScope s__law_left) := ⟨rfl, rfl, rfl, by decide +kernel, rfl, by decide +kernel, by decide +kernel⟩
theorem ok_left {f : Addr} {fd : FuncData} (F : Fun K "_law_left" "_law_left" s__law_left f fd) (B : Bt mg) : FnOk P w K mg base CX0 1 f fd ["_law_unders", "_law_dropped"] (spLeft K) := by
  refine F.ok sc_left (fun vs H Q E h => ?_) (fun cdv A outer s H vs Q E hr h => ?_)
  · obtain ⟨ul, dl, us, ds, rfl, _⟩ := h
    rfl
  · obtain ⟨ul, dl, us, ds, rfl, hul, hdl, lu, ld, uo, kq⟩ := h
    have hu := hu_of hr
    refine ⟨_, pss_cons (ps_set (i := 2) sc_left.nd rfl (.inr rfl) (pe_lc (own := [("_law_k", 3)]) (g := gName 3) (tt := tTest (tOp (rIn K true) (tVar 3) (tVar 1))) (te := tVar 3) rfl sc_left.nd (pi_range1 (by rfl) B.range (pa_cons (pe_callB call_len_seq (by rfl) B.len PySem.boot_len (pa_cons (pv 0) pa_nil)) pa_nil)) (blkOk_by (own := [("_law_k", 3)]) (N := nLeft) (sc := defScope s__law_left) (by decide +kernel))
        (fun _ _ _ _ _ => pg_name (i := 3) sc_left.nd rfl (.inl rfl)) (fun _ _ _ _ _ => by exact pts_one (pt_cmpR op_notIn_seq (pv 3) (pv 1) rfl)) (fun _ _ _ _ _ => by exact pv 3)))
      (pss_cons (ps_for PassesOwn.never rfl (pi_range3 (by rfl) B.range (pa_cons (pe_op op_sub (pe_callB call_len_seq (by rfl) B.len PySem.boot_len (pa_cons (pv 0) pa_nil)) pe_int) (pa_cons pe_int (pa_cons (pe_un un_neg pe_int) pa_nil)))) (pg_name (i := 3) sc_left.nd rfl (.inl rfl))
        (pss_one (ps_if (PW.pt (pw_and (pt_cmpR op_in_seq (pv 3) (pv 2) rfl) (pw_and1 (pt_cmpR op_notIn_seq (pe_ix ix_list (pv 0) (pv 3) (fun _ _ => rfl)) (pv 2) rfl))))
          (pss_one (ps_expr (pe_bm PySem.F.plainAttrs_list PySem.F.slot_list_append PySem.F.type_list_append mt_append (pv 2) (pa_cons (pe_ix ix_list (pv 0) (pv 3) (fun _ _ => rfl)) pa_nil)))) pss_nil)))
      (pss_one (ps_ret (pe_tup (pa_cons (pe_callB cr_sortedI (by rfl) B.sorted (by decide +kernel) (pa_cons (pv 2) pa_nil)) (pa_cons (pe_lc (own := [("_law_k", 3)]) (g := gName 3) (tt := tTest (tOp (rIn K false) (tVar 3) (tVar 2))) (te := tVar 3) rfl sc_left.nd (pi_list (pv 1)) (blkOk_by (own := [("_law_k", 3)]) (N := nLeft) (sc := defScope s__law_left) (by decide +kernel))
        (fun _ _ _ _ _ => pg_name (i := 3) sc_left.nd rfl (.inl rfl)) (fun _ _ _ _ _ => by exact pts_one (pt_cmpR op_in_seq (pv 3) (pv 2) rfl)) (fun _ _ _ _ _ => by exact pv 3)) (pa_cons (pe_lst pa_nil) pa_nil))))))), ?_⟩
    refine ⟨_, rfl, ul, _, rfl, .inl (SqL.of hul), (us.length : Int), ?_⟩
    refine ⟨by rw [List.length_map], by omega, by omega, fun D hD => ?_⟩
    rw [show ((us.length : Int)).toNat = us.length by omega]
    have nuD : ul ≠ D := ne_of_none hul hD
    have ndD : dl ≠ D := ne_of_none hdl hD
    refine lc_range (lo := 0) (n := us.length) (fun i H2 => H2 = upd H D (.lst ((alL ds i).map V.int))) rfl ?_ ?_
    · rintro i H2 hi rfl
      refine ⟨rfl, ?_⟩
      have hd2 : upd H D (.lst ((alL ds i).map V.int)) dl = some (.lst (ds.map V.int)) := by rw [upd_ne ndD]; exact hdl
      refine ⟨_, rfl, _, rfl, dl, _, rfl, .inl (SqL.of hd2), rfl, flat_ints ds, _, rfl, ?_⟩
      rw [inV_int, alL_snoc, show (0 : Int) + (i : Nat) = (i : Int) by omega]
      by_cases q : (i : Int) ∈ ds
      · refine ifF (by simp [q]) ?_
        rw [if_neg (by unfold alF; simp [q])]
      · refine ifT (by simp [q]) ?_
        rw [if_pos (by unfold alF; simp [q])]
        refine ⟨_, rfl, _, upd_same, le1000000 ?_, ?_⟩
        · rw [List.length_map]
          have := (LInv.start us.length (unF us) ds).len uo
          have : (alL ds i).length ≤ i := by
            unfold alL
            refine Nat.le_trans (List.length_filter_le _ _) ?_
            rw [List.length_map, List.length_range]; exact Nat.le_refl _
          omega
        · rw [upd_upd, List.map_append]; rfl
    · rintro H2 rfl
      -- the way down
      have hu2 : ∀ xs, upd H D (.lst xs) ul = some (.lst (us.map V.int)) := fun xs => by rw [upd_ne nuD]; exact hul
      refine ⟨_, rfl, ul, _, rfl, .inl (SqL.of (hu2 _)), _, _, rfl, rfl, ?_⟩
      have rg := RgC.neg (i := (us.length : Int) - 1) (j := 0) (by omega) (by omega) (by decide) (by decide)
      rw [show ((us.length : Int) - 1 - 0).toNat = us.length - 1 by omega] at rg
      rw [List.length_map]
      refine ⟨_, rfl, _, _, _, _, rfl, rg, ?_⟩
      refine for_rangeC (lo := (us.length : Int) - 1) (c := -1) (n := us.length - 1) (fun i σ H2 => ∃ x3 L, σ = [some (.ref ul), some (.ref dl), some (.ref D), x3] ∧ H2 = upd H D (.lst (L.map V.int)) ∧ LInv us.length (unF us) ds i L)
        ⟨_, _, rfl, rfl, LInv.start _ _ _⟩ ?_ ?_
      · rintro i σ H2 hi ⟨x3, L, rfl, rfl, hL⟩
        have hk : (us.length : Int) - 1 + (i : Nat) * (-1) = (us.length : Int) - 1 - i := by omega
        rw [hk]
        generalize hkk : (us.length : Int) - 1 - i = k
        have k0 : 0 < k := by omega
        have hat : (us.map V.int)[k.toNat]? = some (.int (unF us k)) := by
          rw [List.getElem?_map]
          unfold unF
          rw [List.getElem?_eq_getElem (by omega)]; rfl
        have hat' : atI (us.map V.int) k = some (.int (unF us k)) := by
          rw [← Int.toNat_of_nonneg (show 0 ≤ k by omega)]
          exact atI_nat (by rw [Int.toNat_of_nonneg (show 0 ≤ k by omega)]; exact hat)
        refine ⟨_, rfl, _, rfl, D, _, rfl, .inl (SqL.of upd_same), rfl, flat_ints L, _, rfl, ?_⟩
        rw [inV_int]
        by_cases q : k ∈ L
        · refine ifT (by simp [q]) ?_
          refine ⟨_, rfl, _, rfl, ul, _, _, _, rfl, rfl, SqL.of (hu2 _), hat', _, rfl, D, _, rfl, .inl (SqL.of upd_same), rfl, flat_ints L, _, rfl, ?_⟩
          rw [inV_int]
          by_cases q2 : unF us k ∈ L
          · refine ifF (by simp [q2]) ?_
            exact ⟨_, L, rfl, rfl, hL.skip hkk.symm (.inr q2)⟩
          · refine ifT (by simp [q2]) ?_
            have ln := hL.len uo
            refine ⟨_, rfl, .inl ⟨rfl, _, SqL.of upd_same⟩, _, rfl, _, rfl, ul, _, _, _, rfl, rfl, SqL.of (hu2 _), hat', D, _, _, rfl, rfl, upd_same, le1000000 (by rw [List.length_map]; omega), ?_⟩
            rw [upd_upd]
            exact ⟨_, L ++ [unF us k], rfl, by rw [List.map_append]; rfl, hL.add uo hkk.symm k0 q q2⟩
        · refine ifF (by simp [q]) ?_
          exact ifF rfl ⟨_, L, rfl, rfl, hL.skip hkk.symm (.inl q)⟩
      · rintro σ H2 ⟨x3, L, rfl, rfl, hL⟩
        have ln := hL.len uo
        refine ⟨_, rfl, D, L, rfl, SqL.of upd_same, fun L2 a pm pw ha => ?_⟩
        have s2 : Sm H (upd H D (.lst (L.map V.int))) := Sm.new hD
        have D2 : upd H D (.lst (L.map V.int)) D = some (.lst (L.map V.int)) := upd_same
        generalize upd H D (.lst (L.map V.int)) = H2 at s2 D2 ha
        have s3 : Sm H2 (upd H2 a (.lst (L2.map V.int))) := Sm.new ha
        have a3 : upd H2 a (.lst (L2.map V.int)) a = some (.lst (L2.map V.int)) := upd_same
        generalize upd H2 a (.lst (L2.map V.int)) = H3 at s3 a3
        have s13 := s2.trans s3
        have dl3 := s13.lst hdl
        have D3 := s3.lst D2
        refine ⟨_, rfl, dl, rfl, ⟨_, SqL.of dl3⟩, fun b hb => ?_⟩
        have nb1 : dl ≠ b := ne_of_none dl3 hb
        have nb2 : D ≠ b := ne_of_none D3 hb
        refine lc_list (K := K) (a := dl) (xs := ds.map V.int) (fun i H4 => H4 = upd H3 b (.lst (((ds.take i).filter fun n => decide (n ∈ L)).map V.int))) rfl (fun i H4 _ e => by rw [e]; exact SqL.of (by rw [upd_ne nb1]; exact dl3)) ?_ ?_
        · rintro i x H4 hx rfl
          rw [List.getElem?_map] at hx
          cases e : ds[i]? with
          | none => rw [e] at hx; cases hx
          | some n =>
            rw [e] at hx
            obtain rfl := Option.some.inj hx
            refine ⟨rfl, ?_⟩
            refine ⟨_, rfl, _, rfl, D, _, rfl, .inl (SqL.of (by rw [upd_ne nb2]; exact D3)), rfl, flat_ints L, _, rfl, ?_⟩
            rw [inV_int, take_snoc e, List.filter_append]
            by_cases q : n ∈ L
            · refine ifT (by simp [q]) ?_
              refine ⟨_, rfl, _, upd_same, le1000000 ?_, ?_⟩
              · rw [List.length_map]
                have := List.length_filter_le (fun n => decide (n ∈ L)) (ds.take i)
                have := (List.take_sublist i ds).length_le
                omega
              · rw [upd_upd, List.map_append]
                have : [n].filter (fun n => decide (n ∈ L)) = [n] := by simp [q]
                rw [this]; rfl
            · refine ifF (by simp [q]) ?_
              have : [n].filter (fun n => decide (n ∈ L)) = [] := by simp [q]
              rw [this, List.append_nil]
        · rintro H4 rfl
          rw [List.length_map, List.take_length]
          have s4 : Sm H3 (upd H3 b (.lst ((ds.filter fun n => decide (n ∈ L)).map V.int))) := Sm.new hb
          have b4 : upd H3 b (.lst ((ds.filter fun n => decide (n ∈ L)).map V.int)) b = some (.lst ((ds.filter fun n => decide (n ∈ L)).map V.int)) := upd_same
          generalize upd H3 b (.lst ((ds.filter fun n => decide (n ∈ L)).map V.int)) = H4 at s4 b4
          refine ⟨by show 0 ≤ sizeLine; exact Nat.zero_le _, fun c hc => ?_⟩
          have s5 : Sm H4 (upd H4 c (.lst [])) := Sm.new hc
          have c5 : upd H4 c (.lst []) c = some (.lst []) := upd_same
          generalize upd H4 c (.lst []) = H5 at s5 c5
          refine ⟨by show 3 ≤ sizeLine; decide, fun t ht => ?_⟩
          have s6 : Sm H5 (upd H5 t (.tup [.ref a, .ref b, .ref c])) := Sm.new ht
          have s56 := s5.trans s6
          have mem2 : ∀ n, n ∈ L2 ↔ n ∈ L := fun n => pm.mem_iff
          have nd2 : L2.Nodup := pm.symm.nodup hL.nd
          refine kq _ t a b c L2 (((s13.trans s4).trans s5).trans s6) upd_same (((s4.trans s5).trans s6).lst a3) ?_ (s6.lst c5) ?_ fun n => ?_
          · rw [show (ds.filter fun n => decide (n ∈ L2)) = (ds.filter fun n => decide (n ∈ L)) from List.filter_congr fun n _ => by rw [decide_eq_decide]; exact mem2 n]
            exact s56.lst b4
          · exact (pw.and nd2).imp fun ⟨h1, h2⟩ => by omega
          · rw [mem2]
            by_cases hN : 0 < us.length
            · exact hL.all uo hN n
            · refine ⟨hL.up n, fun u => ?_⟩
              have := up_rng uo u
              omega
end
end Vs
/-! ## Judgements of keys of which nothing went are right behind a sweep -/
namespace Vs
open PySem L2
theorem flat_sub {β γ : Type} (f : β → List γ) {l2 l : List β} (s : l2.Sublist l) : l.Nodup → (∀ n ∈ l, n ∉ l2 → f n = []) → l2.flatMap f = l.flatMap f := by
  induction s with
  | slnil => intro _ _; rfl
  | cons a s ih =>
    rename_i l1 l
    intro nd h
    obtain ⟨h1, h2⟩ := List.nodup_cons.mp nd
    rw [List.flatMap_cons, h a List.mem_cons_self (fun z => h1 (s.subset z)), List.nil_append]
    exact ih h2 fun n hn hn2 => h n (List.mem_cons_of_mem _ hn) hn2
  | cons_cons a s ih =>
    rename_i l1 l
    intro nd h
    obtain ⟨h1, h2⟩ := List.nodup_cons.mp nd
    rw [List.flatMap_cons, List.flatMap_cons, ih h2 fun n hn hn2 => h n (List.mem_cons_of_mem _ hn) fun z => ?_]
    rcases List.mem_cons.mp z with z | z
    · exact h1 (z ▸ hn)
    · exact hn2 z
theorem foldl_same {α β : Type} {f g : α → β → α} : ∀ (l : List β) (a : α), (∀ a, ∀ x ∈ l, f a x = g a x) → l.foldl f a = l.foldl g a
  | [], _, _ => rfl
  | x :: l, a, h => by
    rw [List.foldl_cons, List.foldl_cons, h a x List.mem_cons_self]
    exact foldl_same l _ fun a y hy => h a y (List.mem_cons_of_mem _ hy)
theorem flat_keys {β γ : Type} (f : Int → List γ) (bs : List (Int × β)) : (bs.flatMap fun p => f p.1) = (bs.map (·.1)).flatMap f := by
  induction bs with
  | nil => rfl
  | cons p bs ih => rw [List.flatMap_cons, List.map_cons, List.flatMap_cons, ih]
theorem reasonsO_keys (bs : List (Int × Br)) (k : Str) (os : List ((Int × Int) × Own)) : reasonsO bs k os = (bs.map (·.1)).flatMap fun n => (keptB bs k os n).map fun c => ((n, c.1.1), c.2) := by
  unfold reasonsO
  exact flat_keys (fun n : Int => (keptB bs k os n).map fun c => (((n, c.1.1), c.2) : (Int × Int) × Rsn)) bs
theorem swept_right {Ks : List Str} {S : Sh} (W : WF Ks S) (a0 : ∀ b, aget S.brs 0 = some b → b.alive = true) {m : Nat} (hm : (goM S).length ≤ m) {k : Str} (hk : ∀ g ∈ goM S, g.1.2.1 ≠ k) :
    ownersM (S.sweepTo m) k = ownersM S k ∧ reasonsM (S.sweepTo m) k = reasonsM S k := by
  obtain ⟨Z, z1, z2, z3⟩ := swept_all W a0 hm
  -- nothing of the key went
  have all : ∀ n, Kn S k n = lineAt S.brs n k := fun n => by
    rw [← rest_line W n k, takeAll_line, List.filter_eq_self]
    intro c _
    refine decide_eq_true fun z => ?_
    obtain ⟨g, hg, e⟩ := List.mem_map.mp z
    exact hk g hg (congrArg (fun t : Int × Str × Int => t.2.1) e)
  have line : ∀ n b2, aget (S.sweepTo m).brs n = some b2 → lineAt (S.sweepTo m).brs n k = lineAt S.brs n k := fun n b2 h => by
    obtain ⟨b, hb, _, _, e⟩ := Z.br n b2 h
    rw [lineAt_of h, e, all]
  have rch : ∀ n mo, (∃ b2, aget (S.sweepTo m).brs n = some b2) → reachS (S.sweepTo m).brs k n mo = reachS S.brs k n mo := fun n mo h => by
    refine reach_congr W Z.W2 k (fun n x x2 => x2 = x ∧ ∃ b2, aget (S.sweepTo m).brs n = some b2) (fun n x x2 r => ?_) _ n mo mo (Nat.lt_succ_self _) ⟨rfl, h⟩
    obtain ⟨rfl, b2, h2⟩ := r
    obtain ⟨b, hb, e1, e2, e3⟩ := Z.br n b2 h2
    refine ⟨b, b2, hb, h2, by rw [e3, all, lineAt_of hb], e1, fun q hq => ⟨e2, ?_⟩⟩
    exact (Z.W2.ben n b2 q h2 (by rw [e1]; exact hq)).2
  have own : ownersM (S.sweepTo m) k = ownersM S k := by
    unfold ownersM
    have e := Z.vw
    have vin : ∀ v ∈ viewsM S, ∃ b2, aget (S.sweepTo m).brs v.2.1 = some b2 := fun v hv => view_in Z.W2 (by rw [e]; exact hv)
    rw [e]
    exact foldl_same _ _ fun acc v hv => by rw [rch _ _ (vin v hv)]
  refine ⟨own, ?_⟩
  unfold reasonsM
  rw [reasonsO_keys, reasonsO_keys]
  have keys : ((S.sweepTo m).brs.map (·.1)).Sublist (S.brs.map (·.1)) := by
    have h1 := z3.subl.map (·.1)
    rw [(takeM_rest _).2.2, takeAll_keys] at h1
    exact h1
  have f2 : (fun n : Int => (keptB (S.sweepTo m).brs k (ownersM (S.sweepTo m) k) n).map fun c => (((n, c.1.1), c.2) : (Int × Int) × Rsn)) = (fun n : Int => (keptB (S.sweepTo m).brs k (ownersM (S.sweepTo m) k) n).map fun c => ((n, c.1.1), c.2)) := rfl
  rw [← flat_sub _ keys (nodup_of_lt W.bks) fun n hn hn2 => ?_]
  · rw [List.flatMap_def, List.flatMap_def, List.map_congr_left fun n hn => ?_]
    obtain ⟨b2, hb2⟩ := aget_of_key hn
    rw [keptB_eq, keptB_eq, (Z.kept k _ n (Nat.lt_succ_self _) b2 hb2).2, line n b2 hb2, own]
  · -- a branch that went had no lines
    obtain ⟨b, hb⟩ := aget_of_key hn
    obtain ⟨b1, hb1, _⟩ := sweep_back (Ks := Ks) hb
    have none2 : aget (S.sweepTo m).brs n = none := by
      cases e : aget (S.sweepTo m).brs n with
      | none => rfl
      | some x => exact absurd (aget_key e) hn2
    have nl := (z3.del n b1 hb1 none2).2.1
    have el : lineAt S.brs n k = [] := by
      rw [← all, ← rest_line W n k]
      have c1 := takeM_core (takeAll S (goM S)) n
      rw [hb1] at c1
      cases e : aget (takeAll S (goM S)).brs n with
      | none => unfold lineAt; rw [e]
      | some b0 =>
        rw [e] at c1
        have c1 : core b1 = core b0 := Option.some.inj c1
        have : b0.lines = [] := by rw [← nl]; exact (congrArg (fun t => t.2.2.2) c1).symm
        rw [lineAt_of e]; unfold Br.line; rw [this]; rfl
    rw [keptB_eq, el]; rfl
end Vs
namespace Vs
open PySem L2
theorem swept_sh {Ks : List Str} {T : Cs} {H : Hp} {p : Addr} {S : Sh} (W : WF Ks S) (a0 : ∀ b, aget S.brs 0 = some b → b.alive = true) {m : Nat} (hm : (goM S).length ≤ m) {α : Rl → Addr} {δ : Dl} {J : List Str} {G : Jud} (e : α .sh = p) (L : Lay T H (S.sweepTo m) α δ J G) (Z : δ.Thaw)
    (r : ∀ k ∈ J, G k = (ownersM S k, reasonsM S k) ∧ (∃ n b, aget S.brs n = some b ∧ k ∈ b.lines.map (·.1)) ∧ ∀ g ∈ (goM S).take m, g.1.2.1 ≠ k) (nd : J.Nodup) : ShAt T H p (S.sweepTo m) (Foot (S.sweepTo m) α J) := by
  have tk : (goM S).take m = goM S := List.take_of_length_le hm
  rw [tk] at r
  refine ⟨α, δ, J, G, e, rfl, L, ⟨fun k hk => ?_, nd, fun k hk => ?_⟩, Z⟩
  · obtain ⟨h1, _, h3⟩ := r k hk
    obtain ⟨g1, g2⟩ := swept_right W a0 hm h3
    rw [h1, g1, g2]
  · obtain ⟨_, ⟨n, b, hb, hkb⟩, h3⟩ := r k hk
    obtain ⟨Z2, _, _, z3⟩ := swept_all W a0 hm
    have all : Kn S k n = lineAt S.brs n k := by
      rw [← rest_line W n k, takeAll_line, List.filter_eq_self]
      intro c _
      refine decide_eq_true fun z => ?_
      obtain ⟨g, hg, e⟩ := List.mem_map.mp z
      exact h3 g hg (congrArg (fun t : Int × Str × Int => t.2.1) e)
    obtain ⟨l, hl⟩ := aget_of_key hkb
    have ne := (W.ln n b k l hb hl).2.1
    have eq : lineAt S.brs n k = l := by rw [lineAt_of hb]; unfold Br.line; rw [hl]; rfl
    cases l with
    | nil => exact absurd rfl ne
    | cons c l =>
      have hc : c ∈ Kn S k n := by rw [all, eq]; exact List.mem_cons_self
      cases e2 : aget (S.sweepTo m).brs n with
      | some b2 =>
        obtain ⟨_, _, _, _, e3⟩ := Z2.br n b2 e2
        exact ⟨n, b2, e2, keyIn (c := c) (by rw [e3]; exact hc)⟩
      | none =>
        exfalso
        obtain ⟨b1, hb1, _⟩ := sweep_back (Ks := Ks) hb
        have nl := (z3.del n b1 hb1 e2).2.1
        have c1 := takeM_core (takeAll S (goM S)) n
        rw [hb1] at c1
        rw [← rest_line W n k] at hc
        cases e : aget (takeAll S (goM S)).brs n with
        | none => rw [e] at c1; cases c1
        | some b0 =>
          rw [e] at c1
          have c1 : core b1 = core b0 := Option.some.inj c1
          have : b0.lines = [] := by rw [← nl]; exact (congrArg (fun t => t.2.2.2) c1).symm
          rw [lineAt_of e] at hc
          have := keyIn hc
          rw [‹b0.lines = []›] at this
          cases this
end Vs
/-! ## k14's law: how all stands from the drops on -/
namespace Vs
open PySem L2 PyProof.Rows
structure Q14 (S : Sh) (N : Nat) (us : List Int) (xs : List V2) (ds : List Int) (st : Int) (kx : V2) (c : Int) : Prop where
  I : I14 S N (unF us) (alF ds) (vsF xs)
  hm : 0 ≤ S.hm ∧ S.hm ≤ c
  hn : ∃ b m, S.hns = [(st, ⟨b, m, []⟩)] ∧ ∀ j ∈ K2, seesM S j b m = kx.at j
structure O14 (K : PySem.W.Frag) (T : Cs) (Pt sc : Addr) (ns : List Int) (ro p vl ul dl : Addr) (H : Hp) (F : Addr → Prop) (S : Sh) (Ds : List Addr) (xs : List V2) (us ds : List Int) (kd : Addr) (kx : V2) : Prop where
  sh : ShAt T H p S F
  row : RO K Pt sc ns ro H F
  bo : BO ro vl ul Ds xs us H F
  dk : H kd = some (.dK (vD kx)) ∧ ¬ F kd ∧ kd ≠ ro
  dl : H dl = some (.lst (ds.map V.int)) ∧ ¬ F dl ∧ dl ≠ ro
section
variable {K : PySem.W.Frag} {T : Cs} {Pt sc : Addr} {ns : List Int} {ro p vl ul dl kd : Addr} {S S' : Sh} {H H' : Hp} {F F' : Addr → Prop} {Ds : List Addr} {xs : List V2} {us ds : List Int} {kx : V2} {N : Nat} {st c : Int}
theorem O14.step (o : O14 K T Pt sc ns ro p vl ul dl H F S Ds xs us ds kd kx) (s : Step H F H' F') (sh : ShAt T H' p S' F') : O14 K T Pt sc ns ro p vl ul dl H' F' S' Ds xs us ds kd kx := by
  obtain ⟨a1, a2, a3⟩ := o.dk
  obtain ⟨b1, b2, b3⟩ := o.dl
  have ka := s.keep _ _ a1 (ntD _) a2
  have kb := s.keep _ _ b1 (ntL _) b2
  exact ⟨sh, o.row.step s, o.bo.stp (Stp.of s), ⟨ka.1, ka.2, a3⟩, ⟨kb.1, kb.2, b3⟩⟩
theorem O14.sm (o : O14 K T Pt sc ns ro p vl ul dl H F S Ds xs us ds kd kx) (s : Sm H H') : O14 K T Pt sc ns ro p vl ul dl H' F S Ds xs us ds kd kx := o.step (Step.sm s) (o.sh.sm s)
theorem I14.congrAl {un : Int → Int} {vs : Int → Str → Option Int} (I : I14 S N un (fun _ => true) vs) : I14 S N un (alF []) vs := by
  have : (fun _ : Int => true) = alF [] := by funext x; unfold alF; simp
  rw [← this]; exact I
theorem vD_same (x : V2) : ∀ p ∈ vD x, valV (vD x) p.1 = some p.2 ∧ flatB p.2 = true := by
  obtain ⟨a, b⟩ := x
  intro p hp
  rcases List.mem_cons.mp hp with rfl | hp
  · exact ⟨rfl, by cases a <;> rfl⟩
  · rcases List.mem_cons.mp hp with rfl | hp
    · exact ⟨rfl, by cases b <;> rfl⟩
    · cases hp
theorem Q14.W (q : Q14 S N us xs ds st kx c) : WF K2 S := q.I.W
theorem Q14.hand (q : Q14 S N us xs ds st kx c) : ∃ h, aget S.hns st = some h ∧ h.drafts = [] ∧ sees2 S h.br h.mom = kx ∧ st.natAbs < 10 ^ 20 := by
  obtain ⟨b, m, e, s⟩ := q.hn
  have hh : aget S.hns st = some ⟨b, m, []⟩ := by rw [e, aget_cons, if_pos rfl]
  refine ⟨⟨b, m, []⟩, hh, rfl, ?_, ?_⟩
  · unfold sees2
    dsimp only
    rw [s "a" List.mem_cons_self, s "b" (by simp)]; rfl
  · have h1 := q.I.W.hn st _ hh
    have h2 := q.I.W.sz.2.2.2
    have : (10 : Nat) ^ 20 = 100000000000000000000 := by decide
    omega
theorem Q14.mono (q : Q14 S N us xs ds st kx c) {d : Int} (h : c ≤ d) : Q14 S N us xs ds st kx d := ⟨q.I, ⟨q.hm.1, by have := q.hm.2; omega⟩, q.hn⟩
/-- a branch is dropped -/
theorem Q14.drop (q : Q14 S N us xs ds st kx c) {n : Int} {b : Br} (hb : aget S.brs n = some b) (h0 : n ≠ 0) : Q14 (S.drop n b) N us xs (ds ++ [n]) st kx c := by
  have I2 := q.I.drop hb h0
  have e : (fun q => if q = n then false else alF ds q) = alF (ds ++ [n]) := by
    funext x
    unfold alF
    by_cases z : x = n
    · rw [if_pos z]; simp [z]
    · rw [if_neg z]; simp [z]
  rw [e] at I2
  obtain ⟨b', m, hh, s⟩ := q.hn
  refine ⟨I2, q.hm, b', m, hh, fun j hj => ?_⟩
  have hst := q.I.W.hn st ⟨b', m, []⟩ (by rw [hh, aget_cons, if_pos rfl])
  rw [drop_sees q.I.W hb j hst.2.2.1]; exact s j hj
/-- a hand more -/
theorem Q14.open (q : Q14 S N us xs ds st kx c) (hc : c < 900) {n : Int} (h0 : 0 ≤ n) (h1 : n < N) (ha : n ∉ ds) : WF K2 (S.addHand n S.now) ∧ aget (S.addHand n S.now).hns S.hm = some ⟨n, S.now, []⟩ ∧ (∀ j ∈ K2, seesM (S.addHand n S.now) j n S.now = vsF xs n j) ∧ S.hm.natAbs < 10 ^ 20 := by
  have al : alF ds n = true := by unfold alF; simp [ha]
  have hb := q.I.live n h0 h1 al
  obtain ⟨b', m, hh, s⟩ := q.hn
  have hm := q.hm
  refine ⟨q.I.W.addHand hb q.I.W.sz.1 (Int.le_refl _) (by rw [hh]; show 1 < 1000; decide) ⟨hm.1, by omega⟩, hand_new q.I.W n, fun j hj => ?_, ?_⟩
  · rw [sees_brs (S := S) (S2 := S.addHand n S.now) rfl]; exact q.I.head n h0 h1 al j hj
  · have : (10 : Nat) ^ 20 = 100000000000000000000 := by decide
    omega
theorem Q14.shut (q : Q14 S N us xs ds st kx c) (hc : c < 900) {n : Int} (W1 : WF K2 (S.addHand n S.now)) : (S.addHand n S.now).delHand S.hm = { S with hm := S.hm + 1 } ∧ Q14 { S with hm := S.hm + 1 } N us xs ds st kx (c + 1) := by
  have e := made_new q.I.W n
  refine ⟨e, ?_⟩
  have W2 := W1.delHand S.hm
  rw [e] at W2
  obtain ⟨b', m, hh, s⟩ := q.hn
  have hm := q.hm
  exact ⟨q.I.brs (S2 := { S with hm := S.hm + 1 }) rfl rfl W2, ⟨by show 0 ≤ S.hm + 1; omega, by show S.hm + 1 ≤ c + 1; omega⟩, b', m, hh, fun j hj => by rw [sees_brs (S := S) (S2 := { S with hm := S.hm + 1 }) rfl]; exact s j hj⟩
theorem Q14.sweep (q : Q14 S N us xs ds st kx c) (hN : N ≤ 10) : Q14 (S.sweepTo 100) N us xs ds st kx c ∧ goM (S.sweepTo 100) = [] := by
  obtain ⟨I2, idle, e1, e2, e3, e4⟩ := q.I.sweep (by omega)
  obtain ⟨b', m, hh, s⟩ := q.hn
  refine ⟨⟨I2, by rw [e3]; exact q.hm, b', m, by rw [e1]; exact hh, fun j hj => ?_⟩, idle⟩
  rw [e4 st ⟨b', m, []⟩ (by rw [hh, aget_cons, if_pos rfl]) j]; exact s j hj
theorem Q14.vers (q : Q14 S N us xs ds st kx c) (hN : N ≤ 10) : (versM S.brs).length ≤ 1000000 := by
  have h2 := q.I.count
  have h1 : (versM S.brs).length ≤ S.brs.length := by
    refine flat_len _ _ fun p hp => ?_
    have hb := aget_of_mem (nodup_of_lt q.I.W.bks) hp
    obtain ⟨_, _, _, _, h5, h6⟩ := q.I.br p.1 p.2 hb
    refine Nat.le_trans (flat_len _ _ fun k hk => ?_) ?_
    · unfold versL
      rw [List.length_map, withNext_len]; exact h6 k
    · rw [sortK_length, List.length_map]; exact h5
  omega
/-- a reason tells of no dropped head -/
theorem Q14.owner (q : Q14 S N us xs ds st kx c) {k : Str} {n m : Int} {y : Rsn} (h : aget (reasonsM S k) (n, m) = some y) (hd : y.own.1 = "head") : y.own.2 ∉ ds := by
  obtain ⟨v, hv, w, _, _, _, e⟩ := reason_view h
  unfold viewsM at hv
  rcases List.mem_append.mp hv with z | z
  · obtain ⟨u, _, rfl⟩ := List.mem_map.mp z
    rw [← e] at hd
    exact absurd (show (("hand" : Str)) = "head" from hd) (by decide +kernel)
  · obtain ⟨u, hu, rfl⟩ := List.mem_map.mp z
    obtain ⟨hu1, hu2⟩ := List.mem_filter.mp hu
    have hu3 := aget_of_mem (nodup_of_lt q.I.W.bks) hu1
    have := (q.I.br u.1 u.2 hu3).2.2.2.1
    rw [hu2] at this
    rw [← e]
    unfold alF at this
    exact of_decide_eq_true this.symm
end
end Vs
namespace Vs
open PySem L2 PyProof.Rows
section
variable {S : Sh} {xs : List V2} {us ds : List Int} {kx : V2} {N : Nat} {st c : Int}
theorem Q14.cells (q : Q14 S N us xs ds st kx c) (hN : N ≤ 10) : (cellsM S).length ≤ 1000000 := by
  have h2 := q.I.count
  have h1 : (cellsM S).length ≤ S.brs.length := by
    refine flat_len _ _ fun p hp => ?_
    have hb := aget_of_mem (nodup_of_lt q.I.W.bks) hp
    obtain ⟨_, _, _, _, h5, h6⟩ := q.I.br p.1 p.2 hb
    refine Nat.le_trans (flat_len _ _ fun k hk => ?_) ?_
    · unfold cellsL
      rw [List.length_map]; exact h6 k
    · rw [sortK_length, List.length_map]; exact h5
  omega
theorem Q14.cell (q : Q14 S N us xs ds st kx c) {x : Cl4} (h : x ∈ cellsM S) : ∃ b, aget S.brs x.1 = some b ∧ x.2.2 ∈ b.line x.2.1 ∧ x.2.1 ∈ K2 := by
  obtain ⟨p, hp, h⟩ := List.mem_flatMap.mp h
  obtain ⟨k, hk, h⟩ := List.mem_flatMap.mp h
  obtain ⟨cl, hc, rfl⟩ := List.mem_map.mp h
  have hb := aget_of_mem (nodup_of_lt q.I.W.bks) hp
  exact ⟨p.2, hb, hc, (q.I.W.lks p.1 p.2 hb).2 k (mem_sortK.mp hk)⟩
/-- at the end: which branches stand, which of them dropped, no mark -/
theorem Q14.last (I : I14 S N (unF us) (alF ds) (vsF xs)) (hN : N ≤ 10) (hh : S.hns = []) (hd : ds.Pairwise (· < ·)) (hr : ∀ n ∈ ds, 1 ≤ n ∧ n < N) {L : List Int} (pw : L.Pairwise (· < ·)) (hL : ∀ n, n ∈ L ↔ Up N (unF us) (alF ds) n) :
    (S.sweepTo 100).brs.map (·.1) = L ∧ dropM (S.sweepTo 100) = ds.filter (fun n => decide (n ∈ L)) ∧ (S.sweepTo 100).hns = [] ∧ marksM (S.sweepTo 100) = [] ∧ WF K2 (S.sweepTo 100) := by
  obtain ⟨I2, idle, e1, e2, _, _⟩ := I.sweep (by omega)
  have uniq : ∀ {a b : List Int}, a.Pairwise (· < ·) → b.Pairwise (· < ·) → (∀ n, n ∈ a ↔ n ∈ b) → a = b := fun {a b} ha hb h =>
    ((List.perm_ext_iff_of_nodup (nodup_of_lt ha) (nodup_of_lt hb)).mpr h).eq_of_pairwise (fun x y _ _ h1 h2 => by omega) ha hb
  have keys : (S.sweepTo 100).brs.map (·.1) = L := uniq I2.W.bks pw fun n => by
    rw [hL]
    constructor
    · intro h
      obtain ⟨b, hb⟩ := aget_of_key h
      exact I.left (by omega) hh _ n (Nat.lt_succ_self _) b hb
    · intro h
      obtain ⟨b, hb⟩ := I2.up_in h
      exact aget_key hb
  refine ⟨keys, ?_, by rw [e1, hh], ?_, I2.W⟩
  · refine uniq ?_ (hd.sublist List.filter_sublist) fun n => ?_
    · unfold dropM
      exact I2.W.bks.sublist (List.filter_sublist.map _)
    · unfold dropM
      rw [List.mem_map, List.mem_filter]
      constructor
      · rintro ⟨p, hp, rfl⟩
        obtain ⟨hp1, hp2⟩ := List.mem_filter.mp hp
        have hb := aget_of_mem (nodup_of_lt I2.W.bks) hp1
        have al := (I2.br p.1 p.2 hb).2.2.2.1
        refine ⟨?_, decide_eq_true (by rw [← keys]; exact aget_key hb)⟩
        unfold alF at al
        rw [al] at hp2
        simpa using hp2
      · rintro ⟨h1, h2⟩
        have h2 := of_decide_eq_true h2
        rw [← keys] at h2
        obtain ⟨b, hb⟩ := aget_of_key h2
        have al := (I2.br n b hb).2.2.2.1
        refine ⟨(n, b), List.mem_filter.mpr ⟨aget_mem hb, ?_⟩, rfl⟩
        show (!b.alive) = true
        rw [al]; unfold alF; simp [h1]
  · unfold marksM
    rw [List.flatMap_eq_nil_iff]
    intro p hp
    have hb := aget_of_mem (nodup_of_lt I2.W.bks) hp
    have := I.noMarks (by omega) hh hb
    unfold marksB
    rw [this]
    show (sortK []).map _ = []
    rw [List.perm_nil.mp (sortK_perm [])]; rfl
end
end Vs
namespace Vs
open PySem L2 PyProof.Rows
section
variable {P : Program} {w : World} {K : PySem.W.Frag} {mg : Str → Option Value} {base : Heap} {T : Cs} {U : Es} {Pt : Addr}
def spLaw (K : PySem.W.Frag) (Pt : Addr) : Sp := fun vs H Q _ => ∃ (sc : Addr) (ns : List Int), vs = [.ref sc] ∧ SqL K H sc (ns.map V.int) ∧ GxR.TabG H Pt ∧ ∀ H', Q (.bl true) H'
abbrev nLaw : List Str := ["_law_script", "_law_row", "_law_shelf", "_law_found", "_law_values", "_law_unders", "_law_stays", "_law_kept", "_law_dropped", "_law_k", "_law_turn", "_law_hand", "_law_number", "_law_key", "_law_born", "_law_value", "_law_told"]
theorem sc_law : FnScope nLaw ["_law_script"] (defScope s_law) := ⟨rfl, rfl, rfl, by decide +kernel, rfl, by decide +kernel, by decide +kernel⟩
theorem ok_law {f : Addr} {fd : FuncData} (F : Fun K "law" "law" s_law f fd) (B : Bt mg) (C : Cf K T) (ct : Fx P w K mg base CX0 "_law_taken" 1 ["_law_row", "_law_many"] (spTaken K))
    (cbr : Fx P w K mg base CX0 "_law_branches" 7 ["_law_row", "_law_shelf"] (spBranches K T Pt)) (cse : Fx P w K mg base CX0 "_law_seen_by" 6 ["_law_shelf", "_law_hand"] (spSeenBy T Pt)) (cle : Fx P w K mg base CX0 "_law_left" 1 ["_law_unders", "_law_dropped"] (spLeft K))
    (csa : Fx P w K mg base CX0 "_law_same" 4 ["_law_found", "_law_due"] (spSame 2)) (csh : Kx P w K mg base "Shelf" T.S 3 ["self"] (spShelfInit T))
    (cbe : Mx P w K mg base (L2.CX P w) T.S "begin" 4 ["self", "branch"] (spBegin T U)) (ccl : Mx P w K mg base (L2.CX P w) T.S "close" 2 ["self", "hand"] (spClose T U)) (cdr : Mx P w K mg base (L2.CX P w) T.S "drop" 2 ["self", "branch"] (spDrop T U))
    (cre : Mx P w K mg base (L2.CX P w) T.S "reason" 7 ["self", "branch", "key", "born"] (spReasonOf T Pt))
    (csn : Mx P w K mg base CX0 T.S "standing" 1 ["self"] (spStand T)) (csw : Mx P w K mg base CX0 T.S "sweep" 7 ["self", "most"] (spSweep T)) (cce : Mx P w K mg base CX0 T.S "cells" 1 ["self"] (spCells T)) (cma : Mx P w K mg base CX0 T.S "marked" 1 ["self"] (spMarked T)) :
    FnOk P w K mg base CX0 8 f fd ["_law_script"] (spLaw K Pt) := by
  obtain ⟨ft, fdt, gt, kt, bt, Gt⟩ := ct
  obtain ⟨fbr, fdbr, gbr, kbr, bbr, Gbr⟩ := cbr
  obtain ⟨fse, fdse, gse, kse, bse, Gse⟩ := cse
  obtain ⟨fle, fdle, gle, kle, ble, Gle⟩ := cle
  obtain ⟨fsa, fdsa, gsa, ksa, bsa, Gsa⟩ := csa
  obtain ⟨fsh, fdsh, gsh, msh, bsh, Gsh⟩ := csh
  obtain ⟨fbe, fdbe, mbe, bbe, Gbe⟩ := cbe
  obtain ⟨fcl, fdcl, mcl, bcl, Gcl⟩ := ccl
  obtain ⟨fdr, fddr, mdr, bdr, Gdr⟩ := cdr
  obtain ⟨fre, fdre, mre, bre, Gre⟩ := cre
  obtain ⟨fsn, fdsn, msn, bsn, Gsn⟩ := csn
  obtain ⟨fsw, fdsw, msw, bsw, Gsw⟩ := csw
  obtain ⟨fce, fdce, mce, bce, Gce⟩ := cce
  obtain ⟨fma, fdma, mma, bma, Gma⟩ := cma
  refine F.ok sc_law (fun vs H Q E h => ?_) (fun cdv A outer s H vs Q E hr h => ?_)
  · obtain ⟨sc, ns, rfl, _⟩ := h
    rfl
  · obtain ⟨sc, ns, rfl, hS, hT, kq⟩ := h
    have hu := hu_of hr
    refine ⟨_, pss_cons (ps_set (i := 1) sc_law.nd rfl (.inr rfl) (pe_lst (pa_cons (pv 0) (pa_cons pe_int (pa_cons pe_int (pa_cons pe_int pa_nil))))))
      (pss_cons (ps_set (i := 2) sc_law.nd rfl (.inl rfl) (pe_make0 msh Gsh (hr.mono (by decide)) rfl gsh bsh .nil pass0))
      (pss_cons (ps_set (i := 3) sc_law.nd rfl (.inl rfl) (pe_call Gbr hr rfl gbr kbr bbr .nil pass0 (pa_cons (pv 1) (pa_cons (pv 2) pa_nil))))
      (pss_cons (ps_if (pt_cmpR op_isN (pv 3) pe_non (nomark _)) (pss_one (ps_ret pe_bl)) pss_nil)
      (pss_cons (ps_asg (pv 3) (pg_tup rfl (pgs_cons (pg_name (i := 4) sc_law.nd rfl (.inl rfl)) (pgs_cons (pg_name (i := 5) sc_law.nd rfl (.inl rfl)) (pgs_cons (pg_name (i := 6) sc_law.nd rfl (.inl rfl)) (pgs_cons (pg_name (i := 7) sc_law.nd rfl (.inl rfl)) pgs_nil))))))
      (pss_cons (ps_setLc (i := 8) (own := [("_law_k", 9)]) (g := gName 9) (tt := tTest (tOp rEq (tCall (spTaken K) [] E0 (tCons (tVar 1) (tCons (tC (.int 2)) tNil))) (tC (.int 1)))) (te := tVar 9) rfl sc_law.nd rfl rfl (sw_true rfl rfl rfl (by decide +kernel)) (pi_range2 (by rfl) B.range (pa_cons pe_int (pa_cons (pe_callB call_len_seq (by rfl) B.len PySem.boot_len (pa_cons (pv 4) pa_nil)) pa_nil))) (blkOk_by (own := [("_law_k", 9)]) (N := nLaw) (sc := defScope s_law) (by decide +kernel))
        (fun _ _ _ _ _ => pg_name (i := 9) sc_law.nd rfl (.inl rfl)) (fun _ _ _ _ _ => by exact pts_one (pt_cmpR op_eq (pe_call Gt (hr.mono (by decide)) rfl gt kt bt .nil pass0 (pa_cons (pv 1) (pa_cons pe_int pa_nil))) pe_int (nomark _))) (fun _ _ _ _ _ => by exact pv 9))
      (pss_cons (ps_for PassesOwn.never rfl (pi_list (pv 8)) (pg_name (i := 9) sc_law.nd rfl (.inl rfl))
        (pss_one (ps_expr (pe_meth (pv 2) C.S mdr Gdr (hr.mono (by decide)) bdr .nil passE (pa_cons (pv 9) pa_nil)))))
      (pss_cons (ps_for PassesOwn.never rfl (pi_range1 (by rfl) B.range (pa_cons pe_int pa_nil)) (pg_name (i := 10) sc_law.nd rfl (.inl rfl))
        (pss_cons (ps_if (pt_cmpR (op_ne_dictA hr.units0) (pe_call Gse (hr.mono (by decide)) rfl gse kse bse .nil pass0 (pa_cons (pv 2) (pa_cons (pv 6) pa_nil))) (pv 7) (nomark _)) (pss_one (ps_ret pe_bl)) pss_nil)
        (pss_cons (ps_for PassesOwn.never rfl (pi_range1 (by rfl) B.range (pa_cons (pe_callB call_len_seq (by rfl) B.len PySem.boot_len (pa_cons (pv 4) pa_nil)) pa_nil)) (pg_name (i := 9) sc_law.nd rfl (.inl rfl))
          (pss_one (ps_if (pt_cmpR op_notIn_seq (pv 9) (pv 8) rfl)
            (pss_cons (ps_set (i := 11) sc_law.nd rfl (.inl rfl) (pe_meth (pv 2) C.S mbe Gbe (hr.mono (by decide)) bbe .nil passE (pa_cons (pv 9) pa_nil)))
            (pss_cons (ps_if (pt_cmpR (op_ne_dictA hr.units0) (pe_call Gse (hr.mono (by decide)) rfl gse kse bse .nil pass0 (pa_cons (pv 2) (pa_cons (pv 11) pa_nil))) (pe_ix ix_list (pv 4) (pv 9) (fun _ _ => rfl)) (nomark _)) (pss_one (ps_ret pe_bl)) pss_nil)
            (pss_one (ps_expr (pe_meth (pv 2) C.S mcl Gcl (hr.mono (by decide)) bcl .nil passE (pa_cons (pv 11) pa_nil)))))) pss_nil)))
        (pss_one (ps_expr (pe_meth (pv 2) C.S msw Gsw hr bsw .nil pass0 (pa_cons pe_int pa_nil)))))))
      (pss_cons (ps_for PassesOwn.never rfl (pi_list (pe_meth0 (pv 2) C.S mce Gce (hr.mono (by decide)) bce .nil pass0)) (pg_tup rfl (pgs_cons (pg_name (i := 12) sc_law.nd rfl (.inl rfl)) (pgs_cons (pg_name (i := 13) sc_law.nd rfl (.inl rfl)) (pgs_cons (pg_name (i := 14) sc_law.nd rfl (.inl rfl)) (pgs_cons (pg_name (i := 15) sc_law.nd rfl (.inl rfl)) pgs_nil)))))
        (pss_cons (ps_set (i := 16) sc_law.nd rfl (.inl rfl) (pe_meth (pv 2) C.S mre Gre hr bre .nil passE (pa_cons (pv 12) (pa_cons (pv 13) (pa_cons (pv 14) pa_nil)))))
        (pss_one (ps_if (PW.pt (pw_or (pt_cmpR op_isN (pv 16) pe_non (nomark _)) (pw_or1 (PW.pt (pw_and (pt_cmpR op_eq (pe_ix ix_tup (pe_ix ix_tup (pv 16) pe_int (fun _ _ => rfl)) pe_int (fun _ _ => rfl)) pe_str (nomark _)) (pw_and1 (pt_cmpR op_in_seq (pe_ix ix_tup (pe_ix ix_tup (pv 16) pe_int (fun _ _ => rfl)) pe_int (fun _ _ => rfl)) (pv 8) rfl)))))))
          (pss_one (ps_ret pe_bl)) pss_nil))))
      (pss_cons (ps_if (PW.pt (pw_or (pt_cmpR (op_neD hr.units) (pe_meth (pv 2) C.S msw Gsw hr bsw .nil pass0 (pa_cons pe_int pa_nil)) (pe_lst pa_nil) (nomark _)) (pw_or1 (pt_cmpR (op_ne_dictA hr.units0) (pe_call Gse (hr.mono (by decide)) rfl gse kse bse .nil pass0 (pa_cons (pv 2) (pa_cons (pv 6) pa_nil))) (pv 7) (nomark _)))))
        (pss_one (ps_ret pe_bl)) pss_nil)
      (pss_cons (ps_expr (pe_meth (pv 2) C.S mcl Gcl (hr.mono (by decide)) bcl .nil passE (pa_cons (pv 6) pa_nil)))
      (pss_cons (ps_expr (pe_meth (pv 2) C.S msw Gsw hr bsw .nil pass0 (pa_cons pe_int pa_nil)))
      (pss_one (ps_ret (pe_and (pe_call Gsa (hr.mono (by decide)) rfl gsa ksa bsa .nil pass0 (pa_cons (pe_meth0 (pv 2) C.S msn Gsn (hr.mono (by decide)) bsn .nil pass0) (pa_cons (pe_call Gle (hr.mono (by decide)) rfl gle kle ble .nil pass0 (pa_cons (pv 5) (pa_cons (pv 8) pa_nil))) pa_nil)))
        (pe_one (pe_cmpR (op_eqD hr.units) (pe_meth0 (pv 2) C.S mma Gma (hr.mono (by decide)) bma .nil pass0) (pe_lst pa_nil) (nomark _))))))))))))))))), ?_⟩
    refine ⟨_, rfl, by show 4 ≤ sizeLine; decide, fun ro hro => ?_⟩
    intro p dx hp hdx ndx
    refine ⟨p, dx, rfl, upd_same, fun H1 F1 sh1 keep1 => ⟨rfl, ?_⟩⟩
    have k0 : ∀ b o, upd H ro (.lst [.ref sc, .int 0, .int 0, .int 0]) b = some o → H1 b = some o ∧ ¬ F1 b := fun b o e => keep1 b o (by rw [upd_ne (ne_of_none e hp), upd_ne (ne_of_none e hdx)]; exact e) (ne_of_none e hp)
    have row1 := k0 ro _ upd_same
    have o1 : RO K Pt sc ns ro H1 F1 := by
      refine ⟨⟨0, 0, 0, row1.1, by decide, by decide, by decide, by decide⟩, row1.2, ?_, ?_⟩
      · rcases hS with (h | ⟨o, h⟩) | h
        · have k := k0 sc _ (by rw [upd_ne (ne_of_none h hro)]; exact h)
          exact .inl ⟨.inl k.1, k.2, (ne_of_none h hro).symm⟩
        · have k := k0 sc _ (by rw [upd_ne (ne_of_none h hro)]; exact h)
          exact .inl ⟨.inr ⟨o, k.1⟩, k.2, (ne_of_none h hro).symm⟩
        · exact .inr fun H' => .inr h
      · obtain ⟨ps, e, q⟩ := hT
        exact ⟨ps, (k0 Pt _ (by rw [upd_ne (ne_of_none e hro)]; exact e)).1, q⟩
    clear k0 keep1 row1 hp hdx ndx hro hT hS
    refine ⟨_, rfl, _, rfl, ro, p, sc, ns, F1, rfl, o1, sh1, fun H2 t F2 S vl ul N Ds xs us st kd kx hN1 hN g ht => ?_⟩
    refine ⟨_, rfl, rfl, _, rfl, ifF rfl ?_⟩
    refine ⟨_, rfl, t, _, rfl, SqT.of ht, rfl, _, _, rfl, _, _, rfl, _, _, rfl, _, _, rfl, rfl, ?_⟩
    -- which are dropped
    obtain ⟨vb1, vb2, vb3⟩ := g.bo.vls
    have lD : Ds.length = xs.length := Paired.length g.bo.ds
    refine ⟨_, rfl, vl, _, rfl, .inl (SqL.of vb1), 1, (N : Int), ?_⟩
    refine ⟨by rw [List.length_map, lD, g.lx], ⟨by decide, by decide, by omega, by omega⟩, fun dl hdl => ?_⟩
    rw [show ((N : Int) - 1).toNat = N - 1 by omega]
    have nFd : ¬ F2 dl := g.sh.ly.new hdl
    obtain ⟨ndr, nds⟩ := g.row.fresh hdl
    have new : ∀ a u, H2 a = some u → a ≠ dl := fun a u e => ne_of_none e hdl
    refine lc_range (lo := 1) (n := N - 1) (fun i H3 => ∃ ds : List Int, H3 dl = some (.lst (ds.map V.int)) ∧ ds.Pairwise (· < ·) ∧ (∀ n ∈ ds, 1 ≤ n ∧ n < 1 + (i : Int)) ∧ ds.length ≤ i ∧ ShAt T H3 p S F2 ∧ RO K Pt sc ns ro H3 F2 ∧ BO ro vl ul Ds xs us H3 F2 ∧ H3 kd = some (.dK (vD kx))) ?_ ?_ ?_
    · have s3 : Sm H2 (upd H2 dl (.lst [])) := Sm.new hdl
      exact ⟨[], upd_same, List.Pairwise.nil, fun n hn => (by cases hn), Nat.le_refl _, g.sh.sm s3, g.row.sm s3, g.bo.stp (Stp.sm s3), s3.dK g.dk.1⟩
    · rintro i H3 hi ⟨ds, h3, pw, rg, ln, sh3, o3, bo3, dk3⟩
      refine ⟨rfl, ?_⟩
      refine ⟨_, rfl, ro, 2, sc, ns, rfl, o3.row, o3.scR, by decide, by decide, fun r ys _ _ d4 => ⟨rfl, _, rfl, ?_⟩⟩
      obtain ⟨sh4, o4, st4⟩ := o3.taken sh3 d4
      generalize upd H3 ro (.lst ys) = H4 at sh4 o4 st4
      have h4 := st4.keep dl _ h3 (ntL _) nFd ndr
      have bo4 := bo3.stp st4
      have dk4 := st4.keep kd _ dk3 (ntD _) g.dk.2.1 g.dk.2.2
      cases hq : decide (V.int r = V.int 1) with
      | false => exact ifF rfl ⟨ds, h4.1, pw, fun n hn => ⟨(rg n hn).1, by have := (rg n hn).2; omega⟩, by omega, sh4, o4, bo4, dk4.1⟩
      | true =>
        refine ifT rfl ⟨_, rfl, _, h4.1, le1000000 (by rw [List.length_map]; omega), ds ++ [1 + (i : Int)], by rw [upd_same, List.map_append]; rfl, ?_, ?_, by rw [List.length_append]; show ds.length + 1 ≤ i + 1; omega, sh4.away nFd h4.1 (fun _ z => by cases z) _, o4.put h4.1 (ntL _) ndr nds _, ?_, ?_⟩
        · rw [List.pairwise_append]
          refine ⟨pw, List.pairwise_singleton _ _, fun a ha b hb => ?_⟩
          have : b = 1 + (i : Int) := by simpa using hb
          rw [this]; exact (rg a ha).2
        · intro n hn
          rcases List.mem_append.mp hn with z | z
          · exact ⟨(rg n z).1, by have := (rg n z).2; omega⟩
          · have : n = 1 + (i : Int) := by simpa using z
            omega
        · obtain ⟨a1, a2, a3⟩ := bo4.vls
          obtain ⟨b1, b2, b3⟩ := bo4.uls
          obtain ⟨c1, _, _⟩ := g.bo.vls
          obtain ⟨e1, _, _⟩ := g.bo.uls
          exact ⟨⟨by rw [upd_ne (new vl _ c1)]; exact a1, a2, a3⟩, ⟨by rw [upd_ne (new ul _ e1)]; exact b1, b2, b3⟩, bo4.vu, Paired.mapP bo4.ds fun D x ⟨d1, d2, d3⟩ => ⟨by rw [upd_ne (ne_of d1 h4.1 (by intro z; cases z))]; exact d1, d2, d3⟩⟩
        · rw [upd_ne (new kd _ g.dk.1)]; exact dk4.1
    · rintro H3 ⟨ds, h3, pw, rg, ln, sh3, o3, bo3, dk3⟩
      -- the drops
      have q0 : Q14 S N us xs [] st kx 32 := by
        obtain ⟨b, m, e, _, _, s⟩ := g.hn
        have := g.hm
        exact ⟨g.I.congrAl, ⟨this.1, by omega⟩, b, m, e, s⟩
      have o0 : O14 K T Pt sc ns ro p vl ul dl H3 F2 S Ds xs us ds kd kx := ⟨sh3, o3, bo3, ⟨dk3, g.dk.2⟩, ⟨h3, nFd, ndr⟩⟩
      have pwd := pw
      clear sh3 o3 bo3 dk3 h3 hdl new nds ndr nFd vb1 vb2 vb3 ht o1 sh1
      refine ⟨_, rfl, dl, rfl, ⟨_, SqL.of o0.dl.1⟩, ?_⟩
      have h20 : (10 : Nat) ^ 20 = 100000000000000000000 := by decide
      refine for_list (K := K) (a := dl) (xs := ds.map V.int) (fun i σ' H' => (∃ x9 x10 x11 x12 x13 x14 x15 x16, σ' = [some (.ref sc), some (.ref ro), some (.ref p), some (.ref t), some (.ref vl), some (.ref ul), some (.int st), some (.ref kd), some (.ref dl), x9, x10, x11, x12, x13, x14, x15, x16]) ∧
          ∃ F S, O14 K T Pt sc ns ro p vl ul dl H' F S Ds xs us ds kd kx ∧ Q14 S N us xs (ds.take i) st kx 32 ∧ ∀ n : Int, 0 ≤ n → n < N → ∃ b, aget S.brs n = some b)
        ⟨⟨_, _, _, _, _, _, _, _, rfl⟩, F2, S, o0, q0, fun n h0 h1 => g.I.live n h0 h1 rfl⟩ (fun i σ' H' _ ⟨_, F, S, o, _⟩ => SqL.of o.dl.1) ?_ ?_
      · rintro i x σ H4 hx ⟨⟨x9, x10, x11, x12, x13, x14, x15, x16, rfl⟩, F, S, o, q, live⟩
        rw [List.getElem?_map] at hx
        cases e : ds[i]? with
        | none => rw [e] at hx; cases hx
        | some n =>
          rw [e] at hx
          obtain rfl := Option.some.inj hx
          have hn := rg n (List.mem_of_getElem? e)
          obtain ⟨b, hb⟩ := live n (by omega) (by omega)
          have nin : n ∉ ds.take i := fun z => by
            obtain ⟨j, hj⟩ := List.mem_iff_getElem?.mp z
            rw [List.getElem?_take] at hj
            by_cases lt : j < i
            · rw [if_pos lt] at hj
              obtain ⟨j1, j2⟩ := List.getElem?_eq_some_iff.mp hj
              obtain ⟨i1, i2⟩ := List.getElem?_eq_some_iff.mp e
              have := (List.pairwise_iff_getElem.mp pw) j i j1 i1 lt
              omega
            · rw [if_neg lt] at hj; cases hj
          have al : b.alive = true := by rw [(q.I.br n b hb).2.2.2.1]; unfold alF; simp [nin]
          obtain ⟨dx4, fs4, hp4, no4⟩ := o.sh.ly.ins
          refine ⟨_, rfl, p, dx4, fs4, rfl, hp4, no4 _ (by decide +kernel), _, rfl, p, S, F, n, rfl, o.sh.ly, by omega, fun b' hb' => ⟨fun z => (by omega), fun _ => ⟨fun _ H5 F5 sh5 st5 => ?_, fun z => (by rw [hb] at hb'; cases hb'; rw [al] at z; cases z)⟩⟩, fun z => (by rw [hb] at z; cases z)⟩
          rw [hb] at hb'
          obtain rfl := Option.some.inj hb'
          refine ⟨⟨_, _, _, _, _, _, _, _, rfl⟩, F5, _, o.step st5 sh5, ?_, fun n2 h0 h1 => ?_⟩
          · rw [take_snoc e]; exact q.drop hb (by omega)
          · unfold Sh.drop
            rw [setBr_get]
            by_cases z : n2 = n
            · rw [if_pos z]; exact ⟨_, rfl⟩
            · rw [if_neg z]; exact live n2 h0 h1
      · rintro σ H4 ⟨⟨x9, x10, x11, x12, x13, x14, x15, x16, rfl⟩, F, S, o, q, _⟩
        rw [List.length_map, List.take_length] at q
        -- the two turns
        refine ⟨2, rfl, by decide, by decide, ?_⟩
        refine for_range (lo := 0) (n := 2) (fun i σ' H' => (∃ x9 x10 x11 x12 x13 x14 x15 x16, σ' = [some (.ref sc), some (.ref ro), some (.ref p), some (.ref t), some (.ref vl), some (.ref ul), some (.int st), some (.ref kd), some (.ref dl), x9, x10, x11, x12, x13, x14, x15, x16]) ∧
            ∃ F S, O14 K T Pt sc ns ro p vl ul dl H' F S Ds xs us ds kd kx ∧ Q14 S N us xs ds st kx (32 + 10 * (i : Int)) ∧ (1 ≤ i → goM S = []))
          ⟨⟨_, _, _, _, _, _, _, _, rfl⟩, F, S, o, q.mono (by decide), fun z => absurd z (by decide)⟩ ?_ ?_
        · rintro i σ H5 hi ⟨⟨x9, x10, x11, x12, x13, x14, x15, x16, rfl⟩, F, S, o, q, _⟩
          obtain ⟨h, hh, dr, see, nst⟩ := q.hand
          refine ⟨_, rfl, _, rfl, p, S, F, st, h, rfl, o.sh.ly, q.W, o.row.tab, nst, hh, dr, fun H6 D6 s6 hD6 h6 => ?_⟩
          rw [see] at h6
          have o6 := o.sm s6
          refine ⟨_, rfl, D6, kd, _, _, rfl, rfl, h6, o6.dk.1, rfl, vD_same kx, _, rfl, ifF rfl ?_⟩
          -- each head
          obtain ⟨vb1, vb2, vb3⟩ := o6.bo.vls
          refine ⟨_, rfl, vl, _, rfl, .inl (SqL.of vb1), (N : Int), by rw [List.length_map, lD, g.lx], by omega, by omega, ?_⟩
          rw [show ((N : Int)).toNat = N by omega]
          refine for_range (lo := 0) (n := N) (fun k σ' H' => (∃ x9 x11 x12 x13 x14 x15 x16, σ' = [some (.ref sc), some (.ref ro), some (.ref p), some (.ref t), some (.ref vl), some (.ref ul), some (.int st), some (.ref kd), some (.ref dl), x9, some (.int (0 + (i : Nat))), x11, x12, x13, x14, x15, x16]) ∧
              ∃ F S, O14 K T Pt sc ns ro p vl ul dl H' F S Ds xs us ds kd kx ∧ Q14 S N us xs ds st kx (32 + 10 * (i : Int) + k))
            ⟨⟨_, _, _, _, _, _, _, rfl⟩, F, S, o6, q.mono (by omega)⟩ ?_ ?_
          · rintro k σ H7 hk ⟨⟨x9, x11, x12, x13, x14, x15, x16, rfl⟩, F, S, o, q⟩
            refine ⟨_, rfl, _, rfl, dl, _, rfl, .inl (SqL.of o.dl.1), rfl, flat_ints ds, _, rfl, ?_⟩
            rw [inV_int, show (0 : Int) + (k : Nat) = (k : Int) by omega]
            by_cases kd' : (k : Int) ∈ ds
            · refine ifF (by simp [kd']) ⟨⟨_, _, _, _, _, _, _, rfl⟩, F, S, o, q.mono (by omega)⟩
            · refine ifT (by simp [kd']) ?_
              obtain ⟨W8, hn8, see8, nhm⟩ := q.open (by omega) (n := (k : Int)) (by omega) (by omega) kd'
              obtain ⟨b, hb⟩ := q.I.live (k : Int) (by omega) (by omega) (by unfold alF; simp [kd'])
              have al : b.alive = true := by rw [(q.I.br _ b hb).2.2.2.1]; unfold alF; simp [kd']
              obtain ⟨dx7, fs7, hp7, no7⟩ := o.sh.ly.ins
              refine ⟨_, rfl, p, dx7, fs7, rfl, hp7, no7 _ (by decide +kernel), _, rfl, K2, p, S, F, (k : Int), rfl, o.sh.ly, q.W, by omega, fun b' hb' => ⟨fun _ H8 F8 sh8 st8 => ?_, fun z => (by rw [hb] at hb'; cases hb'; rw [al] at z; cases z)⟩, fun z => (by rw [hb] at z; cases z)⟩
              have o8 := o.step st8 sh8
              refine ⟨_, rfl, _, rfl, p, _, F8, S.hm, _, rfl, sh8.ly, W8, o8.row.tab, nhm, hn8, rfl, fun H9 D9 s9 hD9 h9 => ?_⟩
              have o9 := o8.sm s9
              obtain ⟨wb1, _, _⟩ := o9.bo.vls
              have hkl : k < Ds.length := by rw [lD, g.lx]; exact hk
              have hDk : Ds[k]? = some Ds[k] := List.getElem?_eq_getElem hkl
              generalize Ds[k] = Dk at hDk
              obtain ⟨xk, hxk, d1, _, _⟩ := LiI.paired_get o9.bo.ds hDk
              have e9 : sees2 (S.addHand (k : Int) S.now) (k : Int) S.now = xk := by
                unfold sees2
                rw [see8 "a" List.mem_cons_self, see8 "b" (by simp), vsF_at hxk]; rfl
              rw [e9] at h9
              refine ⟨_, rfl, _, rfl, vl, _, _, _, rfl, rfl, SqL.of wb1, atI_nat (by rw [List.getElem?_map, hDk]; rfl), D9, Dk, _, _, rfl, rfl, h9, d1, rfl, vD_same xk, _, rfl, ifF rfl ?_⟩
              obtain ⟨dx9, fs9, hp9, no9⟩ := o9.sh.ly.ins
              refine ⟨_, rfl, p, dx9, fs9, rfl, hp9, no9 _ (by decide +kernel), _, rfl, p, _, F8, S.hm, rfl, o9.sh.ly, nhm, fun h' hh' H10 F10 sh10 st10 => ?_, fun z => (by rw [hn8] at z; cases z)⟩
              obtain ⟨e10, q10⟩ := q.shut (by omega) W8
              rw [e10] at sh10
              exact ⟨⟨_, _, _, _, _, _, _, rfl⟩, F10, _, o9.step st10 sh10, q10.mono (by omega)⟩
          · rintro σ H7 ⟨⟨x9, x11, x12, x13, x14, x15, x16, rfl⟩, F, S, o, q⟩
            obtain ⟨dx7, fs7, hp7, no7⟩ := o.sh.ly.ins
            refine ⟨_, rfl, p, dx7, fs7, rfl, hp7, no7 _ (by decide +kernel), K2, p, S, F, 100, rfl, o.sh, q.W, q.vers hN, fun H8 gq gr α δ J G eα L8 Z8 st8 hJ nJ _ hg hG nFg => ?_⟩
            have sh8 := swept_sh q.W q.I.zero (q.I.go (by omega)) eα L8 Z8 hJ nJ
            obtain ⟨q8, idle⟩ := q.sweep hN
            exact ⟨⟨_, _, _, _, _, _, _, _, rfl⟩, _, _, o.step st8 sh8, q8.mono (by omega), fun _ => idle⟩
        · rintro σ H5 ⟨⟨x9, x10, x11, x12, x13, x14, x15, x16, rfl⟩, F, S, o, q, idle⟩
          have idle := idle (by decide)
          -- each version has its reason
          obtain ⟨dx5, fs5, hp5, no5⟩ := o.sh.ly.ins
          refine ⟨_, rfl, p, dx5, fs5, rfl, hp5, no5 _ (by decide +kernel), K2, p, S, F, rfl, o.sh.ly, q.W, q.cells hN, fun H6 cq crs s6 hcq h6 hC => ?_⟩
          have nFc : ¬ F cq := o.sh.ly.new hcq
          refine ⟨cq, rfl, ⟨_, SqL.of h6⟩, ?_⟩
          refine for_list (K := K) (a := cq) (xs := crs) (fun i σ' H' => (∃ x9 x10 x11 x12 x13 x14 x15 x16, σ' = [some (.ref sc), some (.ref ro), some (.ref p), some (.ref t), some (.ref vl), some (.ref ul), some (.int st), some (.ref kd), some (.ref dl), x9, x10, x11, x12, x13, x14, x15, x16]) ∧
              ∃ F, O14 K T Pt sc ns ro p vl ul dl H' F S Ds xs us ds kd kx ∧ H' cq = some (.lst crs) ∧ ¬ F cq ∧ Cl4s H' crs (cellsM S))
            ⟨⟨_, _, _, _, _, _, _, _, rfl⟩, F, o.sm s6, h6, nFc, hC⟩ (fun i σ' H' _ ⟨_, F, _, h, _⟩ => SqL.of h) ?_ ?_
          · rintro i x σ H7 hx ⟨⟨x9, x10, x11, x12, x13, x14, x15, x16, rfl⟩, F, o, h7, nF7, hC7⟩
            obtain ⟨c4, hc4, tc, rfl, htc⟩ := LiI.paired_get hC7 hx
            obtain ⟨b, hb, hcl, hk2⟩ := q.cell (List.mem_of_getElem? hc4)
            obtain ⟨n, k, m, v⟩ := c4
            have hb : aget S.brs n = some b := hb
            have hcl : (m, v) ∈ b.line k := hcl
            have hk2 : k ∈ K2 := hk2
            have bn := q.I.br n b hb
            refine ⟨tc, _, rfl, SqT.of htc, rfl, _, _, rfl, _, _, rfl, _, _, rfl, _, _, rfl, rfl, ?_⟩
            obtain ⟨dx7, fs7, hp7, no7⟩ := o.sh.ly.ins
            refine ⟨_, rfl, p, dx7, fs7, rfl, hp7, no7 _ (by decide +kernel), _, rfl, _, rfl, _, rfl, K2, p, S, F, n, k, m, b, v, rfl, o.sh, q.W, o.row.tab, by omega, (key_K2 hk2).2, (key_K2 hk2).1, hb, hcl, fun H8 F8 u sh8 st8 hu8 => ?_⟩
            obtain ⟨y, hy⟩ := idle_reason q.W idle hb hcl
            have hy : aget (reasonsM S k) (n, m) = some y := hy
            rw [hy] at hu8
            obtain ⟨tt, rfl, hm⟩ := (show RsnAt H8 u y from hu8)
            obtain ⟨ov, rest, htt, t2, rfl, ht2⟩ : ∃ ov rest, H8 tt = some (.tup (ov :: rest)) ∧ OwnAt H8 ov y.own := by
              cases hben : y.ben with
              | none => rw [hben] at hm; obtain ⟨o', h1, h2⟩ := hm; exact ⟨o', [], h1, h2⟩
              | some bb => rw [hben] at hm; obtain ⟨o', q', h1, h2, _⟩ := hm; exact ⟨o', [.ref q'], h1, h2⟩
            have o8 := o.step st8 sh8
            have k8 := st8.keep cq _ h7 (ntL _) nF7
            have next : ∀ (x12 x13 x14 x15 x16 : Option V), (∃ y9 y10 y11 y12 y13 y14 y15 y16, ([some (.ref sc), some (.ref ro), some (.ref p), some (.ref t), some (.ref vl), some (.ref ul), some (.int st), some (.ref kd), some (.ref dl), x9, x10, x11, x12, x13, x14, x15, x16] : L2.St) = [some (.ref sc), some (.ref ro), some (.ref p), some (.ref t), some (.ref vl), some (.ref ul), some (.int st), some (.ref kd), some (.ref dl), y9, y10, y11, y12, y13, y14, y15, y16]) ∧
              ∃ F, O14 K T Pt sc ns ro p vl ul dl H8 F S Ds xs us ds kd kx ∧ H8 cq = some (.lst crs) ∧ ¬ F cq ∧ Cl4s H8 crs (cellsM S) := fun _ _ _ _ _ => ⟨⟨_, _, _, _, _, _, _, _, rfl⟩, F8, o8, k8.1, k8.2, hC7.tups st8.tups⟩
            refine ⟨_, rfl, rfl, _, rfl, ifF rfl ?_⟩
            have at0 : atI (V.ref t2 :: rest) 0 = some (V.ref t2) := atI_nat (j := 0) rfl
            refine ⟨_, rfl, tt, _, _, _, rfl, rfl, SqT.of htt, at0, t2, _, _, _, rfl, rfl, SqT.of ht2, rfl, rfl, _, rfl, ?_⟩
            by_cases hd : y.own.1 = "head"
            · refine ifT (decide_eq_true (by rw [hd])) ?_
              refine ⟨_, rfl, tt, _, _, _, rfl, rfl, SqT.of htt, at0, t2, _, _, _, rfl, rfl, SqT.of ht2, rfl, _, rfl, dl, _, rfl, .inl (SqL.of o8.dl.1), rfl, flat_ints ds, _, rfl, ?_⟩
              rw [inV_int]
              exact ifF (by simp [q.owner hy hd]) (next _ _ _ _ _)
            · refine ifF (decide_eq_false (fun z => hd (V.str.inj z))) ?_
              exact ifF rfl (next _ _ _ _ _)
          · rintro σ H7 ⟨⟨x9, x10, x11, x12, x13, x14, x15, x16, rfl⟩, F, o, _, _, _⟩
            obtain ⟨dx7, fs7, hp7, no7⟩ := o.sh.ly.ins
            refine ⟨_, rfl, p, dx7, fs7, rfl, hp7, no7 _ (by decide +kernel), K2, p, S, F, 100, rfl, o.sh, q.W, q.vers hN, fun H8 gq gr α δ J G eα L8 Z8 st8 hJ nJ _ hg hG nFg => ?_⟩
            have sh8 := swept_sh q.W q.I.zero (q.I.go (by omega)) eα L8 Z8 hJ nJ
            obtain ⟨q8, idle8⟩ := q.sweep hN
            rw [idle] at hG
            have hgr : gr = [] := by cases hG; rfl
            rw [hgr] at hg
            have o8 := o.step st8 sh8
            generalize S.sweepTo 100 = S8 at *
            refine ⟨by show 0 ≤ sizeLine; exact Nat.zero_le _, fun z hz => ?_⟩
            have s9 := Sm.new (o := .lst []) hz
            have z9 : upd H8 z (.lst []) z = some (.lst []) := upd_same
            generalize upd H8 z (.lst []) = H9 at s9 z9
            refine ne_nil (SqL.of (s9.lst hg)) (SqL.of z9) (fun x hx => by cases hx) ⟨_, rfl, ifF (by rfl) ?_⟩
            have o9 := o8.sm s9
            obtain ⟨h, hh, dr, see, nst⟩ := q8.hand
            refine ⟨_, rfl, _, rfl, p, S8, _, st, h, rfl, o9.sh.ly, q8.W, o9.row.tab, nst, hh, dr, fun H10 D10 s10 hD10 h10 => ?_⟩
            rw [see] at h10
            have o10 := o9.sm s10
            refine ⟨_, rfl, D10, kd, _, _, rfl, rfl, h10, o10.dk.1, rfl, vD_same kx, _, rfl, ifF rfl ?_⟩
            obtain ⟨dx10, fs10, hp10, no10⟩ := o10.sh.ly.ins
            refine ⟨_, rfl, p, dx10, fs10, rfl, hp10, no10 _ (by decide +kernel), _, rfl, p, S8, _, st, rfl, o10.sh.ly, nst, fun h' hh' H11 F11 sh11 st11 => ?_, fun z => (by rw [hh] at z; cases z)⟩
            have o11 := o10.step st11 sh11
            have W11 := q8.W.delHand st
            have hns11 : (S8.delHand st).hns = [] := by
              obtain ⟨b, m, e, _⟩ := q8.hn
              show adel S8.hns st = []
              rw [e]; unfold adel; simp
            have I11 : I14 (S8.delHand st) N (unF us) (alF ds) (vsF xs) := q8.I.brs rfl rfl W11
            have vers11 : (versM (S8.delHand st).brs).length ≤ 1000000 := q8.vers hN
            generalize S8.delHand st = S11 at *
            obtain ⟨dx11, fs11, hp11, no11⟩ := o11.sh.ly.ins
            refine ⟨_, rfl, p, dx11, fs11, rfl, hp11, no11 _ (by decide +kernel), K2, p, S11, F11, 100, rfl, o11.sh, W11, vers11, fun H12 gq2 gr2 α2 δ2 J2 G2 eα2 L12 Z12 st12 hJ2 nJ2 _ hg2 hG2 nFg2 => ?_⟩
            have sh12 := swept_sh W11 I11.zero (I11.go (by omega)) eα2 L12 Z12 hJ2 nJ2
            have o12 := o11.step st12 sh12
            obtain ⟨ub1, _, _⟩ := o12.bo.uls
            have rg' : ∀ n ∈ ds, 1 ≤ n ∧ n < (N : Int) := fun n hn => ⟨(rg n hn).1, by have := (rg n hn).2; omega⟩
            have uo : ∀ i, 0 < i → i < (us.length : Int) → 0 ≤ unF us i ∧ unF us i < i := fun i h0 h1 => by
              rw [g.lu] at h1
              obtain ⟨b, hb⟩ := g.I.live i (by omega) h1 rfl
              have hbn := (g.I.br i b hb).2.2.1 (by omega)
              obtain ⟨lt, c, hc⟩ := g.I.W.ben i b _ hb hbn
              exact ⟨(g.I.br _ c hc).1, lt⟩
            have last := fun {L : List Int} pw hL => Q14.last I11 hN hns11 pwd rg' (L := L) pw hL
            obtain ⟨I12, _, _, _, _, _⟩ := I11.sweep (by omega)
            have W12 := I12.W
            generalize S11.sweepTo 100 = S12 at *
            obtain ⟨dx12, fs12, hp12, no12⟩ := sh12.ly.ins
            refine ⟨_, rfl, p, dx12, fs12, rfl, hp12, no12 _ (by decide +kernel), K2, p, S12, _, rfl, sh12.ly, W12, fun H13 tt a b c s13 htt ha hb hc _ _ _ => ?_⟩
            have o13 := o12.sm s13
            refine ⟨_, rfl, _, rfl, ul, dl, us, ds, rfl, o13.bo.uls.1, o13.dl.1, by rw [g.lu]; omega, by omega, uo, fun H14 t' a' b' c' L s14 ht' ha' hb' hc' pwL hL => ?_⟩
            rw [g.lu] at hL
            obtain ⟨l1, l2, l3, l4, _⟩ := last pwL hL
            rw [l1] at ha
            rw [l2] at hb
            rw [l3] at hc
            have hll : ∀ l : List Int, Paired (Eqd H14 0) (l.map V.int) (l.map V.int) := fun l => by
              induction l with
              | nil => exact .nil
              | cons x l ih => exact .cons (.inr (.inl ⟨x, rfl, rfl⟩)) ih
            have lL : L.length ≤ 1000000 := by
              rw [← l1, List.length_map]; exact Nat.le_trans W12.cap.b (by decide)
            have lf : (ds.filter fun n => decide (n ∈ L)).length ≤ 1000000 := Nat.le_trans (List.length_filter_le _ _) (by omega)
            have e1 : ∀ (x y : Addr) (l : List Int), l.length ≤ 1000000 → H14 x = some (.lst (l.map V.int)) → H14 y = some (.lst (l.map V.int)) → Eqd H14 1 (.ref x) (.ref y) := fun x y l hl h1 h2 => .inr ⟨x, y, _, _, rfl, rfl, .inl ⟨h1, h2⟩, hll l, by rw [List.length_map]; exact hl⟩
            refine ⟨.ref tt, .ref t', rfl, .inr ⟨tt, t', _, _, rfl, rfl, .inr ⟨s14.tups _ _ htt, ht'⟩, .cons (e1 a a' L lL (s14.lst ha) ha') (.cons (e1 b b' _ lf (s14.lst hb) hb') (.cons (e1 c c' [] (by decide) (s14.lst hc) hc') .nil)), by show 3 ≤ 1000000; decide⟩, fun H15 s15 => ⟨_, rfl, ifT rfl ?_⟩⟩
            have s1215 := (s13.trans s14).trans s15
            have ly15 := sh12.ly.sm s1215
            obtain ⟨dx15, fs15, hp15, no15⟩ := ly15.ins
            refine ⟨_, rfl, p, dx15, fs15, rfl, hp15, no15 _ (by decide +kernel), K2, p, S12, _, rfl, ly15, W12, fun H16 mq mrs s16 hmq h16 hM => ?_⟩
            rw [l4] at hM
            have hmrs : mrs = [] := by cases hM; rfl
            rw [hmrs] at h16
            refine ⟨by show 0 ≤ sizeLine; exact Nat.zero_le _, fun z2 hz2 => ?_⟩
            have s17 := Sm.new (o := .lst []) hz2
            refine eq_nil (SqL.of (s17.lst h16)) (SqL.of upd_same) (fun x hx => by cases hx) ?_
            exact kq _
end
end Vs
/-! ## What the top has left -/
namespace Vs
open PySem L2 PyProof.Rows
def FnA (K : PySem.W.Frag) (x : Str) (st : Stmt) : Prop := ∃ (f : Addr) (fd : FuncData), PySem.W.nsIn K mainGlobals x = some (some (.ref f)) ∧ Fun K x x st f fd
def MtA (K : PySem.W.Frag) (C : Addr) (m q : Str) (st : Stmt) : Prop := ∃ (f : Addr) (fd : FuncData), Meth K C m f ∧ Fun K m q st f fd
def KxA (K : PySem.W.Frag) (x : Str) (C : Addr) (q : Str) (st : Stmt) : Prop := ∃ (f : Addr) (fd : FuncData), PySem.W.nsIn K mainGlobals x = some (some (.ref C)) ∧ Mk K C f ∧ Fun K "__init__" q st f fd
section
variable {K : PySem.W.Frag} {f C : Addr} {oc kV doc pm cdv ct : Value} {od an : Option Addr} {osl : Array (Option Value)} {st : Stmt} {x m q : Str}
theorem FnA.by (a : PySem.W.nsIn K mainGlobals x = some (some (.ref f))) (l : K.lookup f = some ⟨oc, od, .func (PySem.W.fnOf x x (defArgs st) (defBody st) (defScope st) .none kV doc pm an cdv ct), osl⟩) (c : PySem.W.codeIn K cdv x = true) (k : PySem.W.keepIn K (.ref f) = true) : FnA K x st := ⟨f, _, a, fun_mk l c k⟩
theorem MtA.by (a : PySem.W.findIn K (.ref C) m = some (some (.ref f))) (i : PySem.W.isFn K (.ref f) = true) (l : K.lookup f = some ⟨oc, od, .func (PySem.W.fnOf m q (defArgs st) (defBody st) (defScope st) .none kV doc pm an cdv ct), osl⟩) (c : PySem.W.codeIn K cdv q = true) (k : PySem.W.keepIn K (.ref f) = true) : MtA K C m q st :=
  ⟨f, _, ⟨a, i, k⟩, fun_mk l c k⟩
theorem KxA.by (n : PySem.W.nsIn K mainGlobals x = some (some (.ref C))) (mk : PySem.W.makesIn K C = true) (kc : PySem.W.keepIn K (.ref C) = true) (a : PySem.W.findIn K (.ref C) "__init__" = some (some (.ref f))) (i : PySem.W.isFn K (.ref f) = true)
    (l : K.lookup f = some ⟨oc, od, .func (PySem.W.fnOf "__init__" q (defArgs st) (defBody st) (defScope st) .none kV doc pm an cdv ct), osl⟩) (c : PySem.W.codeIn K cdv q = true) (k : PySem.W.keepIn K (.ref f) = true) : KxA K x C q st :=
  ⟨f, _, n, ⟨mk, a, i, kc⟩, fun_mk l c k⟩
theorem FunC.binds {fd : FuncData} {c : Addr} {ps : List Str} (F : FunC K x q st f fd c)
    (h : ∀ (kV doc pm : Value) (an : Option Addr) (cdv ct : Value) (us : List Value), us.length = ps.length → bindArgs (PySem.W.fnOf x q (defArgs st) (defBody st) (defScope st) .none kV doc pm an cdv ct) ⟨us, []⟩ = pure (ps.zip us)) : Binds K fd ps [] := by
  obtain ⟨oc, od, kV, doc, pm, an, ct, osl, rfl, lk, cd⟩ := F.ex
  exact .all (h kV doc pm an (.ref c) ct)
end
section
variable {K : PySem.W.Frag} {f c P C : Addr} {oc kV doc pm ct e : Value} {od an dd : Option Addr} {osl sl : Array (Option Value)} {st : Stmt} {x q : Str} {vs : Array Value}
theorem FunC.by (l : K.lookup f = some ⟨oc, od, .func (PySem.W.fnOf x q (defArgs st) (defBody st) (defScope st) .none kV doc pm an (.ref c) ct), osl⟩) (h : PySem.W.codeIn K (.ref c) q = true) : ∃ fd, FunC K x q st f fd c := ⟨_, ⟨oc, od, kV, doc, pm, an, ct, osl, rfl, l, h⟩⟩
theorem tab_by (g : PySem.W.nsIn K mainGlobals x = some (some (.ref f))) (l1 : K.lookup f = some ⟨oc, od, .func (PySem.W.fnOf x q (defArgs st) (defBody st) (defScope st) .none kV doc pm an (.ref c) ct), osl⟩) (l2 : K.lookup c = some ⟨e, dd, .fields vs, sl⟩) (hv : vs[11]? = some (.ref P)) : PySem.W.tabIn K x = some (c, P) := by
  unfold PySem.W.tabIn
  rw [g]
  dsimp only
  rw [l1]
  dsimp only [PySem.W.fnOf]
  rw [l2]
  dsimp only
  rw [hv]
theorem Xx.by {X : Addr} {ts : List Value} {n : String} {b : Option Bool} {v : Option Value} (h1 : PySem.W.nsIn K mainGlobals x = some (some (.ref X))) (h2 : PySem.W.excIn K X ts n = true) (h3 : PySem.W.keepIn K (.ref X) = true) (h4 : PySem.W.subIn K (.ref X) (.type "BaseException") = b) (h5 : PySem.W.typeIn K (.ref X) = v) :
    ∃ X : Addr, PySem.W.nsIn K mainGlobals x = some (some (.ref X)) ∧ PySem.W.excIn K X ts n = true ∧ PySem.W.keepIn K (.ref X) = true ∧ PySem.W.subIn K (.ref X) (.type "BaseException") = b ∧ PySem.W.typeIn K (.ref X) = v := ⟨X, h1, h2, h3, h4, h5⟩
theorem Clx.by {X fc : Addr} {a i k : Str} {v : Option Value} {R : Addr → Prop} (h1 : PySem.W.nsIn K mainGlobals a = some (some (.ref X))) (h2 : OexC K X) (h3 : PySem.W.findIn K (.ref X) i = some (some (.ref fc))) (h4 : PySem.W.typeIn K (.ref fc) = v) (h5 : PySem.W.findIn K (.ref X) k = some none) (h6 : R fc) :
    ∃ X fc : Addr, PySem.W.nsIn K mainGlobals a = some (some (.ref X)) ∧ OexC K X ∧ PySem.W.findIn K (.ref X) i = some (some (.ref fc)) ∧ PySem.W.typeIn K (.ref fc) = v ∧ PySem.W.findIn K (.ref X) k = some none ∧ R fc := ⟨X, fc, h1, h2, h3, h4, h5, h6⟩
theorem Ikx.by {fk ck Pt : Addr} (h1 : PySem.W.nsIn K mainGlobals x = some (some (.ref fk))) (h2 : ∃ fd, FunC K x q st fk fd ck) (h3 : PySem.W.keepIn K (.ref fk) = true) (h4 : PySem.W.tabIn K x = some (ck, Pt)) (h5 : K.lookup Pt = none) :
    ∃ fk ck Pt : Addr, PySem.W.nsIn K mainGlobals x = some (some (.ref fk)) ∧ (∃ fd, FunC K x q st fk fd ck) ∧ PySem.W.keepIn K (.ref fk) = true ∧ PySem.W.tabIn K x = some (ck, Pt) ∧ K.lookup Pt = none := ⟨fk, ck, Pt, h1, h2, h3, h4, h5⟩
theorem Ex1.by {β : Type} {P : β → Prop} {t : β} (h : P t) : ∃ t, P t := ⟨t, h⟩
theorem Oex.by {nm qq : Str} {N : Addr} {bs bm : List Value} {sn : List Str} {sub : List Value} {ab : Bool} {col : Option Bool} {k0 k1 k2 k3 k5 : Option Value} (l : K.lookup C = some (excClassObj nm qq C N bs bm true sn sub ab col dd k0 k1 k2 k3 k5 "ValueError.__new__")) (r : PySem.HandSPX.refsVE bm = true) (s : PySem.W.findIn K (.ref C) "__setattr__" = some (some (.builtin "object.__setattr__")))
    (x : PySem.W.subIn K (.ref C) (.type "BaseException") = some true) (t : PySem.W.typeIn K (.ref C) = some (.type "type")) (k : PySem.W.keepIn K (.ref C) = true) : OexC K C := ⟨⟨nm, qq, N, bs, bm, sn, sub, ab, col, dd, k0, k1, k2, k3, k5, l, r⟩, s, x, t, k⟩
end
/-- all that is read off the written part -/
structure Nm (K : PySem.W.Frag) (T : Cs) (U : Es) (ck Pt fk fc : Addr) : Prop where
  f_newest : FnA K "newest" s_newest
  f_seen_value : FnA K "seen_value" s_seen_value
  f_seen_by_hand : FnA K "seen_by_hand" s_seen_by_hand
  f_take_version : FnA K "take_version" s_take_version
  f_first_moments : FnA K "first_moments" s_first_moments
  f_take_marks : FnA K "take_marks" s_take_marks
  f_take_branches : FnA K "take_branches" s_take_branches
  f_views_of_somebody : FnA K "views_of_somebody" s_views_of_somebody
  f_reached : FnA K "reached" s_reached
  f_reached_beneath : FnA K "reached_beneath" s_reached_beneath
  f_first_owners : FnA K "first_owners" s_first_owners
  f_reason_to_stay : FnA K "reason_to_stay" s_reason_to_stay
  f_reasons_to_stay : FnA K "reasons_to_stay" s_reasons_to_stay
  f_judge : FnA K "judge" s_judge
  f_births_with_next : FnA K "births_with_next" s_births_with_next
  f_can_go : FnA K "can_go" s_can_go
  f_is_value : FnA K "is_value" s_is_value
  f_check_key : FnA K "check_key" s_check_key
  f__law_taken : FnA K "_law_taken" s__law_taken
  f__law_whole : FnA K "_law_whole" s__law_whole
  f__law_same : FnA K "_law_same" s__law_same
  f__law_made : FnA K "_law_made" s__law_made
  f__law_seen_by : FnA K "_law_seen_by" s__law_seen_by
  f__law_branches : FnA K "_law_branches" s__law_branches
  f__law_left : FnA K "_law_left" s__law_left
  f_law : FnA K "law" s_law
  m_begin : MtA K T.S "begin" "Shelf.begin" s_Shelf_begin
  m_fork : MtA K T.S "fork" "Shelf.fork" s_Shelf_fork
  m_drop : MtA K T.S "drop" "Shelf.drop" s_Shelf_drop
  m_reason : MtA K T.S "reason" "Shelf.reason" s_Shelf_reason
  m_close : MtA K T.S "close" "Shelf.close" s_Shelf_close
  m_look : MtA K T.S "look" "Shelf.look" s_Shelf_look
  m_write : MtA K T.S "write" "Shelf.write" s_Shelf_write
  m_erase : MtA K T.S "erase" "Shelf.erase" s_Shelf_erase
  m_commit : MtA K T.S "commit" "Shelf.commit" s_Shelf_commit
  m_sweep : MtA K T.S "sweep" "Shelf.sweep" s_Shelf_sweep
  m_cells : MtA K T.S "cells" "Shelf.cells" s_Shelf_cells
  m_marked : MtA K T.S "marked" "Shelf.marked" s_Shelf_marked
  m_standing : MtA K T.S "standing" "Shelf.standing" s_Shelf_standing
  m_branch_there : MtA K T.S "branch_there" "Shelf.branch_there" s_Shelf_branch_there
  m_hand_there : MtA K T.S "hand_there" "Shelf.hand_there" s_Shelf_hand_there
  m_add_hand : MtA K T.S "add_hand" "Shelf.add_hand" s_Shelf_add_hand
  m_let_go : MtA K T.S "let_go" "Shelf.let_go" s_Shelf_let_go
  m_settle : MtA K T.S "settle" "Shelf.settle" s_Shelf_settle
  m_judgement : MtA K T.S "judgement" "Shelf.judgement" s_Shelf_judgement
  k_Shelf : KxA K "Shelf" T.S "Shelf.__init__" s_Shelf___init__
  k_Branch : KxA K "Branch" T.B "Branch.__init__" s_Branch___init__
  k_Hand : KxA K "Hand" T.N "Hand.__init__" s_Hand___init__
  k_Judgement : KxA K "Judgement" T.J "Judgement.__init__" s_Judgement___init__
  cf : Cf K T
  x_badKey : PySem.W.nsIn K mainGlobals "BadKey" = some (some (.ref U.badKey)) ∧ PySem.W.excIn K U.badKey [.type "ValueError", .type "Exception", .type "BaseException", .type "object"] "ValueError.__new__" = true ∧ PySem.W.keepIn K (.ref U.badKey) = true ∧ PySem.W.subIn K (.ref U.badKey) (.type "BaseException") = some true ∧ PySem.W.typeIn K (.ref U.badKey) = some (.type "type")
  x_noHand : PySem.W.nsIn K mainGlobals "NoHand" = some (some (.ref U.noHand)) ∧ PySem.W.excIn K U.noHand [.type "ValueError", .type "Exception", .type "BaseException", .type "object"] "ValueError.__new__" = true ∧ PySem.W.keepIn K (.ref U.noHand) = true ∧ PySem.W.subIn K (.ref U.noHand) (.type "BaseException") = some true ∧ PySem.W.typeIn K (.ref U.noHand) = some (.type "type")
  x_noBranch : PySem.W.nsIn K mainGlobals "NoBranch" = some (some (.ref U.noBranch)) ∧ PySem.W.excIn K U.noBranch [.type "ValueError", .type "Exception", .type "BaseException", .type "object"] "ValueError.__new__" = true ∧ PySem.W.keepIn K (.ref U.noBranch) = true ∧ PySem.W.subIn K (.ref U.noBranch) (.type "BaseException") = some true ∧ PySem.W.typeIn K (.ref U.noBranch) = some (.type "type")
  x_dropped : PySem.W.nsIn K mainGlobals "Dropped" = some (some (.ref U.dropped)) ∧ PySem.W.excIn K U.dropped [.type "ValueError", .type "Exception", .type "BaseException", .type "object"] "ValueError.__new__" = true ∧ PySem.W.keepIn K (.ref U.dropped) = true ∧ PySem.W.subIn K (.ref U.dropped) (.type "BaseException") = some true ∧ PySem.W.typeIn K (.ref U.dropped) = some (.type "type")
  x_noCell : PySem.W.nsIn K mainGlobals "NoCell" = some (some (.ref U.noCell)) ∧ PySem.W.excIn K U.noCell [.type "ValueError", .type "Exception", .type "BaseException", .type "object"] "ValueError.__new__" = true ∧ PySem.W.keepIn K (.ref U.noCell) = true ∧ PySem.W.subIn K (.ref U.noCell) (.type "BaseException") = some true ∧ PySem.W.typeIn K (.ref U.noCell) = some (.type "type")
  c_g : PySem.W.nsIn K mainGlobals "Clash" = some (some (.ref U.clash))
  c_T : OexC K U.clash
  c_i : PySem.W.findIn K (.ref U.clash) "__init__" = some (some (.ref fc))
  c_t : PySem.W.typeIn K (.ref fc) = some (.type "function")
  c_n : PySem.W.findIn K (.ref U.clash) "key" = some none
  c_f : ∃ fd, Fun K "__init__" "Clash.__init__" s_Clash___init__ fc fd
  i_g : PySem.W.nsIn K mainGlobals "is_key" = some (some (.ref fk))
  i_f : ∃ fd, FunC K "is_key" "is_key" s_is_key fk fd ck
  i_k : PySem.W.keepIn K (.ref fk) = true
  i_t : PySem.W.tabIn K "is_key" = some (ck, Pt)
  i_n : K.lookup Pt = none
  w_l : ∃ t, PySem.W.nsIn K mainGlobals "LETTERS" = some (some (.str letters t))
  w_m : ∃ t, PySem.W.nsIn K mainGlobals "LONGEST_KEY" = some (some (.int 8 t))
  w_g : ∃ t, PySem.W.nsIn K mainGlobals "GREATEST_VALUE" = some (some (.int 999999 t))
  z_len : PySem.W.nsIn K mainGlobals "len" = some none
  z_sorted : PySem.W.nsIn K mainGlobals "sorted" = some none
  z_list : PySem.W.nsIn K mainGlobals "list" = some none
  z_zip : PySem.W.nsIn K mainGlobals "zip" = some none
  z_set : PySem.W.nsIn K mainGlobals "set" = some none
  z_min : PySem.W.nsIn K mainGlobals "min" = some none
  z_all : PySem.W.nsIn K mainGlobals "all" = some none
  z_range : PySem.W.nsIn K mainGlobals "range" = some none
  z_isinstance : PySem.W.nsIn K mainGlobals "isinstance" = some none
  z_int : PySem.W.nsIn K mainGlobals "int" = some none
  z_tuple : PySem.W.nsIn K mainGlobals "tuple" = some none
  z_str : PySem.W.nsIn K mainGlobals "str" = some none
  z_bool : PySem.W.nsIn K mainGlobals "bool" = some none
  z_dict : PySem.W.nsIn K mainGlobals "dict" = some none
section
variable {l : PySem.W.OpenLaw} {w : World} {K : PySem.W.Frag} {h : Heap} {mg : Str → Option Value} {fa ck Pt fk fc : Addr} {T : Cs} {U : Es}
theorem law14 (X : K.In h) (G : h.Ns mainGlobals mg) (hfa : mg "law" = some (.ref fa)) (N : Nm K T U ck Pt fk fc) (hc : PySem.W.CodeHd h ck Pt) (hP : h.get? Pt = some (PySem.W.tabObj #[])) : LamX.LawAtS l w K CX0 8 63 "_law_script" mg fa h := by
  have at_ : ∀ {x : Str} {v : Value}, PySem.W.nsIn K mainGlobals x = some (some v) → mg x = some v := fun e => PySem.W.mg_of X G e
  have no_ : ∀ {x : Str}, PySem.W.nsIn K mainGlobals x = some none → mg x = none := fun e => PySem.W.mg_none_of X G e
  have B : Bt mg := ⟨no_ N.z_len, no_ N.z_sorted, no_ N.z_list, no_ N.z_zip, no_ N.z_set, no_ N.z_min, no_ N.z_all, no_ N.z_range, no_ N.z_isinstance, no_ N.z_int⟩
  have B2 : Bt2 mg := ⟨no_ N.z_tuple, no_ N.z_str, no_ N.z_bool⟩
  have C := N.cf
  have xc : ∀ {x : Str} {A : Addr}, (PySem.W.nsIn K mainGlobals x = some (some (.ref A)) ∧ PySem.W.excIn K A [.type "ValueError", .type "Exception", .type "BaseException", .type "object"] "ValueError.__new__" = true ∧ PySem.W.keepIn K (.ref A) = true ∧ PySem.W.subIn K (.ref A) (.type "BaseException") = some true ∧ PySem.W.typeIn K (.ref A) = some (.type "type")) → Xc K mg x A := fun e => ⟨at_ e.1, e.2.1, e.2.2.1, e.2.2.2.1, e.2.2.2.2⟩
  have E : Ex K mg U := ⟨xc N.x_badKey, xc N.x_noHand, xc N.x_noBranch, xc N.x_dropped⟩
  have D : Wd mg := by
    obtain ⟨t1, e1⟩ := N.w_l
    obtain ⟨t2, e2⟩ := N.w_m
    obtain ⟨t3, e3⟩ := N.w_g
    exact ⟨⟨t1, at_ e1⟩, ⟨t2, at_ e2⟩, ⟨t3, at_ e3⟩⟩
  obtain ⟨f_newest, fd_newest, a_newest, F_newest⟩ := N.f_newest
  have b_newest := F_newest.binds (ps := ["line", "moment"]) fun _ _ _ _ _ _ us hl => match us, hl with | [_, _], _ => rfl
  obtain ⟨f_seen_value, fd_seen_value, a_seen_value, F_seen_value⟩ := N.f_seen_value
  have b_seen_value := F_seen_value.binds (ps := ["branches", "number", "moment", "key"]) fun _ _ _ _ _ _ us hl => match us, hl with | [_, _, _, _], _ => rfl
  obtain ⟨f_seen_by_hand, fd_seen_by_hand, a_seen_by_hand, F_seen_by_hand⟩ := N.f_seen_by_hand
  have b_seen_by_hand := F_seen_by_hand.binds (ps := ["branches", "hand", "key"]) fun _ _ _ _ _ _ us hl => match us, hl with | [_, _, _], _ => rfl
  obtain ⟨f_take_version, fd_take_version, a_take_version, F_take_version⟩ := N.f_take_version
  have b_take_version := F_take_version.binds (ps := ["branches", "number", "key", "born"]) fun _ _ _ _ _ _ us hl => match us, hl with | [_, _, _, _], _ => rfl
  obtain ⟨f_first_moments, fd_first_moments, a_first_moments, F_first_moments⟩ := N.f_first_moments
  have b_first_moments := F_first_moments.binds (ps := ["hands"]) fun _ _ _ _ _ _ us hl => match us, hl with | [_], _ => rfl
  obtain ⟨f_take_marks, fd_take_marks, a_take_marks, F_take_marks⟩ := N.f_take_marks
  have b_take_marks := F_take_marks.binds (ps := ["branches", "hands", "now"]) fun _ _ _ _ _ _ us hl => match us, hl with | [_, _, _], _ => rfl
  obtain ⟨f_take_branches, fd_take_branches, a_take_branches, F_take_branches⟩ := N.f_take_branches
  have b_take_branches := F_take_branches.binds (ps := ["branches", "hands"]) fun _ _ _ _ _ _ us hl => match us, hl with | [_, _], _ => rfl
  obtain ⟨f_views_of_somebody, fd_views_of_somebody, a_views_of_somebody, F_views_of_somebody⟩ := N.f_views_of_somebody
  have b_views_of_somebody := F_views_of_somebody.binds (ps := ["branches", "hands", "now"]) fun _ _ _ _ _ _ us hl => match us, hl with | [_, _, _], _ => rfl
  obtain ⟨f_reached, fd_reached, a_reached, F_reached⟩ := N.f_reached
  have b_reached := F_reached.binds (ps := ["lines", "below", "number", "moment"]) fun _ _ _ _ _ _ us hl => match us, hl with | [_, _, _, _], _ => rfl
  obtain ⟨f_reached_beneath, fd_reached_beneath, a_reached_beneath, F_reached_beneath⟩ := N.f_reached_beneath
  have b_reached_beneath := F_reached_beneath.binds (ps := ["branches", "lines", "below", "number"]) fun _ _ _ _ _ _ us hl => match us, hl with | [_, _, _, _], _ => rfl
  obtain ⟨f_first_owners, fd_first_owners, a_first_owners, F_first_owners⟩ := N.f_first_owners
  have b_first_owners := F_first_owners.binds (ps := ["branches", "hands", "now", "key"]) fun _ _ _ _ _ _ us hl => match us, hl with | [_, _, _, _], _ => rfl
  obtain ⟨f_reason_to_stay, fd_reason_to_stay, a_reason_to_stay, F_reason_to_stay⟩ := N.f_reason_to_stay
  have b_reason_to_stay := F_reason_to_stay.binds (ps := ["key", "value", "owner", "beneath"]) fun _ _ _ _ _ _ us hl => match us, hl with | [_, _, _, _], _ => rfl
  obtain ⟨f_reasons_to_stay, fd_reasons_to_stay, a_reasons_to_stay, F_reasons_to_stay⟩ := N.f_reasons_to_stay
  have b_reasons_to_stay := F_reasons_to_stay.binds (ps := ["branches", "owners", "key"]) fun _ _ _ _ _ _ us hl => match us, hl with | [_, _, _], _ => rfl
  obtain ⟨f_judge, fd_judge, a_judge, F_judge⟩ := N.f_judge
  have b_judge := F_judge.binds (ps := ["branches", "hands", "now", "key"]) fun _ _ _ _ _ _ us hl => match us, hl with | [_, _, _, _], _ => rfl
  obtain ⟨f_births_with_next, fd_births_with_next, a_births_with_next, F_births_with_next⟩ := N.f_births_with_next
  have b_births_with_next := F_births_with_next.binds (ps := ["line"]) fun _ _ _ _ _ _ us hl => match us, hl with | [_], _ => rfl
  obtain ⟨f_can_go, fd_can_go, a_can_go, F_can_go⟩ := N.f_can_go
  have b_can_go := F_can_go.binds (ps := ["branches", "judged"]) fun _ _ _ _ _ _ us hl => match us, hl with | [_, _], _ => rfl
  obtain ⟨f_is_value, fd_is_value, a_is_value, F_is_value⟩ := N.f_is_value
  have b_is_value := F_is_value.binds (ps := ["number"]) fun _ _ _ _ _ _ us hl => match us, hl with | [_], _ => rfl
  obtain ⟨f_check_key, fd_check_key, a_check_key, F_check_key⟩ := N.f_check_key
  have b_check_key := F_check_key.binds (ps := ["key"]) fun _ _ _ _ _ _ us hl => match us, hl with | [_], _ => rfl
  obtain ⟨f__law_taken, fd__law_taken, a__law_taken, F__law_taken⟩ := N.f__law_taken
  have b__law_taken := F__law_taken.binds (ps := ["_law_row", "_law_many"]) fun _ _ _ _ _ _ us hl => match us, hl with | [_, _], _ => rfl
  obtain ⟨f__law_whole, fd__law_whole, a__law_whole, F__law_whole⟩ := N.f__law_whole
  have b__law_whole := F__law_whole.binds (ps := ["_law_found"]) fun _ _ _ _ _ _ us hl => match us, hl with | [_], _ => rfl
  obtain ⟨f__law_same, fd__law_same, a__law_same, F__law_same⟩ := N.f__law_same
  have b__law_same := F__law_same.binds (ps := ["_law_found", "_law_due"]) fun _ _ _ _ _ _ us hl => match us, hl with | [_, _], _ => rfl
  obtain ⟨f__law_made, fd__law_made, a__law_made, F__law_made⟩ := N.f__law_made
  have b__law_made := F__law_made.binds (ps := ["_law_row", "_law_shelf", "_law_branch", "_law_values"]) fun _ _ _ _ _ _ us hl => match us, hl with | [_, _, _, _], _ => rfl
  obtain ⟨f__law_seen_by, fd__law_seen_by, a__law_seen_by, F__law_seen_by⟩ := N.f__law_seen_by
  have b__law_seen_by := F__law_seen_by.binds (ps := ["_law_shelf", "_law_hand"]) fun _ _ _ _ _ _ us hl => match us, hl with | [_, _], _ => rfl
  obtain ⟨f__law_branches, fd__law_branches, a__law_branches, F__law_branches⟩ := N.f__law_branches
  have b__law_branches := F__law_branches.binds (ps := ["_law_row", "_law_shelf"]) fun _ _ _ _ _ _ us hl => match us, hl with | [_, _], _ => rfl
  obtain ⟨f__law_left, fd__law_left, a__law_left, F__law_left⟩ := N.f__law_left
  have b__law_left := F__law_left.binds (ps := ["_law_unders", "_law_dropped"]) fun _ _ _ _ _ _ us hl => match us, hl with | [_, _], _ => rfl
  obtain ⟨f_law, fd_law, a_law, F_law⟩ := N.f_law
  have b_law := F_law.binds (ps := ["_law_script"]) fun _ _ _ _ _ _ us hl => match us, hl with | [_], _ => rfl
  obtain ⟨f_begin, fd_begin, a_begin, F_begin⟩ := N.m_begin
  have b_begin := F_begin.binds (ps := ["self", "branch"]) fun _ _ _ _ _ _ us hl => match us, hl with | [_, _], _ => rfl
  obtain ⟨f_fork, fd_fork, a_fork, F_fork⟩ := N.m_fork
  have b_fork := F_fork.binds (ps := ["self", "hand"]) fun _ _ _ _ _ _ us hl => match us, hl with | [_, _], _ => rfl
  obtain ⟨f_drop, fd_drop, a_drop, F_drop⟩ := N.m_drop
  have b_drop := F_drop.binds (ps := ["self", "branch"]) fun _ _ _ _ _ _ us hl => match us, hl with | [_, _], _ => rfl
  obtain ⟨f_reason, fd_reason, a_reason, F_reason⟩ := N.m_reason
  have b_reason := F_reason.binds (ps := ["self", "branch", "key", "born"]) fun _ _ _ _ _ _ us hl => match us, hl with | [_, _, _, _], _ => rfl
  obtain ⟨f_close, fd_close, a_close, F_close⟩ := N.m_close
  have b_close := F_close.binds (ps := ["self", "hand"]) fun _ _ _ _ _ _ us hl => match us, hl with | [_, _], _ => rfl
  obtain ⟨f_look, fd_look, a_look, F_look⟩ := N.m_look
  have b_look := F_look.binds (ps := ["self", "hand", "key"]) fun _ _ _ _ _ _ us hl => match us, hl with | [_, _, _], _ => rfl
  obtain ⟨f_write, fd_write, a_write, F_write⟩ := N.m_write
  have b_write := F_write.binds (ps := ["self", "hand", "key", "value"]) fun _ _ _ _ _ _ us hl => match us, hl with | [_, _, _, _], _ => rfl
  obtain ⟨f_erase, fd_erase, a_erase, F_erase⟩ := N.m_erase
  have b_erase := F_erase.binds (ps := ["self", "hand", "key"]) fun _ _ _ _ _ _ us hl => match us, hl with | [_, _, _], _ => rfl
  obtain ⟨f_commit, fd_commit, a_commit, F_commit⟩ := N.m_commit
  have b_commit := F_commit.binds (ps := ["self", "hand"]) fun _ _ _ _ _ _ us hl => match us, hl with | [_, _], _ => rfl
  obtain ⟨f_sweep, fd_sweep, a_sweep, F_sweep⟩ := N.m_sweep
  have b_sweep := F_sweep.binds (ps := ["self", "most"]) fun _ _ _ _ _ _ us hl => match us, hl with | [_, _], _ => rfl
  obtain ⟨f_cells, fd_cells, a_cells, F_cells⟩ := N.m_cells
  have b_cells := F_cells.binds (ps := ["self"]) fun _ _ _ _ _ _ us hl => match us, hl with | [_], _ => rfl
  obtain ⟨f_marked, fd_marked, a_marked, F_marked⟩ := N.m_marked
  have b_marked := F_marked.binds (ps := ["self"]) fun _ _ _ _ _ _ us hl => match us, hl with | [_], _ => rfl
  obtain ⟨f_standing, fd_standing, a_standing, F_standing⟩ := N.m_standing
  have b_standing := F_standing.binds (ps := ["self"]) fun _ _ _ _ _ _ us hl => match us, hl with | [_], _ => rfl
  obtain ⟨f_branch_there, fd_branch_there, a_branch_there, F_branch_there⟩ := N.m_branch_there
  have b_branch_there := F_branch_there.binds (ps := ["self", "branch"]) fun _ _ _ _ _ _ us hl => match us, hl with | [_, _], _ => rfl
  obtain ⟨f_hand_there, fd_hand_there, a_hand_there, F_hand_there⟩ := N.m_hand_there
  have b_hand_there := F_hand_there.binds (ps := ["self", "hand"]) fun _ _ _ _ _ _ us hl => match us, hl with | [_, _], _ => rfl
  obtain ⟨f_add_hand, fd_add_hand, a_add_hand, F_add_hand⟩ := N.m_add_hand
  have b_add_hand := F_add_hand.binds (ps := ["self", "branch", "moment"]) fun _ _ _ _ _ _ us hl => match us, hl with | [_, _, _], _ => rfl
  obtain ⟨f_let_go, fd_let_go, a_let_go, F_let_go⟩ := N.m_let_go
  have b_let_go := F_let_go.binds (ps := ["self", "hand"]) fun _ _ _ _ _ _ us hl => match us, hl with | [_, _], _ => rfl
  obtain ⟨f_settle, fd_settle, a_settle, F_settle⟩ := N.m_settle
  have b_settle := F_settle.binds (ps := ["self", "held"]) fun _ _ _ _ _ _ us hl => match us, hl with | [_, _], _ => rfl
  obtain ⟨f_judgement, fd_judgement, a_judgement, F_judgement⟩ := N.m_judgement
  have b_judgement := F_judgement.binds (ps := ["self", "key"]) fun _ _ _ _ _ _ us hl => match us, hl with | [_, _], _ => rfl
  obtain ⟨f_Shelf, fd_Shelf, a_Shelf, m_Shelf, F_Shelf⟩ := N.k_Shelf
  have b_Shelf := F_Shelf.binds (ps := ["self"]) fun _ _ _ _ _ _ us hl => match us, hl with | [_], _ => rfl
  obtain ⟨f_Branch, fd_Branch, a_Branch, m_Branch, F_Branch⟩ := N.k_Branch
  have b_Branch := F_Branch.binds (ps := ["self", "beneath", "moment"]) fun _ _ _ _ _ _ us hl => match us, hl with | [_, _, _], _ => rfl
  obtain ⟨f_Hand, fd_Hand, a_Hand, m_Hand, F_Hand⟩ := N.k_Hand
  have b_Hand := F_Hand.binds (ps := ["self", "branch", "moment"]) fun _ _ _ _ _ _ us hl => match us, hl with | [_, _, _], _ => rfl
  obtain ⟨f_Judgement, fd_Judgement, a_Judgement, m_Judgement, F_Judgement⟩ := N.k_Judgement
  have b_Judgement := F_Judgement.binds (ps := ["self", "owners", "reasons"]) fun _ _ _ _ _ _ us hl => match us, hl with | [_, _, _], _ => rfl
  obtain ⟨fdc, Fc⟩ := N.c_f
  have bc := Fc.binds (ps := ["self", "key"]) fun _ _ _ _ _ _ us hl => match us, hl with | [_, _], _ => rfl
  obtain ⟨fdk, Fk⟩ := N.i_f
  have bk := Fk.binds (ps := ["text"]) fun _ _ _ _ _ _ us hl => match us, hl with | [_], _ => rfl
  have Cl1 : Cl K mg U fc := ⟨at_ N.c_g, N.c_T, N.c_i, N.c_t, N.c_n⟩
  have e := hfa.symm.trans (at_ a_law)
  cases e
  refine ⟨fd_law, [(ck, Pt)], spLaw K Pt, fun p hp => ?_, fun p hp => ?_, fun p hp => ?_, fun s u => ?_, fun H a ns _ _ hT hS => ?_, fun base hKb hNs hTB => ?_⟩
  · rw [List.mem_singleton.mp hp]; exact hP
  · rw [List.mem_singleton.mp hp]; exact N.i_n
  · rw [List.mem_singleton.mp hp]; exact hc
  · obtain ⟨oc, od, kV, doc, pm, an, cdv, ct, osl, rfl, lk, hcd⟩ := F_law.ex
    exact .of_eq rfl
  · exact ⟨a, ns, rfl, hS, ⟨#[], hT (ck, Pt) (List.mem_singleton.mpr rfl), trivial⟩, fun _ => rfl⟩
  have tb := hTB (ck, Pt) (List.mem_singleton.mpr rfl)
  have TB : GxR.TabB base mg ck Pt := ⟨tb.code, tb.bm, tb.gP⟩
  have c_newest : Fx l.prog w K mg base CX0 "newest" 1 ["line", "moment"] (spNewest K) := ⟨f_newest, fd_newest, at_ a_newest, F_newest.kp, b_newest, ok_newest F_newest B⟩
  have c_seen_value : Fx l.prog w K mg base CX0 "seen_value" 2 ["branches", "number", "moment", "key"] (spSeen T) := ⟨f_seen_value, fd_seen_value, at_ a_seen_value, F_seen_value.kp, b_seen_value, ok_seen_value F_seen_value B C ⟨F_newest, at_ a_newest, F_newest.kp, b_newest⟩⟩
  have c_seen_by_hand : Fx l.prog w K mg base CX0 "seen_by_hand" 3 ["branches", "hand", "key"] (spSeenHand T) := ⟨f_seen_by_hand, fd_seen_by_hand, at_ a_seen_by_hand, F_seen_by_hand.kp, b_seen_by_hand, ok_seen_by_hand F_seen_by_hand C c_seen_value⟩
  have c_is_value : Fx l.prog w K mg base CX0 "is_value" 1 ["number"] spIsVal := ⟨f_is_value, fd_is_value, at_ a_is_value, F_is_value.kp, b_is_value, ok_is_value F_is_value D⟩
  have c_check_key : Fx l.prog w K mg base (L2.CX l.prog w) "check_key" 4 ["key"] (spCheck U Pt) := ⟨f_check_key, fd_check_key, at_ a_check_key, F_check_key.kp, b_check_key, ok_check_key F_check_key E (at_ N.i_g) N.i_k bk (ok_is_key Fk B D TB)⟩
  have c_hand_there : Mx l.prog w K mg base (L2.CX l.prog w) T.S "hand_there" 1 ["self", "hand"] (spHandThere T U) := ⟨f_hand_there, fd_hand_there, a_hand_there, b_hand_there, ok_hand_there F_hand_there C E⟩
  have c_branch_there : Mx l.prog w K mg base (L2.CX l.prog w) T.S "branch_there" 1 ["self", "branch"] (spBranchThere T U) := ⟨f_branch_there, fd_branch_there, a_branch_there, b_branch_there, ok_branch_there F_branch_there C E⟩
  have c_look : Mx l.prog w K mg base (L2.CX l.prog w) T.S "look" 5 ["self", "hand", "key"] (spLook T U Pt) := ⟨f_look, fd_look, a_look, b_look, ok_look F_look C c_hand_there c_check_key c_seen_by_hand⟩
  have c_Hand : Kx l.prog w K mg base "Hand" T.N 1 ["self", "branch", "moment"] (spHandInit T) := ⟨f_Hand, fd_Hand, at_ a_Hand, m_Hand, b_Hand, ok_Hand_init F_Hand C⟩
  have c_add_hand : Mx l.prog w K mg base CX0 T.S "add_hand" 3 ["self", "branch", "moment"] (spAddHand T) := ⟨f_add_hand, fd_add_hand, a_add_hand, b_add_hand, ok_add_hand F_add_hand C c_Hand⟩
  have c_let_go : Mx l.prog w K mg base CX0 T.S "let_go" 1 ["self", "hand"] (spLetGo T) := ⟨f_let_go, fd_let_go, a_let_go, b_let_go, ok_let_go F_let_go C⟩
  have c_begin : Mx l.prog w K mg base (L2.CX l.prog w) T.S "begin" 4 ["self", "branch"] (spBegin T U) := ⟨f_begin, fd_begin, a_begin, b_begin, ok_begin F_begin C E c_branch_there c_add_hand⟩
  have c_close : Mx l.prog w K mg base (L2.CX l.prog w) T.S "close" 2 ["self", "hand"] (spClose T U) := ⟨f_close, fd_close, a_close, b_close, ok_close F_close C c_hand_there c_let_go⟩
  have c_write : Mx l.prog w K mg base (L2.CX l.prog w) T.S "write" 5 ["self", "hand", "key", "value"] (spWrite T U Pt) := ⟨f_write, fd_write, a_write, b_write, ok_write F_write C E c_hand_there c_check_key c_is_value⟩
  have c_erase : Mx l.prog w K mg base (L2.CX l.prog w) T.S "erase" 5 ["self", "hand", "key"] (spErase T U Pt) := ⟨f_erase, fd_erase, a_erase, b_erase, ok_erase F_erase C c_hand_there c_check_key⟩
  have c_settle : Mx l.prog w K mg base (L2.CX l.prog w) T.S "settle" 3 ["self", "held"] (spSettle T U) := ⟨f_settle, fd_settle, a_settle, b_settle, ok_settle F_settle B C E Cl1 bc (ok_clash Fc Cl1)⟩
  have c_commit : Mx l.prog w K mg base (L2.CX l.prog w) T.S "commit" 4 ["self", "hand"] (spCommit T U) := ⟨f_commit, fd_commit, a_commit, b_commit, ok_commit F_commit C c_hand_there c_settle c_let_go⟩
  have c_Branch : Kx l.prog w K mg base "Branch" T.B 1 ["self", "beneath", "moment"] (spBranchInit T) := ⟨f_Branch, fd_Branch, at_ a_Branch, m_Branch, b_Branch, ok_Branch_init F_Branch C⟩
  have c_Shelf : Kx l.prog w K mg base "Shelf" T.S 3 ["self"] (spShelfInit T) := ⟨f_Shelf, fd_Shelf, at_ a_Shelf, m_Shelf, b_Shelf, ok_Shelf_init F_Shelf C c_Branch⟩
  have c_reason_to_stay : Fx l.prog w K mg base CX0 "reason_to_stay" 1 ["key", "value", "owner", "beneath"] spReason := ⟨f_reason_to_stay, fd_reason_to_stay, at_ a_reason_to_stay, F_reason_to_stay.kp, b_reason_to_stay, ok_reason_to_stay F_reason_to_stay⟩
  have c_reached : Fx l.prog w K mg base CX0 "reached" 2 ["lines", "below", "number", "moment"] spReached := ⟨f_reached, fd_reached, at_ a_reached, F_reached.kp, b_reached, ok_reached F_reached c_newest⟩
  have c_reached_beneath : Fx l.prog w K mg base CX0 "reached_beneath" 3 ["branches", "lines", "below", "number"] (spReachedB T) := ⟨f_reached_beneath, fd_reached_beneath, at_ a_reached_beneath, F_reached_beneath.kp, b_reached_beneath, ok_reached_beneath F_reached_beneath C c_reached⟩
  have c_views_of_somebody : Fx l.prog w K mg base CX0 "views_of_somebody" 1 ["branches", "hands", "now"] (spViews T) := ⟨f_views_of_somebody, fd_views_of_somebody, at_ a_views_of_somebody, F_views_of_somebody.kp, b_views_of_somebody, ok_views F_views_of_somebody B C⟩
  have c_first_owners : Fx l.prog w K mg base CX0 "first_owners" 4 ["branches", "hands", "now", "key"] (spFirst T) := ⟨f_first_owners, fd_first_owners, at_ a_first_owners, F_first_owners.kp, b_first_owners, ok_first F_first_owners B C c_reached_beneath c_views_of_somebody c_reached⟩
  have c_reasons_to_stay : Fx l.prog w K mg base CX0 "reasons_to_stay" 4 ["branches", "owners", "key"] (spReasons T) := ⟨f_reasons_to_stay, fd_reasons_to_stay, at_ a_reasons_to_stay, F_reasons_to_stay.kp, b_reasons_to_stay, ok_reasons F_reasons_to_stay B C c_reached_beneath c_reason_to_stay⟩
  have c_Judgement : Kx l.prog w K mg base "Judgement" T.J 1 ["self", "owners", "reasons"] (spJgInit T) := ⟨f_Judgement, fd_Judgement, at_ a_Judgement, m_Judgement, b_Judgement, ok_Jg_init F_Judgement C⟩
  have c_judge : Fx l.prog w K mg base CX0 "judge" 5 ["branches", "hands", "now", "key"] (spJudge T) := ⟨f_judge, fd_judge, at_ a_judge, F_judge.kp, b_judge, ok_judge F_judge c_first_owners c_reasons_to_stay c_Judgement⟩
  have c_judgement : Mx l.prog w K mg base CX0 T.S "judgement" 6 ["self", "key"] (spJudgement T) := ⟨f_judgement, fd_judgement, a_judgement, b_judgement, ok_judgement F_judgement C c_judge⟩
  have c_births_with_next : Fx l.prog w K mg base CX0 "births_with_next" 1 ["line"] spBirths := ⟨f_births_with_next, fd_births_with_next, at_ a_births_with_next, F_births_with_next.kp, b_births_with_next, ok_births F_births_with_next B⟩
  have c_can_go : Fx l.prog w K mg base CX0 "can_go" 2 ["branches", "judged"] (spCanGo T) := ⟨f_can_go, fd_can_go, at_ a_can_go, F_can_go.kp, b_can_go, ok_can_go F_can_go B C c_births_with_next⟩
  have c_take_version : Fx l.prog w K mg base CX0 "take_version" 2 ["branches", "number", "key", "born"] (spTake T) := ⟨f_take_version, fd_take_version, at_ a_take_version, F_take_version.kp, b_take_version, ok_take_version F_take_version B C c_newest⟩
  have c_first_moments : Fx l.prog w K mg base CX0 "first_moments" 1 ["hands"] (spFirstM T) := ⟨f_first_moments, fd_first_moments, at_ a_first_moments, F_first_moments.kp, b_first_moments, ok_first_moments F_first_moments B C⟩
  have c_take_marks : Fx l.prog w K mg base CX0 "take_marks" 2 ["branches", "hands", "now"] (spMarks T) := ⟨f_take_marks, fd_take_marks, at_ a_take_marks, F_take_marks.kp, b_take_marks, ok_take_marks F_take_marks B C c_first_moments⟩
  have c_take_branches : Fx l.prog w K mg base CX0 "take_branches" 1 ["branches", "hands"] (spTakeB T) := ⟨f_take_branches, fd_take_branches, at_ a_take_branches, F_take_branches.kp, b_take_branches, ok_take_branches F_take_branches B C⟩
  have c_sweep : Mx l.prog w K mg base CX0 T.S "sweep" 7 ["self", "most"] (spSweep T) := ⟨f_sweep, fd_sweep, a_sweep, b_sweep, ok_sweep F_sweep B C c_judgement c_can_go c_take_version c_take_marks c_take_branches⟩
  have c_cells : Mx l.prog w K mg base CX0 T.S "cells" 1 ["self"] (spCells T) := ⟨f_cells, fd_cells, a_cells, b_cells, ok_cells F_cells B C⟩
  have c_marked : Mx l.prog w K mg base CX0 T.S "marked" 1 ["self"] (spMarked T) := ⟨f_marked, fd_marked, a_marked, b_marked, ok_marked F_marked B C⟩
  have c_standing : Mx l.prog w K mg base CX0 T.S "standing" 1 ["self"] (spStand T) := ⟨f_standing, fd_standing, a_standing, b_standing, ok_standing F_standing B C⟩
  have c__law_taken : Fx l.prog w K mg base CX0 "_law_taken" 1 ["_law_row", "_law_many"] (spTaken K) := ⟨f__law_taken, fd__law_taken, at_ a__law_taken, F__law_taken.kp, b__law_taken, ok_taken F__law_taken B⟩
  have c__law_whole : Fx l.prog w K mg base CX0 "_law_whole" 1 ["_law_found"] spWhole := ⟨f__law_whole, fd__law_whole, at_ a__law_whole, F__law_whole.kp, b__law_whole, ok_whole F__law_whole B B2⟩
  have c__law_same : Fx l.prog w K mg base CX0 "_law_same" 4 ["_law_found", "_law_due"] (spSame 2) := ⟨f__law_same, fd__law_same, at_ a__law_same, F__law_same.kp, b__law_same, ok_same F__law_same B B2 c__law_whole (at_ a__law_same) F__law_same.kp b__law_same 2⟩
  have c_fork : Mx l.prog w K mg base (L2.CX l.prog w) T.S "fork" 3 ["self", "hand"] (spFork T U) := ⟨f_fork, fd_fork, a_fork, b_fork, ok_fork F_fork C c_hand_there c_Branch⟩
  have c_drop : Mx l.prog w K mg base (L2.CX l.prog w) T.S "drop" 2 ["self", "branch"] (spDrop T U) := ⟨f_drop, fd_drop, a_drop, b_drop, ok_drop F_drop C E c_branch_there⟩
  have c_reason : Mx l.prog w K mg base (L2.CX l.prog w) T.S "reason" 7 ["self", "branch", "key", "born"] (spReasonOf T Pt) := ⟨f_reason, fd_reason, a_reason, b_reason, ok_reasonOf F_reason C (xc N.x_noCell) c_branch_there c_check_key c_newest c_judgement⟩
  have c__law_made : Fx l.prog w K mg base CX0 "_law_made" 6 ["_law_row", "_law_shelf", "_law_branch", "_law_values"] (spMade K T Pt) := ⟨f__law_made, fd__law_made, at_ a__law_made, F__law_made.kp, b__law_made, ok_made F__law_made B (no_ N.z_dict) C c__law_taken c_begin c_erase c_write c_commit⟩
  have c__law_seen_by : Fx l.prog w K mg base CX0 "_law_seen_by" 6 ["_law_shelf", "_law_hand"] (spSeenBy T Pt) := ⟨f__law_seen_by, fd__law_seen_by, at_ a__law_seen_by, F__law_seen_by.kp, b__law_seen_by, ok_seenBy F__law_seen_by C c_look⟩
  have c__law_branches : Fx l.prog w K mg base CX0 "_law_branches" 7 ["_law_row", "_law_shelf"] (spBranches K T Pt) := ⟨f__law_branches, fd__law_branches, at_ a__law_branches, F__law_branches.kp, b__law_branches, ok_branches F__law_branches B C c__law_taken c__law_made c_begin c_close c_fork⟩
  have c__law_left : Fx l.prog w K mg base CX0 "_law_left" 1 ["_law_unders", "_law_dropped"] (spLeft K) := ⟨f__law_left, fd__law_left, at_ a__law_left, F__law_left.kp, b__law_left, ok_left F__law_left B⟩
  exact ok_law F_law B C c__law_taken c__law_branches c__law_seen_by c__law_left c__law_same c_Shelf c_begin c_close c_drop c_reason c_standing c_sweep c_cells c_marked
end
/-- the end, with what the top says of is_key's own table -/
theorem walk14 {l : PySem.W.OpenLaw} {q : Program} {loose : List Str} {XP : (Str → Option Value) → Heap → Prop} {YP : World → Heap → Prop} {d : DefRec} {K : Params → PySem.W.Frag}
    (hn : l.most = some 63) (hdf : d.params.defaults = []) (hrec : ((recsOf q).find? (fun e => e.name == ("is_key" : Str))).isSome = true) (hY : ∀ (w : World) (h : Heap), YP w h → (K w.params).In h)
    (F : ∀ (w : World) (mg : Str → Option Value) (fa : Addr) (h : Heap), (K w.params).In h → h.Ns mainGlobals mg → mg d.name = some (.ref fa) →
      (∀ c P : Addr, PySem.W.tabIn (K w.params) "is_key" = some (c, P) → PySem.W.CodeHd h c P ∧ h.get? P = some (PySem.W.tabObj #[])) → LamX.LawAtS l w (K w.params) CX0 8 63 "_law_script" mg fa h) :
    PySem.W.WalkO q loose XP YP l.row.toRowW d [] (fun f vs => PySem.call f vs) := by
  refine Att.attach_callB hn hdf fun w s0 s1 mg mb fa o pm cd doc a vs ns G Y ho hd hcd hmg hobj hints hlen hbits hg => ?_
  have KX := hY w _ Y
  obtain ⟨dk, hk⟩ := Option.isSome_iff_exists.mp hrec
  obtain ⟨fd, cs, sp, hT, nT, C, hb, hsp, hF⟩ := F w mg fa _ KX G.T.g hmg fun c P e => PySem.W.tab_of G.T KX hk e
  exact LamX.law_callTs KX G.T.g G.T.b G.T.builtins G.T.nolimit hg hT nT C G.T.bmain hobj hints (Nat.le_trans hlen (by decide)) ⟨rfl, by decide, by decide⟩ hF hb (fun H hH hS => hsp H a ns hlen hbits hH hS) fun H e s' z => z
end Vs
set_option maxHeartbeats 0 in
open_top hd14 for PySem.Challenge.rw_versionshelf_k14_deep_branches
open PySem PySem.W PyProof.Rows
set_option maxRecDepth 100000 in
set_option maxHeartbeats 0 in
theorem PySem.Challenge.cw_versionshelf_k14_deep_branches_holds : PySem.Challenge.rw_versionshelf_k14_deep_branches.Holds :=
  hd14 (by
  k_fill
  refine Vs.walk14 (l := PySem.Challenge.rw_versionshelf_k14_deep_branches) rfl rfl (by kernel_rfl) (fun w h Y => PySem.W.kIn_of Y) ?F
  intro w mg fa h KX G hmg hT
  have f_newest : Vs.FnA (hd14.heap_39 w.params) "newest" Vs.s_newest := by (refine' Vs.FnA.by ?a ?l ?c ?k; (case a => k_is); (case l => k_is); (case c => k_is); (case k => k_is))
  have f_seen_value : Vs.FnA (hd14.heap_39 w.params) "seen_value" Vs.s_seen_value := by (refine' Vs.FnA.by ?a ?l ?c ?k; (case a => k_is); (case l => k_is); (case c => k_is); (case k => k_is))
  have f_seen_by_hand : Vs.FnA (hd14.heap_39 w.params) "seen_by_hand" Vs.s_seen_by_hand := by (refine' Vs.FnA.by ?a ?l ?c ?k; (case a => k_is); (case l => k_is); (case c => k_is); (case k => k_is))
  have f_take_version : Vs.FnA (hd14.heap_39 w.params) "take_version" Vs.s_take_version := by (refine' Vs.FnA.by ?a ?l ?c ?k; (case a => k_is); (case l => k_is); (case c => k_is); (case k => k_is))
  have f_first_moments : Vs.FnA (hd14.heap_39 w.params) "first_moments" Vs.s_first_moments := by (refine' Vs.FnA.by ?a ?l ?c ?k; (case a => k_is); (case l => k_is); (case c => k_is); (case k => k_is))
  have f_take_marks : Vs.FnA (hd14.heap_39 w.params) "take_marks" Vs.s_take_marks := by (refine' Vs.FnA.by ?a ?l ?c ?k; (case a => k_is); (case l => k_is); (case c => k_is); (case k => k_is))
  have f_take_branches : Vs.FnA (hd14.heap_39 w.params) "take_branches" Vs.s_take_branches := by (refine' Vs.FnA.by ?a ?l ?c ?k; (case a => k_is); (case l => k_is); (case c => k_is); (case k => k_is))
  have f_views_of_somebody : Vs.FnA (hd14.heap_39 w.params) "views_of_somebody" Vs.s_views_of_somebody := by (refine' Vs.FnA.by ?a ?l ?c ?k; (case a => k_is); (case l => k_is); (case c => k_is); (case k => k_is))
  have f_reached : Vs.FnA (hd14.heap_39 w.params) "reached" Vs.s_reached := by (refine' Vs.FnA.by ?a ?l ?c ?k; (case a => k_is); (case l => k_is); (case c => k_is); (case k => k_is))
  have f_reached_beneath : Vs.FnA (hd14.heap_39 w.params) "reached_beneath" Vs.s_reached_beneath := by (refine' Vs.FnA.by ?a ?l ?c ?k; (case a => k_is); (case l => k_is); (case c => k_is); (case k => k_is))
  have f_first_owners : Vs.FnA (hd14.heap_39 w.params) "first_owners" Vs.s_first_owners := by (refine' Vs.FnA.by ?a ?l ?c ?k; (case a => k_is); (case l => k_is); (case c => k_is); (case k => k_is))
  have f_reason_to_stay : Vs.FnA (hd14.heap_39 w.params) "reason_to_stay" Vs.s_reason_to_stay := by (refine' Vs.FnA.by ?a ?l ?c ?k; (case a => k_is); (case l => k_is); (case c => k_is); (case k => k_is))
  have f_reasons_to_stay : Vs.FnA (hd14.heap_39 w.params) "reasons_to_stay" Vs.s_reasons_to_stay := by (refine' Vs.FnA.by ?a ?l ?c ?k; (case a => k_is); (case l => k_is); (case c => k_is); (case k => k_is))
  have f_judge : Vs.FnA (hd14.heap_39 w.params) "judge" Vs.s_judge := by (refine' Vs.FnA.by ?a ?l ?c ?k; (case a => k_is); (case l => k_is); (case c => k_is); (case k => k_is))
  have f_births_with_next : Vs.FnA (hd14.heap_39 w.params) "births_with_next" Vs.s_births_with_next := by (refine' Vs.FnA.by ?a ?l ?c ?k; (case a => k_is); (case l => k_is); (case c => k_is); (case k => k_is))
  have f_can_go : Vs.FnA (hd14.heap_39 w.params) "can_go" Vs.s_can_go := by (refine' Vs.FnA.by ?a ?l ?c ?k; (case a => k_is); (case l => k_is); (case c => k_is); (case k => k_is))
  have f_is_value : Vs.FnA (hd14.heap_39 w.params) "is_value" Vs.s_is_value := by (refine' Vs.FnA.by ?a ?l ?c ?k; (case a => k_is); (case l => k_is); (case c => k_is); (case k => k_is))
  have f_check_key : Vs.FnA (hd14.heap_39 w.params) "check_key" Vs.s_check_key := by (refine' Vs.FnA.by ?a ?l ?c ?k; (case a => k_is); (case l => k_is); (case c => k_is); (case k => k_is))
  have f__law_taken : Vs.FnA (hd14.heap_39 w.params) "_law_taken" Vs.s__law_taken := by (refine' Vs.FnA.by ?a ?l ?c ?k; (case a => k_is); (case l => k_is); (case c => k_is); (case k => k_is))
  have f__law_whole : Vs.FnA (hd14.heap_39 w.params) "_law_whole" Vs.s__law_whole := by (refine' Vs.FnA.by ?a ?l ?c ?k; (case a => k_is); (case l => k_is); (case c => k_is); (case k => k_is))
  have f__law_same : Vs.FnA (hd14.heap_39 w.params) "_law_same" Vs.s__law_same := by (refine' Vs.FnA.by ?a ?l ?c ?k; (case a => k_is); (case l => k_is); (case c => k_is); (case k => k_is))
  have f__law_made : Vs.FnA (hd14.heap_39 w.params) "_law_made" Vs.s__law_made := by (refine' Vs.FnA.by ?a ?l ?c ?k; (case a => k_is); (case l => k_is); (case c => k_is); (case k => k_is))
  have f__law_seen_by : Vs.FnA (hd14.heap_39 w.params) "_law_seen_by" Vs.s__law_seen_by := by (refine' Vs.FnA.by ?a ?l ?c ?k; (case a => k_is); (case l => k_is); (case c => k_is); (case k => k_is))
  have f__law_branches : Vs.FnA (hd14.heap_39 w.params) "_law_branches" Vs.s__law_branches := by (refine' Vs.FnA.by ?a ?l ?c ?k; (case a => k_is); (case l => k_is); (case c => k_is); (case k => k_is))
  have f__law_left : Vs.FnA (hd14.heap_39 w.params) "_law_left" Vs.s__law_left := by (refine' Vs.FnA.by ?a ?l ?c ?k; (case a => k_is); (case l => k_is); (case c => k_is); (case k => k_is))
  have f_law : Vs.FnA (hd14.heap_39 w.params) "law" Vs.s_law := by (refine' Vs.FnA.by ?a ?l ?c ?k; (case a => k_is); (case l => k_is); (case c => k_is); (case k => k_is))
  have z_len : nsIn (hd14.heap_39 w.params) mainGlobals "len" = some none := by k_is
  have z_sorted : nsIn (hd14.heap_39 w.params) mainGlobals "sorted" = some none := by k_is
  have z_list : nsIn (hd14.heap_39 w.params) mainGlobals "list" = some none := by k_is
  have z_zip : nsIn (hd14.heap_39 w.params) mainGlobals "zip" = some none := by k_is
  have z_set : nsIn (hd14.heap_39 w.params) mainGlobals "set" = some none := by k_is
  have z_min : nsIn (hd14.heap_39 w.params) mainGlobals "min" = some none := by k_is
  have z_all : nsIn (hd14.heap_39 w.params) mainGlobals "all" = some none := by k_is
  have z_range : nsIn (hd14.heap_39 w.params) mainGlobals "range" = some none := by k_is
  have z_isinstance : nsIn (hd14.heap_39 w.params) mainGlobals "isinstance" = some none := by k_is
  have z_int : nsIn (hd14.heap_39 w.params) mainGlobals "int" = some none := by k_is
  have z_tuple : nsIn (hd14.heap_39 w.params) mainGlobals "tuple" = some none := by k_is
  have z_str : nsIn (hd14.heap_39 w.params) mainGlobals "str" = some none := by k_is
  have z_bool : nsIn (hd14.heap_39 w.params) mainGlobals "bool" = some none := by k_is
  have z_dict : nsIn (hd14.heap_39 w.params) mainGlobals "dict" = some none := by k_is
  obtain ⟨C_Shelf, k_Shelf, cl_Shelf, a_sNow, a_sBrs, a_sBm, a_sHns, a_sHm, a_sJd, m_begin, m_fork, m_drop, m_reason, m_close, m_look, m_write, m_erase, m_commit, m_sweep, m_cells, m_marked, m_standing, m_branch_there, m_hand_there, m_add_hand, m_let_go, m_settle, m_judgement⟩ : ∃ C : Addr, Vs.KxA (hd14.heap_39 w.params) "Shelf" C "Shelf.__init__" Vs.s_Shelf___init__ ∧ L2.Cls (hd14.heap_39 w.params) C ∧ L2.NoAttr (hd14.heap_39 w.params) C "now" ∧ L2.NoAttr (hd14.heap_39 w.params) C "branches" ∧ L2.NoAttr (hd14.heap_39 w.params) C "branches_made" ∧ L2.NoAttr (hd14.heap_39 w.params) C "hands" ∧ L2.NoAttr (hd14.heap_39 w.params) C "hands_made" ∧ L2.NoAttr (hd14.heap_39 w.params) C "judged" ∧ Vs.MtA (hd14.heap_39 w.params) C "begin" "Shelf.begin" Vs.s_Shelf_begin ∧ Vs.MtA (hd14.heap_39 w.params) C "fork" "Shelf.fork" Vs.s_Shelf_fork ∧ Vs.MtA (hd14.heap_39 w.params) C "drop" "Shelf.drop" Vs.s_Shelf_drop ∧ Vs.MtA (hd14.heap_39 w.params) C "reason" "Shelf.reason" Vs.s_Shelf_reason ∧ Vs.MtA (hd14.heap_39 w.params) C "close" "Shelf.close" Vs.s_Shelf_close ∧ Vs.MtA (hd14.heap_39 w.params) C "look" "Shelf.look" Vs.s_Shelf_look ∧ Vs.MtA (hd14.heap_39 w.params) C "write" "Shelf.write" Vs.s_Shelf_write ∧ Vs.MtA (hd14.heap_39 w.params) C "erase" "Shelf.erase" Vs.s_Shelf_erase ∧ Vs.MtA (hd14.heap_39 w.params) C "commit" "Shelf.commit" Vs.s_Shelf_commit ∧ Vs.MtA (hd14.heap_39 w.params) C "sweep" "Shelf.sweep" Vs.s_Shelf_sweep ∧ Vs.MtA (hd14.heap_39 w.params) C "cells" "Shelf.cells" Vs.s_Shelf_cells ∧ Vs.MtA (hd14.heap_39 w.params) C "marked" "Shelf.marked" Vs.s_Shelf_marked ∧ Vs.MtA (hd14.heap_39 w.params) C "standing" "Shelf.standing" Vs.s_Shelf_standing ∧ Vs.MtA (hd14.heap_39 w.params) C "branch_there" "Shelf.branch_there" Vs.s_Shelf_branch_there ∧ Vs.MtA (hd14.heap_39 w.params) C "hand_there" "Shelf.hand_there" Vs.s_Shelf_hand_there ∧ Vs.MtA (hd14.heap_39 w.params) C "add_hand" "Shelf.add_hand" Vs.s_Shelf_add_hand ∧ Vs.MtA (hd14.heap_39 w.params) C "let_go" "Shelf.let_go" Vs.s_Shelf_let_go ∧ Vs.MtA (hd14.heap_39 w.params) C "settle" "Shelf.settle" Vs.s_Shelf_settle ∧ Vs.MtA (hd14.heap_39 w.params) C "judgement" "Shelf.judgement" Vs.s_Shelf_judgement := by
    refine' ⟨_, ?x, ?y, ?a_sNow, ?a_sBrs, ?a_sBm, ?a_sHns, ?a_sHm, ?a_sJd, ?m_begin, ?m_fork, ?m_drop, ?m_reason, ?m_close, ?m_look, ?m_write, ?m_erase, ?m_commit, ?m_sweep, ?m_cells, ?m_marked, ?m_standing, ?m_branch_there, ?m_hand_there, ?m_add_hand, ?m_let_go, ?m_settle, ?m_judgement⟩
    (case x => (refine' Vs.KxA.by ?n ?mk ?kc ?a ?i ?l ?c ?k; (case n => k_is); (case mk => k_is); (case kc => k_is); (case a => k_is); (case i => k_is); (case l => k_is); (case c => k_is); (case k => k_is)))
    (case y => (refine' ⟨?a, ?b, ?c, ?d⟩; (case a => k_is); (case b => k_is); (case c => k_is); (case d => k_is)))
    (case a_sNow => (show findIn _ _ _ = _; k_is))
    (case a_sBrs => (show findIn _ _ _ = _; k_is))
    (case a_sBm => (show findIn _ _ _ = _; k_is))
    (case a_sHns => (show findIn _ _ _ = _; k_is))
    (case a_sHm => (show findIn _ _ _ = _; k_is))
    (case a_sJd => (show findIn _ _ _ = _; k_is))
    (case m_begin => (refine' Vs.MtA.by ?a ?i ?l ?c ?k; (case a => k_is); (case i => k_is); (case l => k_is); (case c => k_is); (case k => k_is)))
    (case m_fork => (refine' Vs.MtA.by ?a ?i ?l ?c ?k; (case a => k_is); (case i => k_is); (case l => k_is); (case c => k_is); (case k => k_is)))
    (case m_drop => (refine' Vs.MtA.by ?a ?i ?l ?c ?k; (case a => k_is); (case i => k_is); (case l => k_is); (case c => k_is); (case k => k_is)))
    (case m_reason => (refine' Vs.MtA.by ?a ?i ?l ?c ?k; (case a => k_is); (case i => k_is); (case l => k_is); (case c => k_is); (case k => k_is)))
    (case m_close => (refine' Vs.MtA.by ?a ?i ?l ?c ?k; (case a => k_is); (case i => k_is); (case l => k_is); (case c => k_is); (case k => k_is)))
    (case m_look => (refine' Vs.MtA.by ?a ?i ?l ?c ?k; (case a => k_is); (case i => k_is); (case l => k_is); (case c => k_is); (case k => k_is)))
    (case m_write => (refine' Vs.MtA.by ?a ?i ?l ?c ?k; (case a => k_is); (case i => k_is); (case l => k_is); (case c => k_is); (case k => k_is)))
    (case m_erase => (refine' Vs.MtA.by ?a ?i ?l ?c ?k; (case a => k_is); (case i => k_is); (case l => k_is); (case c => k_is); (case k => k_is)))
    (case m_commit => (refine' Vs.MtA.by ?a ?i ?l ?c ?k; (case a => k_is); (case i => k_is); (case l => k_is); (case c => k_is); (case k => k_is)))
    (case m_sweep => (refine' Vs.MtA.by ?a ?i ?l ?c ?k; (case a => k_is); (case i => k_is); (case l => k_is); (case c => k_is); (case k => k_is)))
    (case m_cells => (refine' Vs.MtA.by ?a ?i ?l ?c ?k; (case a => k_is); (case i => k_is); (case l => k_is); (case c => k_is); (case k => k_is)))
    (case m_marked => (refine' Vs.MtA.by ?a ?i ?l ?c ?k; (case a => k_is); (case i => k_is); (case l => k_is); (case c => k_is); (case k => k_is)))
    (case m_standing => (refine' Vs.MtA.by ?a ?i ?l ?c ?k; (case a => k_is); (case i => k_is); (case l => k_is); (case c => k_is); (case k => k_is)))
    (case m_branch_there => (refine' Vs.MtA.by ?a ?i ?l ?c ?k; (case a => k_is); (case i => k_is); (case l => k_is); (case c => k_is); (case k => k_is)))
    (case m_hand_there => (refine' Vs.MtA.by ?a ?i ?l ?c ?k; (case a => k_is); (case i => k_is); (case l => k_is); (case c => k_is); (case k => k_is)))
    (case m_add_hand => (refine' Vs.MtA.by ?a ?i ?l ?c ?k; (case a => k_is); (case i => k_is); (case l => k_is); (case c => k_is); (case k => k_is)))
    (case m_let_go => (refine' Vs.MtA.by ?a ?i ?l ?c ?k; (case a => k_is); (case i => k_is); (case l => k_is); (case c => k_is); (case k => k_is)))
    (case m_settle => (refine' Vs.MtA.by ?a ?i ?l ?c ?k; (case a => k_is); (case i => k_is); (case l => k_is); (case c => k_is); (case k => k_is)))
    (case m_judgement => (refine' Vs.MtA.by ?a ?i ?l ?c ?k; (case a => k_is); (case i => k_is); (case l => k_is); (case c => k_is); (case k => k_is)))
  obtain ⟨C_Branch, k_Branch, cl_Branch, a_bBen, a_bMom, a_bAl, a_bLn, a_bMk⟩ : ∃ C : Addr, Vs.KxA (hd14.heap_39 w.params) "Branch" C "Branch.__init__" Vs.s_Branch___init__ ∧ L2.Cls (hd14.heap_39 w.params) C ∧ L2.NoAttr (hd14.heap_39 w.params) C "beneath" ∧ L2.NoAttr (hd14.heap_39 w.params) C "moment" ∧ L2.NoAttr (hd14.heap_39 w.params) C "alive" ∧ L2.NoAttr (hd14.heap_39 w.params) C "lines" ∧ L2.NoAttr (hd14.heap_39 w.params) C "marks" := by
    refine' ⟨_, ?x, ?y, ?a_bBen, ?a_bMom, ?a_bAl, ?a_bLn, ?a_bMk⟩
    (case x => (refine' Vs.KxA.by ?n ?mk ?kc ?a ?i ?l ?c ?k; (case n => k_is); (case mk => k_is); (case kc => k_is); (case a => k_is); (case i => k_is); (case l => k_is); (case c => k_is); (case k => k_is)))
    (case y => (refine' ⟨?a, ?b, ?c, ?d⟩; (case a => k_is); (case b => k_is); (case c => k_is); (case d => k_is)))
    (case a_bBen => (show findIn _ _ _ = _; k_is))
    (case a_bMom => (show findIn _ _ _ = _; k_is))
    (case a_bAl => (show findIn _ _ _ = _; k_is))
    (case a_bLn => (show findIn _ _ _ = _; k_is))
    (case a_bMk => (show findIn _ _ _ = _; k_is))
  obtain ⟨C_Hand, k_Hand, cl_Hand, a_nBr, a_nMom, a_nDr⟩ : ∃ C : Addr, Vs.KxA (hd14.heap_39 w.params) "Hand" C "Hand.__init__" Vs.s_Hand___init__ ∧ L2.Cls (hd14.heap_39 w.params) C ∧ L2.NoAttr (hd14.heap_39 w.params) C "branch" ∧ L2.NoAttr (hd14.heap_39 w.params) C "moment" ∧ L2.NoAttr (hd14.heap_39 w.params) C "drafts" := by
    refine' ⟨_, ?x, ?y, ?a_nBr, ?a_nMom, ?a_nDr⟩
    (case x => (refine' Vs.KxA.by ?n ?mk ?kc ?a ?i ?l ?c ?k; (case n => k_is); (case mk => k_is); (case kc => k_is); (case a => k_is); (case i => k_is); (case l => k_is); (case c => k_is); (case k => k_is)))
    (case y => (refine' ⟨?a, ?b, ?c, ?d⟩; (case a => k_is); (case b => k_is); (case c => k_is); (case d => k_is)))
    (case a_nBr => (show findIn _ _ _ = _; k_is))
    (case a_nMom => (show findIn _ _ _ = _; k_is))
    (case a_nDr => (show findIn _ _ _ = _; k_is))
  obtain ⟨C_Judgement, k_Judgement, cl_Judgement, a_jOw, a_jRs⟩ : ∃ C : Addr, Vs.KxA (hd14.heap_39 w.params) "Judgement" C "Judgement.__init__" Vs.s_Judgement___init__ ∧ L2.Cls (hd14.heap_39 w.params) C ∧ L2.NoAttr (hd14.heap_39 w.params) C "owners" ∧ L2.NoAttr (hd14.heap_39 w.params) C "reasons" := by
    refine' ⟨_, ?x, ?y, ?a_jOw, ?a_jRs⟩
    (case x => (refine' Vs.KxA.by ?n ?mk ?kc ?a ?i ?l ?c ?k; (case n => k_is); (case mk => k_is); (case kc => k_is); (case a => k_is); (case i => k_is); (case l => k_is); (case c => k_is); (case k => k_is)))
    (case y => (refine' ⟨?a, ?b, ?c, ?d⟩; (case a => k_is); (case b => k_is); (case c => k_is); (case d => k_is)))
    (case a_jOw => (show findIn _ _ _ = _; k_is))
    (case a_jRs => (show findIn _ _ _ = _; k_is))
  obtain ⟨X_badKey, x_badKey⟩ : ∃ X : Addr, nsIn (hd14.heap_39 w.params) mainGlobals "BadKey" = some (some (.ref X)) ∧ excIn (hd14.heap_39 w.params) X [.type "ValueError", .type "Exception", .type "BaseException", .type "object"] "ValueError.__new__" = true ∧ keepIn (hd14.heap_39 w.params) (.ref X) = true ∧ subIn (hd14.heap_39 w.params) (.ref X) (.type "BaseException") = some true ∧ typeIn (hd14.heap_39 w.params) (.ref X) = some (.type "type") := by
    refine' Vs.Xx.by ?a ?b ?c ?d ?e
    (case a => k_is); (case b => k_exc); (case c => k_is); (case d => k_is); (case e => k_is)
  obtain ⟨X_noHand, x_noHand⟩ : ∃ X : Addr, nsIn (hd14.heap_39 w.params) mainGlobals "NoHand" = some (some (.ref X)) ∧ excIn (hd14.heap_39 w.params) X [.type "ValueError", .type "Exception", .type "BaseException", .type "object"] "ValueError.__new__" = true ∧ keepIn (hd14.heap_39 w.params) (.ref X) = true ∧ subIn (hd14.heap_39 w.params) (.ref X) (.type "BaseException") = some true ∧ typeIn (hd14.heap_39 w.params) (.ref X) = some (.type "type") := by
    refine' Vs.Xx.by ?a ?b ?c ?d ?e
    (case a => k_is); (case b => k_exc); (case c => k_is); (case d => k_is); (case e => k_is)
  obtain ⟨X_noBranch, x_noBranch⟩ : ∃ X : Addr, nsIn (hd14.heap_39 w.params) mainGlobals "NoBranch" = some (some (.ref X)) ∧ excIn (hd14.heap_39 w.params) X [.type "ValueError", .type "Exception", .type "BaseException", .type "object"] "ValueError.__new__" = true ∧ keepIn (hd14.heap_39 w.params) (.ref X) = true ∧ subIn (hd14.heap_39 w.params) (.ref X) (.type "BaseException") = some true ∧ typeIn (hd14.heap_39 w.params) (.ref X) = some (.type "type") := by
    refine' Vs.Xx.by ?a ?b ?c ?d ?e
    (case a => k_is); (case b => k_exc); (case c => k_is); (case d => k_is); (case e => k_is)
  obtain ⟨X_dropped, x_dropped⟩ : ∃ X : Addr, nsIn (hd14.heap_39 w.params) mainGlobals "Dropped" = some (some (.ref X)) ∧ excIn (hd14.heap_39 w.params) X [.type "ValueError", .type "Exception", .type "BaseException", .type "object"] "ValueError.__new__" = true ∧ keepIn (hd14.heap_39 w.params) (.ref X) = true ∧ subIn (hd14.heap_39 w.params) (.ref X) (.type "BaseException") = some true ∧ typeIn (hd14.heap_39 w.params) (.ref X) = some (.type "type") := by
    refine' Vs.Xx.by ?a ?b ?c ?d ?e
    (case a => k_is); (case b => k_exc); (case c => k_is); (case d => k_is); (case e => k_is)
  obtain ⟨X_noCell, x_noCell⟩ : ∃ X : Addr, nsIn (hd14.heap_39 w.params) mainGlobals "NoCell" = some (some (.ref X)) ∧ excIn (hd14.heap_39 w.params) X [.type "ValueError", .type "Exception", .type "BaseException", .type "object"] "ValueError.__new__" = true ∧ keepIn (hd14.heap_39 w.params) (.ref X) = true ∧ subIn (hd14.heap_39 w.params) (.ref X) (.type "BaseException") = some true ∧ typeIn (hd14.heap_39 w.params) (.ref X) = some (.type "type") := by
    refine' Vs.Xx.by ?a ?b ?c ?d ?e
    (case a => k_is); (case b => k_exc); (case c => k_is); (case d => k_is); (case e => k_is)
  obtain ⟨X_c, fc, c_g, c_T, c_i, c_t, c_n, c_f⟩ : ∃ X fc : Addr, nsIn (hd14.heap_39 w.params) mainGlobals "Clash" = some (some (.ref X)) ∧ L2.OexC (hd14.heap_39 w.params) X ∧ findIn (hd14.heap_39 w.params) (.ref X) "__init__" = some (some (.ref fc)) ∧ typeIn (hd14.heap_39 w.params) (.ref fc) = some (.type "function") ∧ findIn (hd14.heap_39 w.params) (.ref X) "key" = some none ∧ ∃ fd, L2.Fun (hd14.heap_39 w.params) "__init__" "Clash.__init__" Vs.s_Clash___init__ fc fd := by
    refine' Vs.Clx.by ?a ?b ?c ?d ?e ?f
    (case a => k_is); (case c => k_is); (case d => k_is); (case e => k_is)
    (case b => (refine' Vs.Oex.by ?l ?r ?s ?x ?t ?k; (case l => k_is); (case r => decide +kernel); (case s => k_is); (case x => k_is); (case t => k_is); (case k => k_is)))
    (case f => (refine' ⟨_, L2.fun_mk ?l ?c ?k⟩; (case l => k_is); (case c => k_is); (case k => k_is)))
  obtain ⟨fk, ck, Pt, i_g, i_f, i_k, i_t, i_n⟩ : ∃ fk ck Pt : Addr, nsIn (hd14.heap_39 w.params) mainGlobals "is_key" = some (some (.ref fk)) ∧ (∃ fd, Vs.FunC (hd14.heap_39 w.params) "is_key" "is_key" Vs.s_is_key fk fd ck) ∧ keepIn (hd14.heap_39 w.params) (.ref fk) = true ∧ tabIn (hd14.heap_39 w.params) "is_key" = some (ck, Pt) ∧ ((hd14.heap_39 w.params)).lookup Pt = none := by
    refine' Vs.Ikx.by ?a ?b ?c ?d ?e
    (case a => k_is); (case c => k_is)
    (case b => (refine' Vs.FunC.by ?l ?c; (case l => k_is); (case c => k_is)))
    (case d => (refine' Vs.tab_by (st := Vs.s_is_key) (q := "is_key") ?g ?l1 ?l2 ?v; (case g => k_is); (case l1 => k_is); (case l2 => k_is); (case v => rfl)))
    (case e => kernel_rfl)
  have w_l : ∃ t, nsIn (hd14.heap_39 w.params) mainGlobals "LETTERS" = some (some (.str Vs.letters t)) := by (refine' Vs.Ex1.by ?a; (case a => k_is))
  have w_m : ∃ t, nsIn (hd14.heap_39 w.params) mainGlobals "LONGEST_KEY" = some (some (.int 8 t)) := by (refine' Vs.Ex1.by ?a; (case a => k_is))
  have w_g : ∃ t, nsIn (hd14.heap_39 w.params) mainGlobals "GREATEST_VALUE" = some (some (.int 999999 t)) := by (refine' Vs.Ex1.by ?a; (case a => k_is))
  have tt := hT ck Pt i_t
  exact Vs.law14 (T := ⟨C_Shelf, C_Branch, C_Hand, C_Judgement⟩) (U := ⟨X_badKey, X_noHand, X_noBranch, X_dropped, X_c, X_noCell⟩) KX G hmg ⟨f_newest, f_seen_value, f_seen_by_hand, f_take_version, f_first_moments, f_take_marks, f_take_branches, f_views_of_somebody, f_reached, f_reached_beneath, f_first_owners, f_reason_to_stay, f_reasons_to_stay, f_judge, f_births_with_next, f_can_go, f_is_value, f_check_key, f__law_taken, f__law_whole, f__law_same, f__law_made, f__law_seen_by, f__law_branches, f__law_left, f_law, m_begin, m_fork, m_drop, m_reason, m_close, m_look, m_write, m_erase, m_commit, m_sweep, m_cells, m_marked, m_standing, m_branch_there, m_hand_there, m_add_hand, m_let_go, m_settle, m_judgement, k_Shelf, k_Branch, k_Hand, k_Judgement, ⟨cl_Shelf, cl_Branch, cl_Hand, cl_Judgement, a_sNow, a_sBrs, a_sBm, a_sHns, a_sHm, a_sJd, a_bBen, a_bMom, a_bAl, a_bLn, a_bMk, a_nBr, a_nMom, a_nDr, a_jOw, a_jRs⟩, x_badKey, x_noHand, x_noBranch, x_dropped, x_noCell, c_g, c_T, c_i, c_t, c_n, c_f, i_g, i_f, i_k, i_t, i_n, w_l, w_m, w_g, z_len, z_sorted, z_list, z_zip, z_set, z_min, z_all, z_range, z_isinstance, z_int, z_tuple, z_str, z_bool, z_dict⟩ tt.1 tt.2)
