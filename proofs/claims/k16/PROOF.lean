import PyProof.Rows.All
import Wide.All
import OpenK.AllK
import Wide.FinOn
import HandS.ForMost
import HandS.ForExc
import HandS.More
import HandS.Sort
import HandS.SortInts
import HandS.DictComp
import HandS.SetKeys
import HandS.AnyAll
import HandS.Small
import HandS.FStr
import HandS.Flow
import HandS.Conv
import HandS.DictTup
import HandS.Wide
import HandS.EndTab
import HandS.ExcInit
import HandS.ExcField
import PyProof.DictMoreH
import KE.KDictCopyH
import HandS.ExcCtx
import HandS.HotCalls
import HandS.Codes
import HandS.Strs
import HandS.IsInst
import HandS.ListItems
import PyProof.StrOps2
import HandS.Rev
import PyProof.StrWalks
import PyProof.GenQ
import HandS.ExcIs
import HandS.SetFor
import KE.KNest
import KE.RegKTryMore
import PySem.Challenge.RW_versionshelf_k16_refusals_stand_apart
set_option Elab.async false
set_option linter.all false
set_option maxRecDepth 100000
set_option maxHeartbeats 8000000
/-! ## Association lists -/
namespace Vs
open PySem L2
section
variable {κ β γ : Type} [DecidableEq κ]
def aget (l : List (κ × β)) (k : κ) : Option β := (l.find? fun p => decide (p.1 = k)).map (·.2)
def aput (l : List (κ × β)) (k : κ) (x : β) : List (κ × β) :=
  if (aget l k).isSome = true then l.map (fun p => if p.1 = k then (p.1, x) else p) else l ++ [(k, x)]
def adel (l : List (κ × β)) (k : κ) : List (κ × β) := l.filter fun p => decide (p.1 ≠ k)
theorem aget_nil {k : κ} : aget ([] : List (κ × β)) k = none := rfl
theorem aget_pos {p : κ × β} {r : List (κ × β)} {k : κ} (e : p.1 = k) : aget (p :: r) k = some p.2 := by simp [aget, List.find?_cons, e]
theorem aget_neg {p : κ × β} {r : List (κ × β)} {k : κ} (e : ¬ p.1 = k) : aget (p :: r) k = aget r k := by simp [aget, List.find?_cons, e]
theorem aget_cons (p : κ × β) (r : List (κ × β)) (k : κ) : aget (p :: r) k = if p.1 = k then some p.2 else aget r k := by
  by_cases e : p.1 = k
  · rw [if_pos e, aget_pos e]
  · rw [if_neg e, aget_neg e]
theorem aget_append (l r : List (κ × β)) (k : κ) : aget (l ++ r) k = (aget l k).or (aget r k) := by
  induction l with
  | nil => simp [aget_nil]
  | cons p l ih =>
    rw [List.cons_append, aget_cons, aget_cons]
    by_cases e : p.1 = k
    · rw [if_pos e, if_pos e]; rfl
    · rw [if_neg e, if_neg e, ih]
theorem aget_mapV (f : κ → β → γ) (l : List (κ × β)) (k : κ) : aget (l.map fun p => (p.1, f p.1 p.2)) k = (aget l k).map (f k) := by
  induction l with
  | nil => rfl
  | cons p l ih =>
    rw [List.map_cons, aget_cons, aget_cons]
    by_cases e : p.1 = k
    · rw [if_pos e, if_pos e, ← e]; rfl
    · rw [if_neg e, if_neg e, ih]
theorem aget_set (l : List (κ × β)) (k j : κ) (x : β) : aget (l.map fun p => if p.1 = k then (p.1, x) else p) j = (aget l j).map fun y => if j = k then x else y := by
  induction l with
  | nil => rfl
  | cons p l ih =>
    rw [List.map_cons]
    by_cases e : p.1 = k
    · rw [if_pos e, aget_cons, aget_cons]
      by_cases e' : p.1 = j
      · rw [if_pos e', if_pos e']
        have : j = k := e'.symm.trans e
        simp [this]
      · rw [if_neg e', if_neg e', ih]
    · rw [if_neg e, aget_cons, aget_cons]
      by_cases e' : p.1 = j
      · rw [if_pos e', if_pos e']
        have : ¬ j = k := fun z => e (e'.trans z)
        simp [this]
      · rw [if_neg e', if_neg e', ih]
theorem aget_put (l : List (κ × β)) (k j : κ) (x : β) : aget (aput l k x) j = if j = k then some x else aget l j := by
  unfold aput
  cases h : aget l k with
  | some y =>
    rw [if_pos (by rfl), aget_set]
    by_cases e : j = k
    · subst e; simp [h]
    · simp [e]
  | none =>
    rw [if_neg (by simp), aget_append, aget_cons, aget_nil]
    by_cases e : j = k
    · subst e; simp [h]
    · rw [if_neg e, if_neg (fun z => e z.symm)]
      cases aget l j <;> rfl
theorem aget_put_same (l : List (κ × β)) (k : κ) (x : β) : aget (aput l k x) k = some x := by rw [aget_put, if_pos rfl]
theorem aget_put_ne {l : List (κ × β)} {k j : κ} {x : β} (h : j ≠ k) : aget (aput l k x) j = aget l j := by rw [aget_put, if_neg h]
theorem aget_del (l : List (κ × β)) (k j : κ) : aget (adel l k) j = if j = k then none else aget l j := by
  unfold adel
  induction l with
  | nil => simp [aget_nil]
  | cons p l ih =>
    rw [List.filter_cons]
    by_cases e : p.1 = k
    · rw [if_neg (by simp [e]), ih, aget_cons]
      by_cases e' : j = k
      · simp [e']
      · rw [if_neg e', if_neg e', if_neg (fun z => e' (z.symm.trans e))]
    · rw [if_pos (by simp [e]), aget_cons, aget_cons, ih]
      by_cases e' : p.1 = j
      · rw [if_pos e', if_pos e', if_neg (fun z => e (e'.trans z))]
      · rw [if_neg e', if_neg e']
theorem aget_mem {l : List (κ × β)} {k : κ} {x : β} (h : aget l k = some x) : (k, x) ∈ l := by
  induction l with
  | nil => cases h
  | cons p l ih =>
    rw [aget_cons] at h
    by_cases e : p.1 = k
    · rw [if_pos e] at h
      cases h
      subst e
      exact List.mem_cons_self
    · rw [if_neg e] at h
      exact List.mem_cons_of_mem _ (ih h)
theorem aget_key {l : List (κ × β)} {k : κ} {x : β} (h : aget l k = some x) : k ∈ l.map (·.1) := List.mem_map.mpr ⟨_, aget_mem h, rfl⟩
theorem aget_of_key {l : List (κ × β)} {k : κ} (h : k ∈ l.map (·.1)) : ∃ x, aget l k = some x := by
  induction l with
  | nil => cases h
  | cons p l ih =>
    rw [aget_cons]
    by_cases e : p.1 = k
    · exact ⟨_, if_pos e⟩
    · rw [if_neg e]
      rw [List.map_cons] at h
      rcases List.mem_cons.mp h with z | z
      · exact absurd z.symm e
      · exact ih z
theorem aget_of_mem {l : List (κ × β)} {k : κ} {x : β} (hn : (l.map (·.1)).Nodup) (h : (k, x) ∈ l) : aget l k = some x := by
  induction l with
  | nil => cases h
  | cons p l ih =>
    rw [List.map_cons] at hn
    obtain ⟨h1, h2⟩ := List.nodup_cons.mp hn
    rw [aget_cons]
    rcases List.mem_cons.mp h with z | z
    · rw [← z, if_pos rfl]
    · by_cases e : p.1 = k
      · exact absurd (e ▸ List.mem_map.mpr ⟨_, z, rfl⟩) h1
      · rw [if_neg e]; exact ih h2 z
theorem aget_none_of {l : List (κ × β)} {k : κ} (h : k ∉ l.map (·.1)) : aget l k = none := by
  cases e : aget l k with
  | none => rfl
  | some x => exact absurd (aget_key e) h
theorem aput_new {l : List (κ × β)} {k : κ} (x : β) (h : aget l k = none) : aput l k x = l ++ [(k, x)] := by
  unfold aput; rw [h]; rfl
theorem keys_aput_old {l : List (κ × β)} {k : κ} (x : β) {y : β} (h : aget l k = some y) : (aput l k x).map (·.1) = l.map (·.1) := by
  unfold aput; rw [h, if_pos (by rfl), List.map_map]
  apply List.map_congr_left
  intro p _
  simp only [Function.comp]
  split <;> rfl
theorem keys_adel (l : List (κ × β)) (k : κ) : (adel l k).map (·.1) = (l.map (·.1)).filter fun j => decide (j ≠ k) := by
  unfold adel
  induction l with
  | nil => rfl
  | cons p l ih =>
    rw [List.filter_cons, List.map_cons, List.filter_cons]
    by_cases e : p.1 = k
    · rw [if_neg (by simp [e]), if_neg (by simp [e]), ih]
    · rw [if_pos (by simp [e]), if_pos (by simp [e]), List.map_cons, ih]
/-! ### as the pairs of a dict -/
def enc (f : κ → Key) (g : κ → β → V) (l : List (κ × β)) : List (Key × V) := l.map fun p => (f p.1, g p.1 p.2)
variable {f : κ → Key} {g g' : κ → β → V}
theorem valV_enc (hf : ∀ a b, f a = f b → a = b) (l : List (κ × β)) (k : κ) : valV (enc f g l) (f k) = (aget l k).map (g k) := by
  induction l with
  | nil => rfl
  | cons p l ih =>
    show valV ((f p.1, g p.1 p.2) :: enc f g l) (f k) = _
    by_cases e : p.1 = k
    · rw [valV_pos (by simp [e]), aget_pos e, ← e]; rfl
    · rw [valV_neg (fun z => e (hf _ _ z)), aget_neg e, ih]
theorem enc_congr {l : List (κ × β)} (h : ∀ p ∈ l, g p.1 p.2 = g' p.1 p.2) : enc f g l = enc f g' l := by
  unfold enc
  apply List.map_congr_left
  intro p hp
  rw [h p hp]
theorem putK_enc (hf : ∀ a b, f a = f b → a = b) (l : List (κ × β)) (k : κ) (x : β) (v : V) (hv : g' k x = v) (ho : ∀ p ∈ l, p.1 ≠ k → g' p.1 p.2 = g p.1 p.2) :
    putK (enc f g l) (f k) v = enc f g' (aput l k x) := by
  unfold putK aput
  rw [valV_any, valV_enc hf]
  cases h : aget l k with
  | none =>
    rw [if_neg (by simp), if_neg (by simp)]
    show enc f g l ++ _ = enc f g' (l ++ _)
    unfold enc
    rw [List.map_append]
    congr 1
    · apply List.map_congr_left
      intro p hp
      rw [ho p hp (fun z => by
        have := aget_none_of (l := l) (k := k)
        obtain ⟨y, hy⟩ := aget_of_key (l := l) (k := k) (z ▸ List.mem_map.mpr ⟨p, hp, rfl⟩)
        rw [h] at hy; cases hy)]
    · show [(f k, v)] = [(f k, g' k x)]
      rw [hv]
  | some y =>
    rw [if_pos (by rfl), if_pos (by rfl)]
    unfold enc
    rw [List.map_map, List.map_map]
    apply List.map_congr_left
    intro p hp
    simp only [Function.comp]
    by_cases e : p.1 = k
    · rw [if_pos (by simp [e]), if_pos e, ← hv, e]
    · rw [if_neg (fun z => e (hf _ _ z)), if_neg e, ho p hp e]
theorem dropK_enc (hf : ∀ a b, f a = f b → a = b) (l : List (κ × β)) (k : κ) : dropK (enc f g l) (f k) = enc f g (adel l k) := by
  unfold dropK adel
  induction l with
  | nil => rfl
  | cons p l ih =>
    show List.filter _ ((f p.1, g p.1 p.2) :: enc f g l) = _
    rw [List.filter_cons, List.filter_cons, ih]
    by_cases e : p.1 = k
    · rw [if_neg (by simp [e]), if_neg (by simp [e])]
    · have e2 : (f p.1, g p.1 p.2).1 ≠ f k := fun z => e (hf _ _ z)
      rw [if_pos (decide_eq_true e2), if_pos (by simp [e])]; rfl
theorem enc_keys (l : List (κ × β)) : (enc f g l).map (·.1) = (l.map (·.1)).map f := by
  unfold enc; rw [List.map_map, List.map_map]; rfl
theorem enc_length (l : List (κ × β)) : (enc f g l).length = l.length := by unfold enc; rw [List.length_map]
end
theorem inl_inj : ∀ a b : Int, (Sum.inl a : Key) = Sum.inl b → a = b := fun _ _ h => Sum.inl.inj h
theorem inr_inj : ∀ a b : Str, (Sum.inr a : Key) = Sum.inr b → a = b := fun _ _ h => Sum.inr.inj h
end Vs
/-! ## The shelf as plain data, and what a judgement is -/
namespace Vs
open PySem L2
abbrev Cel := Int × Option Int
structure Br where
  ben : Option Int
  mom : Int
  alive : Bool
  lines : List (Str × List Cel)
  marks : List (Str × Int)
structure Hn where
  br : Int
  mom : Int
  drafts : List (Str × Option Int)
structure Sh where
  now : Int
  brs : List (Int × Br)
  bm : Int
  hns : List (Int × Hn)
  hm : Int
def optV : Option Int → V
  | none => .non
  | some i => .int i
abbrev Own := Str × Int
abbrev Ver := Int × Int × Option Int
structure Rsn where
  own : Own
  ben : Option (Int × Str × Int)
def newC (l : List Cel) (m : Int) : Option Cel := (l.filter fun c => decide (c.1 ≤ m)).getLast?
def Br.line (b : Br) (k : Str) : List Cel := (aget b.lines k).getD []
def lineAt (bs : List (Int × Br)) (n : Int) (k : Str) : List Cel := match aget bs n with
  | none => []
  | some b => b.line k
/-- to which version the view of branch n at moment m comes -/
def reach (bs : List (Int × Br)) (k : Str) : Nat → Int → Int → Option Ver
  | 0, _, _ => none
  | f + 1, n, m => match newC (lineAt bs n k) m with
    | some c => some (n, c.1, c.2)
    | none => match (aget bs n).bind (·.ben), aget bs n with
      | some q, some b => reach bs k f q b.mom
      | _, _ => none
def reachS (bs : List (Int × Br)) (k : Str) (n m : Int) : Option Ver := reach bs k (n.toNat + 1) n m
def viewsM (S : Sh) : List (Own × Int × Int) :=
  (S.hns.map fun p => ((("hand" : Str), p.1), p.2.br, p.2.mom)) ++ ((S.brs.filter fun p => p.2.alive).map fun p => ((("head" : Str), p.1), p.1, S.now))
def addOwn (acc : List ((Int × Int) × Own)) (v : Option Ver) (o : Own) : List ((Int × Int) × Own) := match v with
  | none => acc
  | some w => if (aget acc (w.1, w.2.1)).isSome = true then acc else acc ++ [((w.1, w.2.1), o)]
def ownersM (S : Sh) (k : Str) : List ((Int × Int) × Own) := (viewsM S).foldl (fun acc v => addOwn acc (reachS S.brs k v.2.1 v.2.2) v.1) []
def reasonM (k : Str) (v : Option Int) (o : Option Own) (be : Option Ver) : Option Rsn := match o with
  | none => none
  | some o => match v with
    | some _ => some ⟨o, none⟩
    | none => match be with
      | some (b, n, some _) => some ⟨o, some (b, k, n)⟩
      | _ => none
/-- the cells of a line that stay, each with its reason -/
def keepL (k : Str) (n : Int) (ow : Int → Option Own) : Option Ver → List Cel → List (Cel × Rsn)
  | _, [] => []
  | be, c :: r => match reasonM k c.2 (ow c.1) be with
    | none => keepL k n ow be r
    | some y => (c, y) :: keepL k n ow (some (n, c.1, c.2)) r
def belowK (bs : List (Int × Br)) (k : Str) (ow : Int → Int → Option Own) : Nat → Int → Option Ver
  | 0, _ => none
  | f + 1, n => match (aget bs n).bind (·.ben), aget bs n with
    | some q, some b => match newC ((keepL k q (ow q) (belowK bs k ow f q) (lineAt bs q k)).map (·.1)) b.mom with
      | some c => some (q, c.1, c.2)
      | none => belowK bs k ow f q
    | _, _ => none
def owOf (os : List ((Int × Int) × Own)) (n b : Int) : Option Own := aget os (n, b)
def keptB (bs : List (Int × Br)) (k : Str) (os : List ((Int × Int) × Own)) (n : Int) : List (Cel × Rsn) :=
  keepL k n (owOf os n) (belowK bs k (owOf os) (n.toNat + 1) n) (lineAt bs n k)
def reasonsO (bs : List (Int × Br)) (k : Str) (os : List ((Int × Int) × Own)) : List ((Int × Int) × Rsn) :=
  bs.flatMap fun p => (keptB bs k os p.1).map fun c => ((p.1, c.1.1), c.2)
def reasonsM (S : Sh) (k : Str) : List ((Int × Int) × Rsn) := reasonsO S.brs k (ownersM S k)
/-! ## How it stands in the heap -/
abbrev Jud := Str → List ((Int × Int) × Own) × List ((Int × Int) × Rsn)
inductive Rl where
  | sh | brs | hns | jd
  | br (n : Int) | lns (n : Int) | mks (n : Int) | ln (n : Int) (k : Str)
  | hn (n : Int) | dr (n : Int)
  | jg (k : Str) | ow (k : Str) | rs (k : Str)
  deriving DecidableEq
/-- the dicts of instances; which branches' lines are locked while a loop walks them -/
structure Dl where
  d : Rl → Addr
  fz : Int → Option Obj
instance : CoeFun Dl (fun _ => Rl → Addr) := ⟨Dl.d⟩
def Dl.Thaw (δ : Dl) : Prop := ∀ n, δ.fz n = none
def thw : Option Obj → HO → HO
  | none, u => u
  | some o, u => .frz o u
structure Cs where
  S : Addr
  B : Addr
  N : Addr
  J : Addr
def fSh (S : Sh) (α : Rl → Addr) : List (Str × V) :=
  [("now", .int S.now), ("branches", .ref (α .brs)), ("branches_made", .int S.bm), ("hands", .ref (α .hns)), ("hands_made", .int S.hm), ("judged", .ref (α .jd))]
def fBr (n : Int) (b : Br) (α : Rl → Addr) : List (Str × V) :=
  [("beneath", optV b.ben), ("moment", .int b.mom), ("alive", .bl b.alive), ("lines", .ref (α (.lns n))), ("marks", .ref (α (.mks n)))]
def fHn (n : Int) (h : Hn) (α : Rl → Addr) : List (Str × V) := [("branch", .int h.br), ("moment", .int h.mom), ("drafts", .ref (α (.dr n)))]
def fJg (k : Str) (α : Rl → Addr) : List (Str × V) := [("owners", .ref (α (.ow k))), ("reasons", .ref (α (.rs k)))]
/-- tuples, which never change -/
def Tups (H H' : Hp) : Prop := ∀ a xs, H a = some (.tup xs) → H' a = some (.tup xs)
theorem Tups.refl (H : Hp) : Tups H H := fun _ _ h => h
theorem Tups.trans {H H1 H2 : Hp} (a : Tups H H1) (b : Tups H1 H2) : Tups H H2 := fun c xs h => b c xs (a c xs h)
theorem Tups.of {H H' : Hp} (s : Same H H') : Tups H H' := fun a xs h => s a _ h
def CelAt (H : Hp) (v : V) (c : Cel) : Prop := ∃ t, v = .ref t ∧ H t = some (.tup [.int c.1, optV c.2])
def OwnAt (H : Hp) (v : V) (o : Own) : Prop := ∃ t, v = .ref t ∧ H t = some (.tup [.str o.1, .int o.2])
def RsnAt (H : Hp) (v : V) (r : Rsn) : Prop := ∃ t, v = .ref t ∧ match r.ben with
  | none => ∃ o, H t = some (.tup [o]) ∧ OwnAt H o r.own
  | some b => ∃ o q, H t = some (.tup [o, .ref q]) ∧ OwnAt H o r.own ∧ H q = some (.tup [.int b.1, .str b.2.1, .int b.2.2])
def cellKey (p : Int × Int) : List Key := [.inl p.1, .inl p.2]
def OwRep (H : Hp) : List (List Key × V) → List ((Int × Int) × Own) → Prop := Paired fun e o => e.1 = cellKey o.1 ∧ OwnAt H e.2 o.2
def RsRep (H : Hp) : List (List Key × V) → List ((Int × Int) × Rsn) → Prop := Paired fun e o => e.1 = cellKey o.1 ∧ RsnAt H e.2 o.2
def Cels (H : Hp) : List V → List Cel → Prop := Paired (CelAt H)
theorem CelAt.tups {H H' : Hp} (t : Tups H H') {v : V} {c : Cel} (h : CelAt H v c) : CelAt H' v c := by
  obtain ⟨a, e, q⟩ := h
  exact ⟨a, e, t _ _ q⟩
theorem OwnAt.tups {H H' : Hp} (t : Tups H H') {v : V} {c : Own} (h : OwnAt H v c) : OwnAt H' v c := by
  obtain ⟨a, e, q⟩ := h
  exact ⟨a, e, t _ _ q⟩
theorem RsnAt.tups {H H' : Hp} (t : Tups H H') {v : V} {r : Rsn} (h : RsnAt H v r) : RsnAt H' v r := by
  obtain ⟨a, e, q⟩ := h
  refine ⟨a, e, ?_⟩
  cases hb : r.ben with
  | none =>
    rw [hb] at q
    obtain ⟨o, q1, q2⟩ := q
    exact ⟨o, t _ _ q1, q2.tups t⟩
  | some b =>
    rw [hb] at q
    obtain ⟨o, d, q1, q2, q3⟩ := q
    exact ⟨o, d, t _ _ q1, q2.tups t, t _ _ q3⟩
theorem Cels.tups {H H' : Hp} (t : Tups H H') {vs : List V} {l : List Cel} (h : Cels H vs l) : Cels H' vs l := Paired.mapP h fun _ _ z => z.tups t
theorem OwRep.tups {H H' : Hp} (t : Tups H H') {vs : List (List Key × V)} {l : List ((Int × Int) × Own)} (h : OwRep H vs l) : OwRep H' vs l := Paired.mapP h fun _ _ z => ⟨z.1, z.2.tups t⟩
theorem RsRep.tups {H H' : Hp} (t : Tups H H') {vs : List (List Key × V)} {l : List ((Int × Int) × Rsn)} (h : RsRep H vs l) : RsRep H' vs l := Paired.mapP h fun _ _ z => ⟨z.1, z.2.tups t⟩
def Live (S : Sh) (J : List Str) : Rl → Prop
  | .sh => True
  | .brs => True
  | .hns => True
  | .jd => True
  | .br n => ∃ b, aget S.brs n = some b
  | .lns n => ∃ b, aget S.brs n = some b
  | .mks n => ∃ b, aget S.brs n = some b
  | .ln n k => ∃ b l, aget S.brs n = some b ∧ aget b.lines k = some l
  | .hn n => ∃ h, aget S.hns n = some h
  | .dr n => ∃ h, aget S.hns n = some h
  | .jg k => k ∈ J
  | .ow k => k ∈ J
  | .rs k => k ∈ J
/-- what stands at a role's address -/
def Cont (T : Cs) (S : Sh) (α : Rl → Addr) (δ : Dl) (J : List Str) (G : Jud) (H : Hp) : Rl → HO → Prop
  | .sh, o => o = .ins T.S (δ .sh) (fSh S α)
  | .brs, o => o = .dK (enc .inl (fun n _ => .ref (α (.br n))) S.brs)
  | .hns, o => o = .dK (enc .inl (fun n _ => .ref (α (.hn n))) S.hns)
  | .jd, o => o = .dK (J.map fun k => (.inr k, .ref (α (.jg k))))
  | .br n, o => ∃ b, aget S.brs n = some b ∧ o = .ins T.B (δ (.br n)) (fBr n b α)
  | .lns n, o => ∃ b, aget S.brs n = some b ∧ o = thw (δ.fz n) (.dK (enc .inr (fun k _ => .ref (α (.ln n k))) b.lines))
  | .mks n, o => ∃ b, aget S.brs n = some b ∧ o = .dK (enc .inr (fun _ m => .int m) b.marks)
  | .ln n k, o => ∃ b l rs, aget S.brs n = some b ∧ aget b.lines k = some l ∧ o = .lst rs ∧ Cels H rs l
  | .hn n, o => ∃ h, aget S.hns n = some h ∧ o = .ins T.N (δ (.hn n)) (fHn n h α)
  | .dr n, o => ∃ h, aget S.hns n = some h ∧ o = .dK (enc .inr (fun _ v => optV v) h.drafts)
  | .jg k, o => k ∈ J ∧ o = .ins T.J (δ (.jg k)) (fJg k α)
  | .ow k, o => k ∈ J ∧ ∃ e, o = .dT e ∧ OwRep H e (G k).1
  | .rs k, o => k ∈ J ∧ ∃ e, o = .dT e ∧ RsRep H e (G k).2
theorem Cont.live {T : Cs} {S : Sh} {α : Rl → Addr} {δ : Dl} {J : List Str} {G : Jud} {H : Hp} : ∀ {r : Rl} {o : HO}, Cont T S α δ J G H r o → Live S J r
  | .sh, _, _ => trivial
  | .brs, _, _ => trivial
  | .hns, _, _ => trivial
  | .jd, _, _ => trivial
  | .br _, _, ⟨b, h, _⟩ => ⟨b, h⟩
  | .lns _, _, ⟨b, h, _⟩ => ⟨b, h⟩
  | .mks _, _, ⟨b, h, _⟩ => ⟨b, h⟩
  | .ln _ _, _, ⟨b, l, _, h, h', _⟩ => ⟨b, l, h, h'⟩
  | .hn _, _, ⟨b, h, _⟩ => ⟨b, h⟩
  | .dr _, _, ⟨b, h, _⟩ => ⟨b, h⟩
  | .jg _, _, h => h.1
  | .ow _, _, h => h.1
  | .rs _, _, h => h.1
theorem Cont.tups {T : Cs} {S : Sh} {α : Rl → Addr} {δ : Dl} {J : List Str} {G : Jud} {H H' : Hp} (t : Tups H H') : ∀ {r : Rl} {o : HO}, Cont T S α δ J G H r o → Cont T S α δ J G H' r o
  | .sh, _, h => h
  | .brs, _, h => h
  | .hns, _, h => h
  | .jd, _, h => h
  | .br _, _, h => h
  | .lns _, _, h => h
  | .mks _, _, h => h
  | .ln _ _, _, ⟨b, l, rs, h, h', h2, h3⟩ => ⟨b, l, rs, h, h', h2, h3.tups t⟩
  | .hn _, _, h => h
  | .dr _, _, h => h
  | .jg _, _, h => h
  | .ow _, _, ⟨h, e, h1, h2⟩ => ⟨h, e, h1, h2.tups t⟩
  | .rs _, _, ⟨h, e, h1, h2⟩ => ⟨h, e, h1, h2.tups t⟩
theorem thw_tup {x : Option Obj} {kvs : List (Key × V)} {xs : List V} (h : HO.tup xs = thw x (.dK kvs)) : False := by cases x <;> cases h
theorem thw_tbl {x : Option Obj} {kvs : List (Key × V)} {ps : Array Value} (h : HO.tbl ps = thw x (.dK kvs)) : False := by cases x <;> cases h
theorem Cont.notup {T : Cs} {S : Sh} {α : Rl → Addr} {δ : Dl} {J : List Str} {G : Jud} {H : Hp} {xs : List V} : ∀ {r : Rl}, ¬ Cont T S α δ J G H r (.tup xs)
  | .sh, h => by cases h
  | .brs, h => by cases h
  | .hns, h => by cases h
  | .jd, h => by cases h
  | .br _, ⟨_, _, h⟩ => by cases h
  | .lns _, ⟨_, _, h⟩ => thw_tup h
  | .mks _, ⟨_, _, h⟩ => by cases h
  | .ln _ _, ⟨_, _, _, _, _, h, _⟩ => by cases h
  | .hn _, ⟨_, _, h⟩ => by cases h
  | .dr _, ⟨_, _, h⟩ => by cases h
  | .jg _, ⟨_, h⟩ => by cases h
  | .ow _, ⟨_, _, h, _⟩ => by cases h
  | .rs _, ⟨_, _, h, _⟩ => by cases h
/-- the shelf S stands in H, its parts at α -/
structure Lay (T : Cs) (H : Hp) (S : Sh) (α : Rl → Addr) (δ : Dl) (J : List Str) (G : Jud) : Prop where
  at_ : ∀ r, Live S J r → ∃ o, H (α r) = some o ∧ Cont T S α δ J G H r o
  inj : ∀ r r', Live S J r → Live S J r' → α r = α r' → r = r'
section
variable {T : Cs} {H H' : Hp} {S S' : Sh} {α α' : Rl → Addr} {δ δ' : Dl} {J J' : List Str} {G G' : Jud}
theorem Lay.ne (L : Lay T H S α δ J G) {r r' : Rl} (h : Live S J r) (h' : Live S J r') (n : r ≠ r') : α r ≠ α r' := fun e => n (L.inj r r' h h' e)
theorem Lay.there (L : Lay T H S α δ J G) {r : Rl} (h : Live S J r) : ∃ o, H (α r) = some o := let ⟨o, e, _⟩ := L.at_ r h; ⟨o, e⟩
theorem Lay.sh (L : Lay T H S α δ J G) : H (α .sh) = some (.ins T.S (δ .sh) (fSh S α)) := by
  obtain ⟨o, e, c⟩ := L.at_ .sh trivial
  cases c; exact e
theorem Lay.brs (L : Lay T H S α δ J G) : H (α .brs) = some (.dK (enc .inl (fun n _ => .ref (α (.br n))) S.brs)) := by
  obtain ⟨o, e, c⟩ := L.at_ .brs trivial
  cases c; exact e
theorem Lay.hns (L : Lay T H S α δ J G) : H (α .hns) = some (.dK (enc .inl (fun n _ => .ref (α (.hn n))) S.hns)) := by
  obtain ⟨o, e, c⟩ := L.at_ .hns trivial
  cases c; exact e
theorem Lay.jd (L : Lay T H S α δ J G) : H (α .jd) = some (.dK (J.map fun k => (.inr k, .ref (α (.jg k))))) := by
  obtain ⟨o, e, c⟩ := L.at_ .jd trivial
  cases c; exact e
theorem Lay.br (L : Lay T H S α δ J G) {n : Int} {b : Br} (h : aget S.brs n = some b) : H (α (.br n)) = some (.ins T.B (δ (.br n)) (fBr n b α)) := by
  obtain ⟨o, e, b', h', c⟩ := L.at_ (.br n) ⟨b, h⟩
  rw [h] at h'; cases h'; cases c; exact e
theorem Lay.lns (L : Lay T H S α δ J G) {n : Int} {b : Br} (h : aget S.brs n = some b) : H (α (.lns n)) = some (thw (δ.fz n) (.dK (enc .inr (fun k _ => .ref (α (.ln n k))) b.lines))) := by
  obtain ⟨o, e, b', h', c⟩ := L.at_ (.lns n) ⟨b, h⟩
  rw [h] at h'; cases h'; cases c; exact e
theorem Lay.lnsR (L : Lay T H S α δ J G) {n : Int} {b : Br} (h : aget S.brs n = some b) : Rd H (α (.lns n)) (.dK (enc .inr (fun k _ => .ref (α (.ln n k))) b.lines)) := by
  have := L.lns h
  cases e : δ.fz n with
  | none => rw [e] at this; exact .inl this
  | some o => rw [e] at this; exact .inr ⟨o, this⟩
theorem Lay.lns0 (L : Lay T H S α δ J G) {n : Int} {b : Br} (h : aget S.brs n = some b) (z : δ.fz n = none) : H (α (.lns n)) = some (.dK (enc .inr (fun k _ => .ref (α (.ln n k))) b.lines)) := by
  have := L.lns h
  rw [z] at this; exact this
theorem Lay.mks (L : Lay T H S α δ J G) {n : Int} {b : Br} (h : aget S.brs n = some b) : H (α (.mks n)) = some (.dK (enc .inr (fun _ m => .int m) b.marks)) := by
  obtain ⟨o, e, b', h', c⟩ := L.at_ (.mks n) ⟨b, h⟩
  rw [h] at h'; cases h'; cases c; exact e
theorem Lay.ln (L : Lay T H S α δ J G) {n : Int} {b : Br} {k : Str} {l : List Cel} (h : aget S.brs n = some b) (hk : aget b.lines k = some l) : ∃ rs, H (α (.ln n k)) = some (.lst rs) ∧ Cels H rs l := by
  obtain ⟨o, e, b', l', rs, h', h2, c, d⟩ := L.at_ (.ln n k) ⟨b, l, h, hk⟩
  rw [h] at h'; cases h'; rw [hk] at h2; cases h2; cases c; exact ⟨rs, e, d⟩
theorem Lay.hn (L : Lay T H S α δ J G) {n : Int} {h : Hn} (e : aget S.hns n = some h) : H (α (.hn n)) = some (.ins T.N (δ (.hn n)) (fHn n h α)) := by
  obtain ⟨o, q, b', h', c⟩ := L.at_ (.hn n) ⟨h, e⟩
  rw [e] at h'; cases h'; cases c; exact q
theorem Lay.dr (L : Lay T H S α δ J G) {n : Int} {h : Hn} (e : aget S.hns n = some h) : H (α (.dr n)) = some (.dK (enc .inr (fun _ v => optV v) h.drafts)) := by
  obtain ⟨o, q, b', h', c⟩ := L.at_ (.dr n) ⟨h, e⟩
  rw [e] at h'; cases h'; cases c; exact q
theorem Lay.jg (L : Lay T H S α δ J G) {k : Str} (h : k ∈ J) : H (α (.jg k)) = some (.ins T.J (δ (.jg k)) (fJg k α)) := by
  obtain ⟨o, q, _, c⟩ := L.at_ (.jg k) h
  cases c; exact q
theorem Lay.ow (L : Lay T H S α δ J G) {k : Str} (h : k ∈ J) : ∃ e, H (α (.ow k)) = some (.dT e) ∧ OwRep H e (G k).1 := by
  obtain ⟨o, q, _, e, c, d⟩ := L.at_ (.ow k) h
  cases c; exact ⟨e, q, d⟩
theorem Lay.rs (L : Lay T H S α δ J G) {k : Str} (h : k ∈ J) : ∃ e, H (α (.rs k)) = some (.dT e) ∧ RsRep H e (G k).2 := by
  obtain ⟨o, q, _, e, c, d⟩ := L.at_ (.rs k) h
  cases c; exact ⟨e, q, d⟩
/-- from one heap and state to the next: each role is an old one whose content is kept, or is shown anew -/
theorem Lay.move (L : Lay T H S α δ J G) (ht : Tups H H')
    (hc : ∀ r, Live S' J' r → (Live S J r ∧ α' r = α r ∧ H' (α r) = H (α r) ∧ ∀ o, Cont T S α δ J G H r o → Cont T S' α' δ' J' G' H r o) ∨ ∃ o, H' (α' r) = some o ∧ Cont T S' α' δ' J' G' H' r o)
    (hi : ∀ r r', Live S' J' r → Live S' J' r' → α' r = α' r' → r = r') : Lay T H' S' α' δ' J' G' := by
  refine ⟨fun r hr => ?_, hi⟩
  rcases hc r hr with ⟨h1, h2, h3, h4⟩ | h
  · obtain ⟨o, e, c⟩ := L.at_ r h1
    exact ⟨o, by rw [h2, h3]; exact e, (h4 o c).tups ht⟩
  · exact h
/-- nothing of the shelf is touched -/
theorem Lay.keep (L : Lay T H S α δ J G) (ht : Tups H H') (k : ∀ r, Live S J r → H' (α r) = H (α r)) : Lay T H' S α δ J G :=
  L.move ht (fun r hr => .inl ⟨hr, rfl, k r hr, fun _ c => c⟩) L.inj
theorem Lay.same (L : Lay T H S α δ J G) (s : Same H H') : Lay T H' S α δ J G :=
  L.keep (Tups.of s) fun r hr => by
    obtain ⟨o, e⟩ := L.there hr
    rw [e]; exact s _ _ e
/-! ### footprints -/
def Foot (S : Sh) (α : Rl → Addr) (J : List Str) : Addr → Prop := fun a => ∃ r, Live S J r ∧ α r = a
/-- no code object's table -/
def NT (o : HO) : Prop := ∀ ps, o ≠ .tbl ps
/-- all that stood stands, tables may have grown -/
structure Sm (H H' : Hp) : Prop where
  keep : ∀ b o, H b = some o → NT o → H' b = some o
  tab : ∀ P, GxR.TabG H P → GxR.TabG H' P
  tbl : ∀ b ps, H b = some (.tbl ps) → ∃ qs, H' b = some (.tbl qs)
theorem Sm.refl (H : Hp) : Sm H H := ⟨fun _ _ h _ => h, fun _ h => h, fun _ ps h => ⟨ps, h⟩⟩
theorem Sm.trans {H1 H2 H3 : Hp} (a : Sm H1 H2) (b : Sm H2 H3) : Sm H1 H3 := ⟨fun c o h n => b.keep c o (a.keep c o h n) n, fun P h => b.tab P (a.tab P h), fun c ps h =>
  let ⟨qs, h'⟩ := a.tbl c ps h
  b.tbl c qs h'⟩
theorem Sm.of {H H' : Hp} (s : Same H H') : Sm H H' := ⟨fun b o h _ => s b o h, fun P ⟨ps, h, t⟩ => ⟨ps, s P _ h, t⟩, fun b ps h => ⟨ps, s b _ h⟩⟩
theorem Sm.tups {H H' : Hp} (s : Sm H H') : Tups H H' := fun a xs h => s.keep a _ h (fun _ z => by cases z)
theorem Sm.tabbed {P : Addr} {H H' : Hp} (h : GxR.TabG H P) (t : GxR.Tabbed P H H') : Sm H H' := by
  obtain ⟨ps, hP, _⟩ := h
  refine ⟨fun b o e n => ?_, fun Q hQ => ?_, fun b qs e => ?_⟩
  · rw [t.2 b (fun z => by subst z; rw [hP] at e; exact n ps (Option.some.inj e).symm)]; exact e
  · by_cases z : Q = P
    · rw [z]; exact t.1
    · obtain ⟨qs, e, q⟩ := hQ
      exact ⟨qs, by rw [t.2 Q z]; exact e, q⟩
  · by_cases z : b = P
    · obtain ⟨rs, r, _⟩ := t.1
      exact ⟨rs, by rw [z]; exact r⟩
    · exact ⟨qs, by rw [t.2 b z]; exact e⟩
theorem Sm.new {H : Hp} {p : Addr} {o : HO} (h : H p = none) : Sm H (upd H p o) := Sm.of fun b u e => by rw [upd_ne (ne_of_none e h)]; exact e
theorem Sm.lst {H H' : Hp} (s : Sm H H') {a : Addr} {xs : List V} (h : H a = some (.lst xs)) : H' a = some (.lst xs) := s.keep _ _ h fun _ z => by cases z
theorem Sm.dK {H H' : Hp} (s : Sm H H') {a : Addr} {xs : List (Key × V)} (h : H a = some (.dK xs)) : H' a = some (.dK xs) := s.keep _ _ h fun _ z => by cases z
theorem Sm.dT {H H' : Hp} (s : Sm H H') {a : Addr} {xs : List (List Key × V)} (h : H a = some (.dT xs)) : H' a = some (.dT xs) := s.keep _ _ h fun _ z => by cases z
theorem Sm.ins {H H' : Hp} (s : Sm H H') {a C d : Addr} {xs : List (Str × V)} (h : H a = some (.ins C d xs)) : H' a = some (.ins C d xs) := s.keep _ _ h fun _ z => by cases z
theorem Sm.seq {K : PySem.W.Frag} {H H' : Hp} (s : Sm H H') {a : Addr} {xs : List V} (h : SqL K H a xs) : SqL K H' a xs := by
  rcases h with (h | ⟨o, h⟩) | h
  · exact .inl (.inl (s.lst h))
  · exact .inl (.inr ⟨o, s.keep _ _ h fun _ z => by cases z⟩)
  · exact .inr h
theorem Sm.rd {H H' : Hp} (s : Sm H H') {a : Addr} {xs : List (Key × V)} (h : Rd H a (.dK xs)) : Rd H' a (.dK xs) := by
  rcases h with h | ⟨o, h⟩
  · exact .inl (s.dK h)
  · exact .inr ⟨o, s.keep _ _ h fun _ z => by cases z⟩
theorem Sm.free {H H' : Hp} (s : Sm H H') {p : Addr} (h : H' p = none) : H p = none := by
  cases e : H p with
  | none => rfl
  | some o =>
    by_cases n : NT o
    · rw [s.keep p o e n] at h; cases h
    · have : ∃ ps, o = .tbl ps := Classical.byContradiction fun z => n fun ps y => z ⟨ps, y⟩
      obtain ⟨ps, rfl⟩ := this
      obtain ⟨qs, q⟩ := s.tbl p ps e
      rw [q] at h; cases h
/-- what stood outside the footprint stands as it was, and outside the new one -/
structure Step (H : Hp) (F : Addr → Prop) (H' : Hp) (F' : Addr → Prop) : Prop where
  keep : ∀ a o, H a = some o → NT o → ¬ F a → H' a = some o ∧ ¬ F' a
  tab : ∀ P, GxR.TabG H P → GxR.TabG H' P
  tups : Tups H H'
theorem Step.refl (H : Hp) (F : Addr → Prop) : Step H F H F := ⟨fun _ _ h _ n => ⟨h, n⟩, fun _ h => h, Tups.refl H⟩
theorem Step.trans {H1 H2 H3 : Hp} {F1 F2 F3 : Addr → Prop} (a : Step H1 F1 H2 F2) (b : Step H2 F2 H3 F3) : Step H1 F1 H3 F3 := ⟨fun c o h t n =>
  let ⟨h', n'⟩ := a.keep c o h t n
  b.keep c o h' t n', fun P h => b.tab P (a.tab P h), a.tups.trans b.tups⟩
theorem Step.sm {H H' : Hp} {F : Addr → Prop} (s : Sm H H') : Step H F H' F := ⟨fun a o h t n => ⟨s.keep a o h t, n⟩, s.tab, s.tups⟩
/-- the cache is right -/
def Right (S : Sh) (J : List Str) (G : Jud) : Prop := ∀ k, k ∈ J → G k = (ownersM S k, reasonsM S k)
/-- .. and has judgements only of keys with versions -/
structure RightJ (S : Sh) (J : List Str) (G : Jud) : Prop where
  rt : Right S J G
  nd : J.Nodup
  ink : ∀ k ∈ J, ∃ n b, aget S.brs n = some b ∧ k ∈ b.lines.map (·.1)
theorem RightJ.nil {S : Sh} {G : Jud} : RightJ S [] G := ⟨fun k hk => (by cases hk), List.nodup_nil, fun k hk => (by cases hk)⟩
def ShAt (T : Cs) (H : Hp) (p : Addr) (S : Sh) (F : Addr → Prop) : Prop := ∃ α δ J G, α .sh = p ∧ F = Foot S α J ∧ Lay T H S α δ J G ∧ RightJ S J G ∧ δ.Thaw
theorem Cont.nt {T : Cs} {S : Sh} {α : Rl → Addr} {δ : Dl} {J : List Str} {G : Jud} {H : Hp} {ps : Array Value} : ∀ {r : Rl}, ¬ Cont T S α δ J G H r (.tbl ps)
  | .sh, h => by cases h
  | .brs, h => by cases h
  | .hns, h => by cases h
  | .jd, h => by cases h
  | .br _, ⟨_, _, h⟩ => by cases h
  | .lns _, ⟨_, _, h⟩ => thw_tbl h
  | .mks _, ⟨_, _, h⟩ => by cases h
  | .ln _ _, ⟨_, _, _, _, _, h, _⟩ => by cases h
  | .hn _, ⟨_, _, h⟩ => by cases h
  | .dr _, ⟨_, _, h⟩ => by cases h
  | .jg _, ⟨_, h⟩ => by cases h
  | .ow _, ⟨_, _, h, _⟩ => by cases h
  | .rs _, ⟨_, _, h, _⟩ => by cases h
theorem Lay.sm {T : Cs} {H H' : Hp} {S : Sh} {α : Rl → Addr} {δ : Dl} {J : List Str} {G : Jud} (L : Lay T H S α δ J G) (s : Sm H H') : Lay T H' S α δ J G :=
  L.keep s.tups fun r hr => by
    obtain ⟨o, e, c⟩ := L.at_ r hr
    rw [e]; exact s.keep _ _ e fun ps z => Cont.nt (z ▸ c)
theorem Lay.nofr {T : Cs} {H : Hp} {S : Sh} {α : Rl → Addr} {δ : Dl} {J : List Str} {G : Jud} (L : Lay T H S α δ J G) {p : Addr} (hp : H p = none) {r : Rl} (hr : Live S J r) : α r ≠ p := fun e => by
  obtain ⟨o, q⟩ := L.there hr
  rw [e, hp] at q; cases q
theorem Lay.step {T : Cs} {H H' : Hp} {S S' : Sh} {α α' : Rl → Addr} {δ : Dl} {J J' : List Str} {G : Jud} (L : Lay T H S α δ J G)
    (k : ∀ a o, H a = some o → (∀ r, Live S J r → α r ≠ a) → H' a = some o) (ht : Tups H H')
    (f : ∀ r, Live S' J' r → (Live S J r ∧ α' r = α r) ∨ H (α' r) = none) : Step H (Foot S α J) H' (Foot S' α' J') := by
  refine ⟨fun a o h _ n => ⟨k a o h fun r hr e => n ⟨r, hr, e⟩, fun ⟨r, hr, e⟩ => ?_⟩, fun P ⟨ps, h, t⟩ => ⟨ps, k P _ h fun r hr e => ?_, t⟩, ht⟩
  · rcases f r hr with ⟨h1, h2⟩ | h1
    · exact n ⟨r, h1, h2.symm.trans e⟩
    · rw [e, h] at h1; cases h1
  · obtain ⟨o, e1, c⟩ := L.at_ r hr
    rw [e, h] at e1; cases e1; exact Cont.nt c
/-- new roles at free, different addresses -/
theorem Lay.injOf {T : Cs} {H : Hp} {S S' : Sh} {α α' : Rl → Addr} {δ : Dl} {J J' : List Str} {G : Jud} (L : Lay T H S α δ J G)
    (f : ∀ r, Live S' J' r → (Live S J r ∧ α' r = α r) ∨ (H (α' r) = none ∧ ∀ r', Live S' J' r' → H (α' r') = none → α' r = α' r' → r = r')) :
    ∀ r r', Live S' J' r → Live S' J' r' → α' r = α' r' → r = r' := fun r r' h h' e => by
  rcases f r h with ⟨h1, h2⟩ | ⟨h1, h2⟩
  · rcases f r' h' with ⟨g1, g2⟩ | ⟨g1, g2⟩
    · exact L.inj r r' h1 g1 (by rw [← h2, ← g2]; exact e)
    · obtain ⟨o, q⟩ := L.there h1
      rw [← h2, e, g1] at q; cases q
  · rcases f r' h' with ⟨g1, g2⟩ | ⟨g1, g2⟩
    · obtain ⟨o, q⟩ := L.there g1
      rw [← g2, ← e, h1] at q; cases q
    · exact h2 r' h' g1 e
theorem enc_key {κ β : Type} (f : κ → Key) (g : κ → V) (l : List (κ × β)) : enc f (fun k _ => g k) l = (l.map (·.1)).map fun k => (f k, g k) := by
  unfold enc; rw [List.map_map]; rfl
end
end Vs
/-! ## Lines of cells, in order of birth -/
namespace Vs
open PySem L2
/-- births rise -/
def Rise (l : List Cel) : Prop := l.Pairwise fun a b => a.1 < b.1
def cnt (l : List Cel) (m : Int) : Nat := (l.filter fun c => decide (c.1 ≤ m)).length
theorem cnt_split : ∀ {l : List Cel} {m : Int} {j : Nat}, j ≤ l.length → (∀ i c, l[i]? = some c → i < j → c.1 ≤ m) → (∀ i c, l[i]? = some c → j ≤ i → ¬ c.1 ≤ m) → cnt l m = j
  | [], m, j, h, _, _ => by simp at h; subst h; rfl
  | c :: l, m, 0, h, h1, h2 => by
    unfold cnt
    rw [List.filter_eq_nil_iff.mpr]
    · rfl
    · intro x hx
      obtain ⟨i, hi, e⟩ := List.getElem_of_mem hx
      have := h2 i x (by rw [← e]; exact List.getElem?_eq_getElem hi) (Nat.zero_le _)
      simpa using this
  | c :: l, m, j + 1, h, h1, h2 => by
    have hc := h1 0 c rfl (Nat.zero_lt_succ _)
    unfold cnt
    rw [List.filter_cons, if_pos (by simpa using hc), List.length_cons]
    congr 1
    exact cnt_split (l := l) (j := j) (by simpa using h) (fun i x e hi => h1 (i + 1) x e (by omega)) (fun i x e hi => h2 (i + 1) x e (by omega))
theorem Rise.get {l : List Cel} (r : Rise l) {i j : Nat} {a b : Cel} (ha : l[i]? = some a) (hb : l[j]? = some b) (h : i < j) : a.1 < b.1 := by
  obtain ⟨hi, ei⟩ := List.getElem?_eq_some_iff.mp ha
  obtain ⟨hj, ej⟩ := List.getElem?_eq_some_iff.mp hb
  have := (List.pairwise_iff_getElem.mp r) i j hi hj h
  rw [ei, ej] at this; exact this
theorem cnt_le (l : List Cel) (m : Int) : cnt l m ≤ l.length := List.length_filter_le _ _
/-- the first ones are those born no later -/
theorem filter_take : ∀ {l : List Cel} {m : Int}, Rise l → (l.filter fun c => decide (c.1 ≤ m)) = l.take (cnt l m)
  | [], _, _ => rfl
  | c :: l, m, r => by
    obtain ⟨h1, h2⟩ := List.pairwise_cons.mp r
    by_cases e : c.1 ≤ m
    · unfold cnt
      rw [List.filter_cons, if_pos (by simpa using e), List.length_cons, List.take_succ_cons]
      congr 1
      exact filter_take h2
    · have z : (c :: l).filter (fun c => decide (c.1 ≤ m)) = [] := by
        rw [List.filter_eq_nil_iff]
        intro x hx
        rcases List.mem_cons.mp hx with y | y
        · subst y; simpa using e
        · have := h1 x y
          simp; omega
      unfold cnt
      rw [z]; rfl
theorem newC_none {l : List Cel} {m : Int} : newC l m = none ↔ cnt l m = 0 := by
  unfold newC cnt
  rw [List.getLast?_eq_none_iff]
  exact ⟨fun h => by rw [h]; rfl, fun h => List.length_eq_zero_iff.mp h⟩
theorem newC_at {l : List Cel} {m : Int} (r : Rise l) {j : Nat} (h : cnt l m = j + 1) : ∃ c, l[j]? = some c ∧ newC l m = some c ∧ c.1 ≤ m := by
  have hl := cnt_le l m
  have hj : j < l.length := by omega
  refine ⟨l[j], List.getElem?_eq_getElem hj, ?_, ?_⟩
  · unfold newC
    rw [filter_take r, h, List.getLast?_eq_getElem?, List.getElem?_take, List.length_take]
    have : min (j + 1) l.length - 1 = j := by omega
    rw [this, if_pos (by omega), List.getElem?_eq_getElem hj]
  · have hm : l[j] ∈ l.filter fun c => decide (c.1 ≤ m) := by
      rw [filter_take r, h]
      exact List.mem_of_getElem? (i := j) (by rw [List.getElem?_take, if_pos (by omega), List.getElem?_eq_getElem hj])
    simpa using (List.mem_filter.mp hm).2
end Vs
/-! ## What holds of a shelf between two calls -/
namespace Vs
open PySem L2
def isLow (c : Nat) : Bool := decide (97 ≤ c ∧ c ≤ 122)
def IsKey (k : Str) : Prop := 1 ≤ k.length ∧ k.length ≤ 8 ∧ k.cps.toList.all isLow = true
/-- how much there is at most -/
structure Cap (c : Nat) (S : Sh) : Prop where
  h : S.hns.length ≤ c
  b : S.brs.length ≤ c
  l : ∀ n b k l, aget S.brs n = some b → aget b.lines k = some l → l.length ≤ c
theorem Cap.mono {c d : Nat} {S : Sh} (h : Cap c S) (e : c ≤ d) : Cap d S := ⟨Nat.le_trans h.h e, Nat.le_trans h.b e, fun n b k l h1 h2 => Nat.le_trans (h.l n b k l h1 h2) e⟩
structure WF (Ks : List Str) (S : Sh) : Prop where
  bks : (S.brs.map (·.1)).Pairwise (· < ·)
  b0 : ∃ b, aget S.brs 0 = some b
  root : ∀ n b, aget S.brs n = some b → (b.ben = none ↔ n = 0)
  ben : ∀ n b q, aget S.brs n = some b → b.ben = some q → q < n ∧ ∃ c, aget S.brs q = some c
  bnd : ∀ n b, aget S.brs n = some b → 0 ≤ n ∧ n < S.bm ∧ 0 ≤ b.mom ∧ b.mom ≤ S.now
  lks : ∀ n b, aget S.brs n = some b → (b.lines.map (·.1)).Nodup ∧ ∀ k ∈ b.lines.map (·.1), k ∈ Ks
  ln : ∀ n b k l, aget S.brs n = some b → aget b.lines k = some l → Rise l ∧ l ≠ [] ∧ ∀ c ∈ l, 1 ≤ c.1 ∧ c.1 ≤ S.now
  mks : ∀ n b, aget S.brs n = some b → (b.marks.map (·.1)).Nodup ∧ ∀ k ∈ b.marks.map (·.1), k ∈ Ks
  mkb : ∀ n b k m, aget S.brs n = some b → aget b.marks k = some m → 1 ≤ m ∧ m ≤ S.now
  hks : (S.hns.map (·.1)).Pairwise (· < ·)
  hn : ∀ n h, aget S.hns n = some h → 0 ≤ n ∧ n < S.hm ∧ (∃ b, aget S.brs h.br = some b) ∧ 0 ≤ h.mom ∧ h.mom ≤ S.now
  dks : ∀ n h, aget S.hns n = some h → (h.drafts.map (·.1)).Nodup ∧ ∀ k ∈ h.drafts.map (·.1), k ∈ Ks
  key : ∀ k ∈ Ks, IsKey k
  pool : Ks.length ≤ 60
  sz : 0 ≤ S.now ∧ S.now ≤ 10 ^ 18 ∧ S.bm ≤ 10 ^ 18 ∧ S.hm ≤ 10 ^ 18
  cap : Cap 1000 S
theorem nodup_of_lt {l : List Int} (h : l.Pairwise (· < ·)) : l.Nodup := h.imp fun z => by omega
/-- what one turn of the way down is -/
def under (bs : List (Int × Br)) (k : Str) (n m : Int) (down : Int → Int → Option Ver) : Option Ver := match newC (lineAt bs n k) m with
  | some c => some (n, c.1, c.2)
  | none => match aget bs n with
    | none => none
    | some b => match b.ben with
      | none => none
      | some q => down q b.mom
theorem reach_succ (bs : List (Int × Br)) (k : Str) (f : Nat) (n m : Int) : reach bs k (f + 1) n m = under bs k n m (reach bs k f) := by
  show (match newC (lineAt bs n k) m with | some c => some (n, c.1, c.2) | none => _) = _
  unfold under
  cases newC (lineAt bs n k) m with
  | some c => rfl
  | none =>
    dsimp only
    cases hb : aget bs n with
    | none => rfl
    | some b =>
      cases hq : b.ben <;> simp [hq]
theorem reach_fuel {Ks : List Str} {S : Sh} (W : WF Ks S) (k : Str) : ∀ (f g : Nat) (n m : Int), n.toNat < f → n.toNat < g → reach S.brs k f n m = reach S.brs k g n m
  | 0, _, _, _, h, _ => absurd h (Nat.not_lt_zero _)
  | _ + 1, 0, _, _, _, h => absurd h (Nat.not_lt_zero _)
  | f + 1, g + 1, n, m, hf, hg => by
    rw [reach_succ, reach_succ]
    unfold under
    cases newC (lineAt S.brs n k) m with
    | some c => rfl
    | none =>
      dsimp only
      cases hb : aget S.brs n with
      | none => rfl
      | some b =>
        dsimp only
        cases hq : b.ben with
        | none => rfl
        | some q =>
          have h1 := (W.ben n b q hb hq).1
          obtain ⟨c, hc⟩ := (W.ben n b q hb hq).2
          have h2 := (W.bnd q c hc).1
          exact reach_fuel W k f g q b.mom (by omega) (by omega)
/-- the document's point 5, one step -/
theorem reachS_eq {Ks : List Str} {S : Sh} (W : WF Ks S) (k : Str) (n m : Int) : reachS S.brs k n m = under S.brs k n m (reachS S.brs k) := by
  unfold reachS
  rw [reach_succ]
  unfold under
  cases newC (lineAt S.brs n k) m with
  | some c => rfl
  | none =>
    dsimp only
    cases hb : aget S.brs n with
    | none => rfl
    | some b =>
      dsimp only
      cases hq : b.ben with
      | none => rfl
      | some q =>
        have h1 := (W.ben n b q hb hq).1
        obtain ⟨c, hc⟩ := (W.ben n b q hb hq).2
        have h2 := (W.bnd q c hc).1
        exact reach_fuel W k _ _ q b.mom (by omega) (by omega)
theorem lineAt_of {bs : List (Int × Br)} {n : Int} {b : Br} (h : aget bs n = some b) (k : Str) : lineAt bs n k = b.line k := by unfold lineAt; rw [h]
theorem WF.rise {Ks : List Str} {S : Sh} (W : WF Ks S) {n : Int} {b : Br} (h : aget S.brs n = some b) (k : Str) : Rise (b.line k) := by
  unfold Br.line
  cases e : aget b.lines k with
  | none => exact List.Pairwise.nil
  | some l => exact (W.ln n b k l h e).1
/-- what a view sees -/
def seesM (S : Sh) (k : Str) (n m : Int) : Option Int := (reachS S.brs k n m).bind (·.2.2)
def belowS (S : Sh) (k : Str) (b : Br) : Option Ver := match b.ben with
  | none => none
  | some q => reachS S.brs k q b.mom
theorem reachS_of {Ks : List Str} {S : Sh} (W : WF Ks S) (k : Str) {n : Int} (m : Int) {b : Br} (h : aget S.brs n = some b) : reachS S.brs k n m = match newC (b.line k) m with
    | some c => some (n, c.1, c.2)
    | none => belowS S k b := by
  rw [reachS_eq W, under, lineAt_of h, h]
  rfl
/-! ### the kept ones beneath -/
def belowK1 (bs : List (Int × Br)) (k : Str) (ow : Int → Int → Option Own) (n : Int) (down : Int → Option Ver) : Option Ver := match aget bs n with
  | none => none
  | some b => match b.ben with
    | none => none
    | some q => match newC ((keepL k q (ow q) (down q) (lineAt bs q k)).map (·.1)) b.mom with
      | some c => some (q, c.1, c.2)
      | none => down q
theorem belowK_succ (bs : List (Int × Br)) (k : Str) (ow : Int → Int → Option Own) (f : Nat) (n : Int) : belowK bs k ow (f + 1) n = belowK1 bs k ow n (belowK bs k ow f) := by
  unfold belowK1
  show (match (aget bs n).bind (·.ben), aget bs n with | some q, some b => _ | _, _ => none) = _
  cases hb : aget bs n with
  | none => rfl
  | some b =>
    cases hq : b.ben <;> simp [hq] <;> rfl
theorem belowK_fuel {Ks : List Str} {S : Sh} (W : WF Ks S) (k : Str) (ow : Int → Int → Option Own) : ∀ (f g : Nat) (n : Int), n.toNat < f → n.toNat < g → belowK S.brs k ow f n = belowK S.brs k ow g n
  | 0, _, _, h, _ => absurd h (Nat.not_lt_zero _)
  | _ + 1, 0, _, _, h => absurd h (Nat.not_lt_zero _)
  | f + 1, g + 1, n, hf, hg => by
    rw [belowK_succ, belowK_succ]
    unfold belowK1
    cases hb : aget S.brs n with
    | none => rfl
    | some b =>
      dsimp only
      cases hq : b.ben with
      | none => rfl
      | some q =>
        have h1 := (W.ben n b q hb hq).1
        obtain ⟨c, hc⟩ := (W.ben n b q hb hq).2
        have h2 := (W.bnd q c hc).1
        dsimp only
        rw [belowK_fuel W k ow f g q (by omega) (by omega)]
def belowKS (bs : List (Int × Br)) (k : Str) (os : List ((Int × Int) × Own)) (n : Int) : Option Ver := belowK bs k (owOf os) (n.toNat + 1) n
theorem keptB_eq (bs : List (Int × Br)) (k : Str) (os : List ((Int × Int) × Own)) (n : Int) : keptB bs k os n = keepL k n (owOf os n) (belowKS bs k os n) (lineAt bs n k) := rfl
theorem belowKS_eq {Ks : List Str} {S : Sh} (W : WF Ks S) (k : Str) (os : List ((Int × Int) × Own)) {n : Int} {b : Br} (hb : aget S.brs n = some b) : belowKS S.brs k os n = match b.ben with
    | none => none
    | some q => match newC ((keptB S.brs k os q).map (·.1)) b.mom with
      | some c => some (q, c.1, c.2)
      | none => belowKS S.brs k os q := by
  show belowK _ _ _ _ _ = _
  rw [belowK_succ, belowK1, hb]
  dsimp only
  cases hq : b.ben with
  | none => rfl
  | some q =>
    have h1 := (W.ben n b q hb hq).1
    obtain ⟨c, hc⟩ := (W.ben n b q hb hq).2
    have h2 := (W.bnd q c hc).1
    dsimp only
    rw [belowK_fuel W k (owOf os) n.toNat (q.toNat + 1) q (by omega) (by omega)]
    rfl
end Vs
/-! ## Changes of a shelf that stands in the heap, one store at a time -/
namespace Vs
open PySem L2
section
variable {T : Cs} {H H' : Hp} {S S' : Sh} {α α' : Rl → Addr} {δ δ' : Dl} {J J' : List Str} {G G' : Jud}
/-- behind a change: how the shelf stands, and that nothing else was touched -/
def Mv (T : Cs) (H : Hp) (S : Sh) (α : Rl → Addr) (J : List Str) (H' : Hp) (S' : Sh) (α' : Rl → Addr) (δ' : Dl) (J' : List Str) (G' : Jud) : Prop := Lay T H' S' α' δ' J' G' ∧ Step H (Foot S α J) H' (Foot S' α' J')
theorem Lay.notup (L : Lay T H S α δ J G) {r : Rl} (hr : Live S J r) {a : Addr} {xs : List V} (h : H a = some (.tup xs)) : a ≠ α r := fun e => by
  obtain ⟨o, q, c⟩ := L.at_ r hr
  rw [← e, h] at q; cases q; exact Cont.notup c
theorem Lay.updTups (L : Lay T H S α δ J G) {r : Rl} (hr : Live S J r) (o : HO) : Tups H (upd H (α r) o) := fun a xs h => by rw [upd_ne (L.notup hr h)]; exact h
theorem newTups {p : Addr} (hp : H p = none) (o : HO) : Tups H (upd H p o) := fun a xs h => by rw [upd_ne (ne_of_none h hp)]; exact h
/-- a store into one part -/
theorem Lay.put (L : Lay T H S α δ J G) {r0 : Rl} (l0 : Live S J r0) {o' : HO} (c' : Cont T S' α δ J' G' (upd H (α r0) o') r0 o')
    (ho : ∀ r, r ≠ r0 → Live S' J' r → Live S J r ∧ ∀ o, Cont T S α δ J G H r o → Cont T S' α δ J' G' H r o) : Mv T H S α J (upd H (α r0) o') S' α δ J' G' := by
  have lv : ∀ r, Live S' J' r → Live S J r := fun r hr => by
    by_cases e : r = r0
    · rw [e]; exact l0
    · exact (ho r e hr).1
  refine ⟨L.move (L.updTups l0 o') (fun r hr => ?_) (fun r r' h h' e => L.inj r r' (lv r h) (lv r' h') e), L.step (fun a o h n => ?_) (L.updTups l0 o') fun r hr => .inl ⟨lv r hr, rfl⟩⟩
  · by_cases e : r = r0
    · subst e
      exact .inr ⟨o', upd_same, c'⟩
    · obtain ⟨h1, h2⟩ := ho r e hr
      exact .inl ⟨h1, rfl, upd_ne (L.ne h1 l0 e), h2⟩
  · rw [upd_ne (Ne.symm (n r0 l0))]; exact h
/-- numbers of the shelf itself -/
theorem Lay.setSh (L : Lay T H S α δ J G) (now bm hm : Int) : Mv T H S α J (upd H (α .sh) (.ins T.S (δ .sh) (fSh { S with now := now, bm := bm, hm := hm } α))) { S with now := now, bm := bm, hm := hm } α δ J G := by
  refine L.put (r0 := .sh) trivial rfl fun r hr hl => ?_
  cases r <;> first | exact absurd rfl hr | exact ⟨hl, fun _ c => c⟩
/-- a draft -/
theorem Lay.draft (L : Lay T H S α δ J G) {n : Int} {h : Hn} (e : aget S.hns n = some h) (k : Str) (v : Option Int) :
    Mv T H S α J (upd H (α (.dr n)) (.dK (putK (enc .inr (fun _ v => optV v) h.drafts) (.inr k) (optV v)))) { S with hns := aput S.hns n { h with drafts := aput h.drafts k v } } α δ J G := by
  rw [putK_enc (g' := fun _ v => optV v) inr_inj h.drafts k v (optV v) rfl (fun _ _ _ => rfl)]
  have e' : aget (aput S.hns n { h with drafts := aput h.drafts k v }) n = some { h with drafts := aput h.drafts k v } := aget_put_same _ _ _
  refine L.put (r0 := .dr n) ⟨h, e⟩ ⟨_, e', rfl⟩ fun r hr hl => ?_
  cases r with
  | hns =>
    refine ⟨trivial, fun o c => ?_⟩
    rw [show o = _ from c]
    show HO.dK _ = HO.dK _
    rw [enc_key, enc_key, keys_aput_old _ e]
  | hn m =>
    obtain ⟨h', z⟩ := hl
    by_cases q : m = n
    · subst q
      rw [e'] at z; cases z
      exact ⟨⟨h, e⟩, fun o ⟨h2, e2, c⟩ => by rw [e] at e2; cases e2; exact ⟨_, e', c⟩⟩
    · rw [aget_put_ne q] at z
      exact ⟨⟨h', z⟩, fun o ⟨h2, e2, c⟩ => ⟨h2, by rw [aget_put_ne q]; exact e2, c⟩⟩
  | dr m =>
    obtain ⟨h', z⟩ := hl
    have q : m ≠ n := fun q => hr (by rw [q])
    rw [aget_put_ne q] at z
    exact ⟨⟨h', z⟩, fun o ⟨h2, e2, c⟩ => ⟨h2, by rw [aget_put_ne q]; exact e2, c⟩⟩
  | sh => exact ⟨hl, fun _ c => c⟩
  | brs => exact ⟨hl, fun _ c => c⟩
  | jd => exact ⟨hl, fun _ c => c⟩
  | br m => exact ⟨hl, fun _ c => c⟩
  | lns m => exact ⟨hl, fun _ c => c⟩
  | mks m => exact ⟨hl, fun _ c => c⟩
  | ln m k => exact ⟨hl, fun _ c => c⟩
  | jg k => exact ⟨hl, fun _ c => c⟩
  | ow k => exact ⟨hl, fun _ c => c⟩
  | rs k => exact ⟨hl, fun _ c => c⟩
/-- a hand lets go -/
theorem Lay.delHand (L : Lay T H S α δ J G) (n : Int) :
    Mv T H S α J (upd H (α .hns) (.dK (dropK (enc .inl (fun n _ => .ref (α (.hn n))) S.hns) (.inl n)))) { S with hns := adel S.hns n } α δ J G := by
  rw [dropK_enc inl_inj]
  have old : ∀ m h, aget (adel S.hns n) m = some h → aget S.hns m = some h := fun m h z => by
    rw [aget_del] at z
    by_cases q : m = n
    · rw [if_pos q] at z; cases z
    · rw [if_neg q] at z; exact z
  refine L.put (r0 := .hns) trivial rfl fun r hr hl => ?_
  cases r with
  | hns => exact absurd rfl hr
  | hn m =>
    obtain ⟨h', z⟩ := hl
    exact ⟨⟨h', old m h' z⟩, fun o ⟨h2, e2, c⟩ => ⟨h', z, by rw [old m h' z] at e2; cases e2; exact c⟩⟩
  | dr m =>
    obtain ⟨h', z⟩ := hl
    exact ⟨⟨h', old m h' z⟩, fun o ⟨h2, e2, c⟩ => ⟨h', z, by rw [old m h' z] at e2; cases e2; exact c⟩⟩
  | sh => exact ⟨hl, fun _ c => c⟩
  | brs => exact ⟨hl, fun _ c => c⟩
  | jd => exact ⟨hl, fun _ c => c⟩
  | br m => exact ⟨hl, fun _ c => c⟩
  | lns m => exact ⟨hl, fun _ c => c⟩
  | mks m => exact ⟨hl, fun _ c => c⟩
  | ln m k => exact ⟨hl, fun _ c => c⟩
  | jg k => exact ⟨hl, fun _ c => c⟩
  | ow k => exact ⟨hl, fun _ c => c⟩
  | rs k => exact ⟨hl, fun _ c => c⟩
/-- the judgements are void: a new empty dict -/
def aJd (α : Rl → Addr) (j : Addr) : Rl → Addr
  | .jd => j
  | r => α r
theorem Lay.void (L : Lay T H S α δ J G) {j : Addr} (hj : H j = none) :
    Mv T H S α J (upd (upd H j (.dK [])) (α .sh) (.ins T.S (δ .sh) (fSh S (aJd α j)))) S (aJd α j) δ [] G := by
  have nj : ∀ r, Live S J r → α r ≠ j := fun r hr => L.nofr hj hr
  have tp : Tups H (upd (upd H j (.dK [])) (α .sh) (.ins T.S (δ .sh) (fSh S (aJd α j)))) := fun a xs h => by
    rw [upd_ne (L.notup (r := .sh) trivial h), upd_ne (ne_of_none h hj)]; exact h
  have lv : ∀ r, Live S [] r → Live S J r := fun r hr => by cases r <;> first | exact hr | cases hr
  have old : ∀ r, Live S [] r → r ≠ .jd → aJd α j r = α r := fun r _ n => by cases r <;> first | rfl | exact absurd rfl n
  refine ⟨L.move tp (fun r hr => ?_) (L.injOf fun r hr => ?_), L.step (fun a o h n => ?_) tp fun r hr => ?_⟩
  · by_cases e1 : r = .jd
    · subst e1
      exact .inr ⟨_, by show upd _ _ _ j = _; rw [upd_ne (Ne.symm (nj .sh trivial)), upd_same]; rfl, rfl⟩
    · by_cases e2 : r = .sh
      · subst e2
        exact .inr ⟨_, upd_same, rfl⟩
      · refine .inl ⟨lv r hr, old r hr e1, ?_, fun o c => ?_⟩
        · rw [upd_ne (L.ne (r' := .sh) (lv r hr) trivial e2), upd_ne (nj r (lv r hr))]
        · cases r <;> first | exact absurd rfl e1 | exact absurd rfl e2 | exact c | cases hr
  · by_cases e1 : r = .jd
    · subst e1
      refine .inr ⟨hj, fun r' hr' h0 _ => ?_⟩
      by_cases e3 : r' = .jd
      · exact e3.symm
      · rw [old r' hr' e3] at h0
        obtain ⟨o, q⟩ := L.there (lv r' hr')
        rw [q] at h0; cases h0
    · exact .inl ⟨lv r hr, old r hr e1⟩
  · rw [upd_ne (Ne.symm (n .sh trivial)), upd_ne (ne_of_none h hj)]; exact h
  · by_cases e1 : r = .jd
    · subst e1; exact .inr hj
    · exact .inl ⟨lv r hr, old r hr e1⟩
/-- a new hand -/
def aHn (α : Rl → Addr) (n : Int) (x d : Addr) : Rl → Addr
  | .hn m => if m = n then x else α (.hn m)
  | .dr m => if m = n then d else α (.dr m)
  | r => α r
theorem Lay.newHand (L : Lay T H S α δ J G) {n br mom : Int} (hn : aget S.hns n = none) {x dx d : Addr} (hx : H x = none) (hd : H d = none) (nxd : x ≠ d) {H1 : Hp}
    (k1 : ∀ b o, H b = some o → H1 b = some o) (h1 : H1 x = some (.ins T.N dx [("branch", .int br), ("moment", .int mom), ("drafts", .ref d)])) (h2 : H1 d = some (.dK [])) :
    Mv T H S α J (upd H1 (α .hns) (.dK (putK (enc .inl (fun n _ => .ref (α (.hn n))) S.hns) (.inl n) (.ref x)))) { S with hns := S.hns ++ [(n, ⟨br, mom, []⟩)] } (aHn α n x d) ⟨fun r => if r = .hn n then dx else δ r, δ.fz⟩ J G := by
  have nf : ∀ r p, Live S J r → H p = none → α r ≠ p := fun r p hr hp => L.nofr hp hr
  have tp : Tups H (upd H1 (α .hns) (.dK (putK (enc .inl (fun n _ => .ref (α (.hn n))) S.hns) (.inl n) (.ref x)))) := fun a xs h => by
    rw [upd_ne (L.notup (r := .hns) trivial h)]; exact k1 _ _ h
  have got : ∀ m h, aget (S.hns ++ [(n, (⟨br, mom, []⟩ : Hn))]) m = some h → (m = n ∧ h = ⟨br, mom, []⟩) ∨ (m ≠ n ∧ aget S.hns m = some h) := fun m h z => by
    rw [aget_append, aget_cons, aget_nil] at z
    by_cases q : m = n
    · subst q
      rw [hn] at z
      simp at z
      exact .inl ⟨rfl, z.symm⟩
    · rw [if_neg (fun y => q y.symm)] at z
      refine .inr ⟨q, ?_⟩
      cases w : aget S.hns m with
      | none => rw [w] at z; cases z
      | some y => rw [w] at z; exact z
  have new : aget (S.hns ++ [(n, (⟨br, mom, []⟩ : Hn))]) n = some ⟨br, mom, []⟩ := by rw [← aput_new _ hn]; exact aget_put_same _ _ _
  have keep : ∀ m h, m ≠ n → aget S.hns m = some h → aget (S.hns ++ [(n, (⟨br, mom, []⟩ : Hn))]) m = some h := fun m h q z => by rw [← aput_new _ hn, aget_put_ne q]; exact z
  -- each role: a new one, or an old one at its place
  have cl : ∀ r, Live { S with hns := S.hns ++ [(n, ⟨br, mom, []⟩)] } J r → (r = .hn n ∨ r = .dr n) ∨ (Live S J r ∧ aHn α n x d r = α r) := fun r hr => by
    cases r with
    | hn m =>
      obtain ⟨h, z⟩ := hr
      rcases got m h z with ⟨q, _⟩ | ⟨q, z'⟩
      · exact .inl (.inl (by rw [q]))
      · exact .inr ⟨⟨h, z'⟩, if_neg q⟩
    | dr m =>
      obtain ⟨h, z⟩ := hr
      rcases got m h z with ⟨q, _⟩ | ⟨q, z'⟩
      · exact .inl (.inr (by rw [q]))
      · exact .inr ⟨⟨h, z'⟩, if_neg q⟩
    | sh => exact .inr ⟨hr, rfl⟩
    | brs => exact .inr ⟨hr, rfl⟩
    | hns => exact .inr ⟨hr, rfl⟩
    | jd => exact .inr ⟨hr, rfl⟩
    | br m => exact .inr ⟨hr, rfl⟩
    | lns m => exact .inr ⟨hr, rfl⟩
    | mks m => exact .inr ⟨hr, rfl⟩
    | ln m k => exact .inr ⟨hr, rfl⟩
    | jg k => exact .inr ⟨hr, rfl⟩
    | ow k => exact .inr ⟨hr, rfl⟩
    | rs k => exact .inr ⟨hr, rfl⟩
  have ex : aHn α n x d (.hn n) = x := if_pos rfl
  have ed : aHn α n x d (.dr n) = d := if_pos rfl
  refine ⟨L.move tp (fun r hr => ?_) (L.injOf fun r hr => ?_), L.step (fun a o h nn => ?_) tp fun r hr => ?_⟩
  · rcases cl r hr with (e | e) | ⟨h0, e⟩
    · subst e
      refine .inr ⟨.ins T.N dx [("branch", .int br), ("moment", .int mom), ("drafts", .ref d)], by rw [ex, upd_ne (Ne.symm (nf .hns x trivial hx))]; exact h1, ⟨_, new, ?_⟩⟩
      show HO.ins _ _ _ = HO.ins _ _ (fHn n _ _)
      unfold fHn
      rw [ed]
      simp
    · subst e
      exact .inr ⟨_, by rw [ed, upd_ne (Ne.symm (nf .hns d trivial hd))]; exact h2, ⟨_, new, rfl⟩⟩
    · by_cases eh : r = .hns
      · subst eh
        refine .inr ⟨_, upd_same, ?_⟩
        show HO.dK _ = HO.dK _
        rw [putK_enc (g' := fun m _ => .ref (aHn α n x d (.hn m))) inl_inj S.hns n ⟨br, mom, []⟩ (.ref x) (by rw [ex]) (fun p _ hp => by show V.ref (if p.1 = n then _ else _) = _; rw [if_neg hp]), aput_new _ hn]
      · refine .inl ⟨h0, e, ?_, fun o c => ?_⟩
        · obtain ⟨o, q⟩ := L.there h0
          rw [upd_ne (L.ne (r' := .hns) h0 trivial eh), q]; exact k1 _ _ q
        · cases r with
          | hns => exact absurd rfl eh
          | hn m =>
            obtain ⟨h, z, c⟩ := c
            have q : m ≠ n := fun q => by rw [q, hn] at z; cases z
            refine ⟨h, keep m h q z, ?_⟩
            rw [c]
            show HO.ins _ _ (fHn m h α) = HO.ins _ (if Rl.hn m = Rl.hn n then dx else δ (.hn m)) (fHn m h (aHn α n x d))
            rw [if_neg (fun y => q (Rl.hn.inj y))]
            unfold fHn
            show _ = HO.ins _ _ [_, _, (_, V.ref (if m = n then d else α (.dr m)))]
            rw [if_neg q]
          | dr m =>
            obtain ⟨h, z, c⟩ := c
            have q : m ≠ n := fun q => by rw [q, hn] at z; cases z
            exact ⟨h, keep m h q z, c⟩
          | sh => exact c
          | brs => exact c
          | jd => exact c
          | br m => exact c
          | lns m => exact c
          | mks m => exact c
          | ln m k => exact c
          | jg k => exact c
          | ow k => exact c
          | rs k => exact c
  · rcases cl r hr with (e | e) | h0
    · subst e
      refine .inr ⟨by rw [ex]; exact hx, fun r' hr' z e' => ?_⟩
      rcases cl r' hr' with (e2 | e2) | ⟨h2, e2⟩
      · exact e2.symm
      · rw [e2, ex, ed] at e'; exact absurd e' nxd
      · obtain ⟨o, q⟩ := L.there h2
        rw [e2, q] at z; cases z
    · subst e
      refine .inr ⟨by rw [ed]; exact hd, fun r' hr' z e' => ?_⟩
      rcases cl r' hr' with (e2 | e2) | ⟨h2, e2⟩
      · rw [e2, ex, ed] at e'; exact absurd e'.symm nxd
      · exact e2.symm
      · obtain ⟨o, q⟩ := L.there h2
        rw [e2, q] at z; cases z
    · exact .inl h0
  · rw [upd_ne (Ne.symm (nn .hns trivial))]; exact k1 _ _ h
  · rcases cl r hr with (e | e) | h0
    · subst e; exact .inr (by rw [ex]; exact hx)
    · subst e; exact .inr (by rw [ed]; exact hd)
    · exact .inl h0
end
end Vs
/-! ## Texts in order -/
namespace Vs
open PySem L2 PyProof.Rows
def leS (a b : Str) : Bool := decide (a.cps.toList ≤ b.cps.toList)
theorem leS_trans (a b c : Str) (h : leS a b = true) (h' : leS b c = true) : leS a c = true := by
  unfold leS at *
  simp only [decide_eq_true_eq] at *
  exact List.le_trans h h'
theorem leS_total (a b : Str) : (leS a b || leS b a) = true := by
  unfold leS
  rcases List.le_total a.cps.toList b.cps.toList with h | h
  · simp [h]
  · simp [h]
theorem leS_anti {a b : Str} (h : leS a b = true) (h' : leS b a = true) : a = b := by
  unfold leS at *
  simp only [decide_eq_true_eq] at *
  have e := List.le_antisymm h h'
  cases a; cases b
  simp only [Array.toList_inj] at e
  rw [e]
def sortK (l : List Str) : List Str := l.mergeSort leS
theorem sortK_perm (l : List Str) : (sortK l).Perm l := List.mergeSort_perm _ _
theorem sortK_pw (l : List Str) : (sortK l).Pairwise fun a b => leS a b = true := List.pairwise_mergeSort leS_trans leS_total l
theorem mem_sortK {l : List Str} {k : Str} : k ∈ sortK l ↔ k ∈ l := (sortK_perm l).mem_iff
theorem pw_unique {l : List Str} : ∀ {m : List Str}, l.Pairwise (fun a b => leS a b = true) → m.Pairwise (fun a b => leS a b = true) → l.Perm m → l = m := by
  induction l with
  | nil => intro m _ _ p; exact (List.nil_perm.mp p).symm
  | cons a l ih =>
    intro m h1 h2 p
    cases m with
    | nil => exact absurd p.length_eq (by simp)
    | cons b m =>
      obtain ⟨p1, q1⟩ := List.pairwise_cons.mp h1
      obtain ⟨p2, q2⟩ := List.pairwise_cons.mp h2
      have e : a = b := by
        have ha : a ∈ b :: m := p.mem_iff.mp List.mem_cons_self
        have hb : b ∈ a :: l := p.mem_iff.mpr List.mem_cons_self
        rcases List.mem_cons.mp ha with z | z
        · exact z
        · rcases List.mem_cons.mp hb with y | y
          · exact y.symm
          · exact leS_anti (p1 b y) (p2 a z)
      subst e
      rw [ih q1 q2 (List.Perm.cons_inv p)]
theorem sortK_eq {l ys : List Str} (p : ys.Perm l) (h : ys.Pairwise fun a b => leS a b = true) : ys = sortK l := pw_unique h (sortK_pw l) (p.trans (sortK_perm l).symm)
theorem rising_pw : ∀ (x : Str) (r : List Str), risingS x r = true → (x :: r).Pairwise fun a b => leS a b = true
  | x, [], _ => List.pairwise_singleton _ _
  | x, y :: r, h => by
    have h0 : (!Spec.ltCps y.cps.toList x.cps.toList && risingS y r) = true := h
    rw [Bool.and_eq_true] at h0
    have ih := rising_pw y r h0.2
    have hxy : leS x y = true := by
      have h1 := h0.1
      rw [ltCps_eq] at h1
      unfold leS
      have h2 : ¬ y.cps.toList < x.cps.toList := by simpa using h1
      exact decide_eq_true (List.not_lt.mp h2)
    refine List.pairwise_cons.mpr ⟨fun z hz => ?_, ih⟩
    rcases List.mem_cons.mp hz with e | e
    · rw [e]; exact hxy
    · exact leS_trans _ _ _ hxy ((List.pairwise_cons.mp ih).1 z e)
theorem sortedS_pw : ∀ {l : List Str}, sortedS l = true → l.Pairwise fun a b => leS a b = true
  | [], _ => List.Pairwise.nil
  | x :: r, h => rising_pw x r h
theorem sortedS_eq {l ys : List Str} (p : ys.Perm l) (h : sortedS ys = true) : ys = sortK l := sortK_eq p (sortedS_pw h)
theorem sortK_length (l : List Str) : (sortK l).length = l.length := (sortK_perm l).length_eq
theorem sortK_nodup {l : List Str} (h : l.Nodup) : (sortK l).Nodup := (sortK_perm l).symm.nodup h
end Vs
/-! ## sorted(d), the keys of d whole numbers that rise already, however many -/
namespace Vs
open PySem PySem.Spec PyProof.Rows L2
theorem ints_unique : ∀ {l m : List Int}, l.Pairwise (· ≤ ·) → m.Pairwise (· < ·) → l.Perm m → l = m
  | [], m, _, _, p => (List.nil_perm.mp p).symm
  | a :: l, [], _, _, p => absurd p.length_eq (by simp)
  | a :: l, b :: m, h1, h2, p => by
    obtain ⟨p1, q1⟩ := List.pairwise_cons.mp h1
    obtain ⟨p2, q2⟩ := List.pairwise_cons.mp h2
    have e : a = b := by
      have ha : a ∈ b :: m := p.mem_iff.mp List.mem_cons_self
      have hb : b ∈ a :: l := p.mem_iff.mpr List.mem_cons_self
      rcases List.mem_cons.mp ha with z | z
      · exact z
      · rcases List.mem_cons.mp hb with y | y
        · exact y.symm
        · have := p1 b y; have := p2 a z; omega
    subst e
    rw [ints_unique q1 q2 (List.Perm.cons_inv p)]
section
variable {X : Cx}
theorem cr_dI (calm : X.calm = true) : CallR X (.builtin "sorted") (fun vs H Q => ∃ (d : Addr) (kvs : List (Key × V)) (ks : List Int), vs = [.ref d] ∧ Rd H d (.dK kvs) ∧ kvs.map (·.1) = ks.map Sum.inl ∧ ks.Pairwise (· < ·) ∧
    ∀ p, H p = none → Q (.ref p) (upd H p (.lst (ks.map V.int)))) := by
  intro pins z σ H vs us Q I rel pre
  obtain ⟨d, kvs, ks, rfl, rd, keys, rise, post⟩ := pre
  obtain ⟨u, eu, ru⟩ := vals1 rel
  subst eu; cases ru
  obtain ⟨size, low, ws, kv, dict⟩ := dk_rd I.hok rd
  obtain ⟨ep, raw⟩ := dict.dictAt
  have wk : ws.map (·.1) = ks.map Sum.inl := kv.keys.symm.trans keys
  have wl : ws.length = ks.length := by
    have e := congrArg List.length wk
    simpa using e
  have kl : ks.length ≤ sizeLine := by
    have e := congrArg List.length keys
    rw [List.length_map, List.length_map] at e
    omega
  refine Calls.call_function_entry kind_sorted plain_sorted entry_sorted (args_sorted1 _) ?_
  unfold Builtin.«sorted»
  refine wpAny_bind (m := checkCount "sorted" 1 1 _) (wpAny_pure ?_)
  refine wpAny_bind (PySem.W.kdu_collect (A := X.A.in1) (PySem.W.kdl_dict (knd := mixKind X.prog X.w) (kvs := ws) (ep := ep) low) (I.ok.hd calm) raw (by omega) fun g tk acc keep got => ?_)
  have al : acc.toList.length = ks.length := by rw [Array.length_toList, got.1, wl]
  have ia : IntsAre acc.toList ks := ints_each al fun j v e => by
    obtain ⟨k, x, e1, e2⟩ := got.2 j v (by rw [← Array.getElem?_toList]; exact e)
    have e3 : (ws.map (·.1))[j]? = some k := by rw [List.getElem?_map, e1]; rfl
    rw [wk, List.getElem?_map] at e3
    cases e4 : ks[j]? with
    | none => rw [e4] at e3; cases e3
    | some y =>
      rw [e4] at e3
      obtain rfl : Sum.inl y = k := Option.some.inj e3
      rcases keyIs_shape (show keyIs (Sum.inl y) v = true from e2) with ⟨i, t, ek, ev⟩ | ⟨i, t, ek, ev⟩
      · cases ek; exact ⟨y, t, rfl, ev⟩
      · cases ek
  have J : Inv X pins σ H { z with heap := g, toks := tk } := I.kept keep
  refine wpAny_bind (wpAny_newList ?_ (by rw [al]; exact kl))
  have at0 : (g.push (seqObj "list" acc.toList.toArray 0)).get? g.objs.size = some (seqObj "list" acc.toList.toArray 0) := Heap.get?_push_size _ rfl
  show wpAny _ _ _ _ _ { z with heap := g.push (seqObj "list" acc.toList.toArray 0), toks := tk }
  refine wpAny_bind (wpAny_holding (wpAny_call_entry slot_list_sort ⟨_, at0, rfl⟩ entry_list_sort
    (SrtO.list_sort_ord (s := { z with heap := g.push (seqObj "list" acc.toList.toArray 0), toks := tk }) SrtO.swo_int at0 (by rw [al]; exact kl) (fun two => SrtO.ints_sortable ia two) fun out o1 o2 => ⟨_, rfl, ?_⟩) (args_list_sort _)))
  obtain ⟨i1, i2, i3⟩ := SrtO.ints_out ia o1 o2
  have io : out.map SrtO.iv = ks := ints_unique i3 rise i2
  obtain ⟨ep', at1⟩ := sortedHeap_at (vs := acc.toList) (out := out.toArray) at0
  rw [io] at i1
  refine wpAny_pure ⟨_, rfl, .ref g.objs.size, upd H g.objs.size (.lst (ks.map V.int)), J.laid (t' := tk) (fun b o e => ?_) (Nat.le_refl _)
    (show ObjOk X.prog X.w _ _ _ (.lst (ks.map V.int)) from ⟨by rw [List.length_map]; exact kl, out, ep', vals_of_ints i1, at1⟩), rfl, post _ (J.hok.fresh (Nat.le_refl _))⟩
  have lt : b < g.objs.size := Heap.lt_size e
  rw [sortedHeap_old (Nat.ne_of_lt lt) (by rw [size_push']; exact Nat.lt_succ_of_lt lt)]
  exact Heap.get?_push_of_some _ e
end
end Vs
/-! ## Changes of a branch -/
namespace Vs
open PySem L2
section
variable {T : Cs} {H H' : Hp} {S S' : Sh} {α α' : Rl → Addr} {δ δ' : Dl} {J J' : List Str} {G G' : Jud}
def Sh.setBr (S : Sh) (n : Int) (b : Br) : Sh := { S with brs := aput S.brs n b }
theorem setBr_get (S : Sh) (n : Int) (b : Br) (m : Int) : aget (S.setBr n b).brs m = if m = n then some b else aget S.brs m := aget_put _ _ _ _
/-- what a change of branch n leaves of all roles but its own parts -/
theorem Lay.putBr (L : Lay T H S α δ J G) {n : Int} {b b' : Br} (hb : aget S.brs n = some b) {r0 : Rl} (l0 : Live S J r0) {o' : HO} (c' : Cont T (S.setBr n b') α δ J G (upd H (α r0) o') r0 o')
    (hbr : fBr n b' α = fBr n b α ∨ r0 = .br n) (hlns : enc Sum.inr (fun k _ => V.ref (α (.ln n k))) b'.lines = enc Sum.inr (fun k _ => V.ref (α (.ln n k))) b.lines ∨ r0 = .lns n)
    (hmks : b'.marks = b.marks ∨ r0 = .mks n) (hln : ∀ k l', aget b'.lines k = some l' → r0 = .ln n k ∨ aget b.lines k = some l') : Mv T H S α J (upd H (α r0) o') (S.setBr n b') α δ J G := by
  have at_n : aget (S.setBr n b').brs n = some b' := by rw [setBr_get, if_pos rfl]
  have off : ∀ m, m ≠ n → aget (S.setBr n b').brs m = aget S.brs m := fun m q => by rw [setBr_get, if_neg q]
  refine L.put l0 c' fun r hr hl => ?_
  cases r with
  | sh => exact ⟨hl, fun _ c => c⟩
  | hns => exact ⟨hl, fun _ c => c⟩
  | jd => exact ⟨hl, fun _ c => c⟩
  | hn m => exact ⟨hl, fun _ c => c⟩
  | dr m => exact ⟨hl, fun _ c => c⟩
  | jg k => exact ⟨hl, fun _ c => c⟩
  | ow k => exact ⟨hl, fun _ c => c⟩
  | rs k => exact ⟨hl, fun _ c => c⟩
  | brs =>
    refine ⟨trivial, fun o c => ?_⟩
    rw [show o = _ from c]
    show HO.dK _ = HO.dK (enc _ _ (aput S.brs n b'))
    rw [enc_key, enc_key, keys_aput_old _ hb]
  | br m =>
    by_cases q : m = n
    · subst q
      refine ⟨⟨b, hb⟩, fun o ⟨x, e, c⟩ => ⟨b', at_n, ?_⟩⟩
      rw [hb] at e; cases e
      rcases hbr with z | z
      · rw [c, z]
      · exact absurd z.symm hr
    · obtain ⟨x, e⟩ := hl
      rw [off m q] at e
      exact ⟨⟨x, e⟩, fun o ⟨y, e', c⟩ => ⟨y, by rw [off m q]; exact e', c⟩⟩
  | lns m =>
    by_cases q : m = n
    · subst q
      refine ⟨⟨b, hb⟩, fun o ⟨x, e, c⟩ => ⟨b', at_n, ?_⟩⟩
      rw [hb] at e; cases e
      rcases hlns with z | z
      · rw [c, z]
      · exact absurd z.symm hr
    · obtain ⟨x, e⟩ := hl
      rw [off m q] at e
      exact ⟨⟨x, e⟩, fun o ⟨y, e', c⟩ => ⟨y, by rw [off m q]; exact e', c⟩⟩
  | mks m =>
    by_cases q : m = n
    · subst q
      refine ⟨⟨b, hb⟩, fun o ⟨x, e, c⟩ => ⟨b', at_n, ?_⟩⟩
      rw [hb] at e; cases e
      rcases hmks with z | z
      · rw [c, z]
      · exact absurd z.symm hr
    · obtain ⟨x, e⟩ := hl
      rw [off m q] at e
      exact ⟨⟨x, e⟩, fun o ⟨y, e', c⟩ => ⟨y, by rw [off m q]; exact e', c⟩⟩
  | ln m k =>
    obtain ⟨x, l, e, el⟩ := hl
    by_cases q : m = n
    · subst q
      rw [at_n] at e; cases e
      rcases hln k l el with z | z
      · exact absurd z.symm hr
      · refine ⟨⟨b, l, hb, z⟩, fun o ⟨y, l2, rs, e2, e3, c1, c2⟩ => ⟨b', l, rs, at_n, el, c1, ?_⟩⟩
        rw [hb] at e2; cases e2; rw [z] at e3; cases e3; exact c2
    · rw [off m q] at e
      exact ⟨⟨x, l, e, el⟩, fun o ⟨y, l2, rs, e2, e3, c⟩ => ⟨y, l2, rs, by rw [off m q]; exact e2, e3, c⟩⟩
/-- a line has other cells -/
theorem Lay.setLine (L : Lay T H S α δ J G) {n : Int} {b : Br} (hb : aget S.brs n = some b) {k : Str} {l l' : List Cel} (hk : aget b.lines k = some l) {rs : List V} (hc : Cels H rs l') :
    Mv T H S α J (upd H (α (.ln n k)) (.lst rs)) (S.setBr n { b with lines := aput b.lines k l' }) α δ J G := by
  refine L.putBr hb (r0 := .ln n k) ⟨b, l, hb, hk⟩ ⟨_, l', rs, by rw [setBr_get, if_pos rfl], aget_put_same _ _ _, rfl, hc.tups (L.updTups (r := .ln n k) ⟨b, l, hb, hk⟩ _)⟩ (.inl rfl) (.inl ?_) (.inl rfl) fun k' l2 e => ?_
  · show enc _ _ (aput b.lines k l') = _
    rw [enc_key, enc_key, keys_aput_old _ hk]
  · by_cases q : k' = k
    · exact .inl (by rw [q])
    · rw [show aget (aput b.lines k l') k' = _ from aget_put_ne q] at e
      exact .inr e
/-- other marks, in the same dict -/
theorem Lay.setMarks (L : Lay T H S α δ J G) {n : Int} {b : Br} (hb : aget S.brs n = some b) (ms : List (Str × Int)) :
    Mv T H S α J (upd H (α (.mks n)) (.dK (enc .inr (fun _ m => .int m) ms))) (S.setBr n { b with marks := ms }) α δ J G :=
  L.putBr hb (r0 := .mks n) ⟨b, hb⟩ ⟨_, by rw [setBr_get, if_pos rfl], rfl⟩ (.inl rfl) (.inl rfl) (.inr rfl) fun k l e => .inr e
/-- dropped -/
theorem Lay.setAlive (L : Lay T H S α δ J G) {n : Int} {b : Br} (hb : aget S.brs n = some b) (x : Bool) :
    Mv T H S α J (upd H (α (.br n)) (.ins T.B (δ (.br n)) (fBr n { b with alive := x } α))) (S.setBr n { b with alive := x }) α δ J G :=
  L.putBr hb (r0 := .br n) ⟨b, hb⟩ ⟨_, by rw [setBr_get, if_pos rfl], rfl⟩ (.inr rfl) (.inl rfl) (.inl rfl) fun k l e => .inr e
/-- a line less -/
theorem Lay.delLine (L : Lay T H S α δ J G) {n : Int} {b : Br} (hb : aget S.brs n = some b) (hf : δ.fz n = none) (k : Str) :
    Mv T H S α J (upd H (α (.lns n)) (.dK (dropK (enc .inr (fun k _ => .ref (α (.ln n k))) b.lines) (.inr k)))) (S.setBr n { b with lines := adel b.lines k }) α δ J G := by
  rw [dropK_enc inr_inj]
  refine L.putBr hb (r0 := .lns n) ⟨b, hb⟩ ⟨_, by rw [setBr_get, if_pos rfl], by rw [hf]; rfl⟩ (.inl rfl) (.inr rfl) (.inl rfl) fun k' l e => .inr ?_
  rw [show aget (adel b.lines k) k' = _ from aget_del _ _ _] at e
  by_cases q : k' = k
  · rw [if_pos q] at e; cases e
  · rw [if_neg q] at e; exact e
/-- a new, empty line -/
def aLn (α : Rl → Addr) (n : Int) (k : Str) (z : Addr) : Rl → Addr
  | .ln m j => if m = n ∧ j = k then z else α (.ln m j)
  | r => α r
theorem Lay.newLine (L : Lay T H S α δ J G) {n : Int} {b : Br} (hb : aget S.brs n = some b) (hf : δ.fz n = none) {k : Str} (hk : aget b.lines k = none) {z : Addr} (hz : H z = none) {H1 : Hp} (k1 : ∀ b o, H b = some o → H1 b = some o) (h1 : H1 z = some (.lst [])) :
    Mv T H S α J (upd H1 (α (.lns n)) (.dK (putK (enc .inr (fun k _ => .ref (α (.ln n k))) b.lines) (.inr k) (.ref z)))) (S.setBr n { b with lines := b.lines ++ [(k, [])] }) (aLn α n k z) δ J G := by
  have at_n : aget (S.setBr n { b with lines := b.lines ++ [(k, [])] }).brs n = some { b with lines := b.lines ++ [(k, [])] } := by rw [setBr_get, if_pos rfl]
  have off : ∀ m, m ≠ n → aget (S.setBr n { b with lines := b.lines ++ [(k, [])] }).brs m = aget S.brs m := fun m q => by rw [setBr_get, if_neg q]
  have new : aget (b.lines ++ [(k, ([] : List Cel))]) k = some [] := by rw [← aput_new _ hk]; exact aget_put_same _ _ _
  have old : ∀ j, j ≠ k → aget (b.lines ++ [(k, ([] : List Cel))]) j = aget b.lines j := fun j q => by rw [← aput_new _ hk]; exact aget_put_ne q
  have llns : Live S J (.lns n) := ⟨b, hb⟩
  have tp : Tups H (upd H1 (α (.lns n)) (.dK (putK (enc .inr (fun k _ => .ref (α (.ln n k))) b.lines) (.inr k) (.ref z)))) := fun a xs h => by
    rw [upd_ne (L.notup llns h)]; exact k1 _ _ h
  have ez : aLn α n k z (.ln n k) = z := if_pos ⟨rfl, rfl⟩
  have cl : ∀ r, Live (S.setBr n { b with lines := b.lines ++ [(k, [])] }) J r → r = .ln n k ∨ (Live S J r ∧ aLn α n k z r = α r) := fun r hr => by
    cases r with
    | ln m j =>
      by_cases q : m = n ∧ j = k
      · exact .inl (by rw [q.1, q.2])
      · obtain ⟨x, l, e, el⟩ := hr
        refine .inr ⟨?_, if_neg q⟩
        by_cases qm : m = n
        · subst qm
          rw [at_n] at e; cases e
          have qj : j ≠ k := fun y => q ⟨rfl, y⟩
          rw [show aget (b.lines ++ [(k, [])]) j = _ from old j qj] at el
          exact ⟨b, l, hb, el⟩
        · rw [off m qm] at e; exact ⟨x, l, e, el⟩
    | sh => exact .inr ⟨hr, rfl⟩
    | brs => exact .inr ⟨hr, rfl⟩
    | hns => exact .inr ⟨hr, rfl⟩
    | jd => exact .inr ⟨hr, rfl⟩
    | hn m => exact .inr ⟨hr, rfl⟩
    | dr m => exact .inr ⟨hr, rfl⟩
    | jg k => exact .inr ⟨hr, rfl⟩
    | ow k => exact .inr ⟨hr, rfl⟩
    | rs k => exact .inr ⟨hr, rfl⟩
    | br m =>
      obtain ⟨x, e⟩ := hr
      by_cases qm : m = n
      · subst qm; exact .inr ⟨⟨b, hb⟩, rfl⟩
      · rw [off m qm] at e; exact .inr ⟨⟨x, e⟩, rfl⟩
    | lns m =>
      obtain ⟨x, e⟩ := hr
      by_cases qm : m = n
      · subst qm; exact .inr ⟨⟨b, hb⟩, rfl⟩
      · rw [off m qm] at e; exact .inr ⟨⟨x, e⟩, rfl⟩
    | mks m =>
      obtain ⟨x, e⟩ := hr
      by_cases qm : m = n
      · subst qm; exact .inr ⟨⟨b, hb⟩, rfl⟩
      · rw [off m qm] at e; exact .inr ⟨⟨x, e⟩, rfl⟩
  refine ⟨L.move tp (fun r hr => ?_) (L.injOf fun r hr => ?_), L.step (fun a o h nn => ?_) tp fun r hr => ?_⟩
  · rcases cl r hr with e | ⟨h0, e⟩
    · subst e
      exact .inr ⟨_, by rw [ez, upd_ne (Ne.symm (L.nofr hz llns))]; exact h1, ⟨_, [], [], at_n, new, rfl, .nil⟩⟩
    · by_cases er : r = .lns n
      · subst er
        refine .inr ⟨_, upd_same, ⟨_, at_n, ?_⟩⟩
        rw [hf]
        show HO.dK _ = HO.dK (enc _ _ (b.lines ++ [(k, [])]))
        rw [putK_enc (g' := fun j _ => .ref (aLn α n k z (.ln n j))) inr_inj b.lines k [] (.ref z) (by rw [ez]) (fun p _ hp => by show V.ref (if n = n ∧ p.1 = k then _ else _) = _; rw [if_neg (fun y => hp y.2)]), aput_new _ hk]
      · refine .inl ⟨h0, e, ?_, fun o c => ?_⟩
        · obtain ⟨o, q⟩ := L.there h0
          rw [upd_ne (L.ne h0 llns er), q]; exact k1 _ _ q
        · cases r with
          | sh => exact c
          | hns => exact c
          | jd => exact c
          | hn m => exact c
          | dr m => exact c
          | jg k => exact c
          | ow k => exact c
          | rs k => exact c
          | brs =>
            rw [show o = _ from c]
            show HO.dK _ = HO.dK (enc _ _ (aput S.brs n _))
            rw [enc_key, enc_key, keys_aput_old _ hb]; rfl
          | br m =>
            obtain ⟨x, ex, c⟩ := c
            by_cases qm : m = n
            · subst qm; rw [hb] at ex; cases ex; exact ⟨_, at_n, c⟩
            · exact ⟨x, by rw [off m qm]; exact ex, c⟩
          | mks m =>
            obtain ⟨x, ex, c⟩ := c
            by_cases qm : m = n
            · subst qm; rw [hb] at ex; cases ex; exact ⟨_, at_n, c⟩
            · exact ⟨x, by rw [off m qm]; exact ex, c⟩
          | lns m =>
            obtain ⟨x, ex, c⟩ := c
            have qm : m ≠ n := fun y => er (by rw [y])
            refine ⟨x, by rw [off m qm]; exact ex, ?_⟩
            rw [c]
            show thw (δ.fz m) (HO.dK _) = thw (δ.fz m) (HO.dK _)
            congr 2
            exact enc_congr fun p _ => by show _ = V.ref (if m = n ∧ p.1 = k then _ else _); rw [if_neg (fun y => qm y.1)]
          | ln m j =>
            obtain ⟨x, l, rs, ex, el, c⟩ := c
            by_cases qm : m = n
            · subst qm
              rw [hb] at ex; cases ex
              have qj : j ≠ k := fun y => by rw [y, hk] at el; cases el
              exact ⟨_, l, rs, at_n, (old j qj).trans el, c⟩
            · exact ⟨x, l, rs, by rw [off m qm]; exact ex, el, c⟩
  · rcases cl r hr with e | h0
    · subst e
      refine .inr ⟨by rw [ez]; exact hz, fun r' hr' y e' => ?_⟩
      rcases cl r' hr' with e2 | ⟨h2, e2⟩
      · exact e2.symm
      · obtain ⟨o, q⟩ := L.there h2
        rw [e2, q] at y; cases y
    · exact .inl h0
  · rw [upd_ne (Ne.symm (nn (.lns n) llns))]; exact k1 _ _ h
  · rcases cl r hr with e | h0
    · subst e; exact .inr (by rw [ez]; exact hz)
    · exact .inl h0
end
end Vs
/-! ## What the judgements hang on; what drafts change -/
namespace Vs
open PySem L2
theorem ownersM_same {S S' : Sh} (hb : S'.brs = S.brs) (hv : viewsM S' = viewsM S) (k : Str) : ownersM S' k = ownersM S k := by
  unfold ownersM; rw [hv, hb]
theorem reasonsM_same {S S' : Sh} (hb : S'.brs = S.brs) (hv : viewsM S' = viewsM S) (k : Str) : reasonsM S' k = reasonsM S k := by
  unfold reasonsM; rw [ownersM_same hb hv, hb]
theorem Right.same {S S' : Sh} {J : List Str} {G : Jud} (h : Right S J G) (hb : S'.brs = S.brs) (hv : viewsM S' = viewsM S) : Right S' J G := fun k hk => by
  rw [h k hk, ownersM_same hb hv, reasonsM_same hb hv]
theorem RightJ.same {S S' : Sh} {J : List Str} {G : Jud} (h : RightJ S J G) (hb : S'.brs = S.brs) (hv : viewsM S' = viewsM S) : RightJ S' J G := ⟨h.rt.same hb hv, h.nd, fun k hk => by rw [hb]; exact h.ink k hk⟩
theorem map_aput {κ β γ : Type} [DecidableEq κ] {l : List (κ × β)} {k : κ} {x y : β} {f : κ × β → γ} (hn : (l.map (·.1)).Nodup) (e : aget l k = some y) (hf : f (k, x) = f (k, y)) : (aput l k x).map f = l.map f := by
  unfold aput
  rw [e, if_pos (by rfl), List.map_map]
  apply List.map_congr_left
  intro p hp
  simp only [Function.comp]
  by_cases q : p.1 = k
  · rw [if_pos q]
    have : aget l k = some p.2 := aget_of_mem hn (by rw [← q]; exact hp)
    rw [e] at this
    cases this
    have q' := q.symm
    subst q'
    exact hf
  · rw [if_neg q]
def Sh.write (S : Sh) (n : Int) (h : Hn) (k : Str) (v : Option Int) : Sh := { S with hns := aput S.hns n { h with drafts := aput h.drafts k v } }
theorem viewsM_write {Ks : List Str} {S : Sh} (W : WF Ks S) {n : Int} {h : Hn} (e : aget S.hns n = some h) (k : Str) (v : Option Int) : viewsM (S.write n h k v) = viewsM S := by
  unfold viewsM
  congr 1
  exact map_aput (nodup_of_lt W.hks) e rfl
theorem nodup_aput {κ β : Type} [DecidableEq κ] {l : List (κ × β)} {k : κ} {x : β} (hn : (l.map (·.1)).Nodup) : ((aput l k x).map (·.1)).Nodup := by
  cases e : aget l k with
  | some y => rw [keys_aput_old x e]; exact hn
  | none =>
    rw [aput_new x e, List.map_append]
    refine nd_snoc hn fun z => ?_
    obtain ⟨y, hy⟩ := aget_of_key z
    rw [e] at hy; cases hy
theorem mem_keys_aput {κ β : Type} [DecidableEq κ] {l : List (κ × β)} {k j : κ} {x : β} (h : j ∈ (aput l k x).map (·.1)) : j = k ∨ j ∈ l.map (·.1) := by
  cases e : aget l k with
  | some y => rw [keys_aput_old x e] at h; exact .inr h
  | none =>
    rw [aput_new x e, List.map_append] at h
    rcases List.mem_append.mp h with z | z
    · exact .inr z
    · exact .inl (by simpa using z)
theorem WF.write {Ks : List Str} {S : Sh} (W : WF Ks S) {n : Int} {h : Hn} (e : aget S.hns n = some h) {k : Str} (hk : k ∈ Ks) (v : Option Int) : WF Ks (S.write n h k v) where
  bks := W.bks
  b0 := W.b0
  root := W.root
  ben := W.ben
  bnd := W.bnd
  lks := W.lks
  ln := W.ln
  mks := W.mks
  mkb := W.mkb
  hks := by show ((aput S.hns n _).map (·.1)).Pairwise _; rw [keys_aput_old _ e]; exact W.hks
  hn := fun m x z => by
    have z : aget (aput S.hns n _) m = some x := z
    rw [aget_put] at z
    by_cases q : m = n
    · rw [if_pos q] at z; cases z; subst q; exact W.hn m h e
    · rw [if_neg q] at z; exact W.hn m x z
  dks := fun m x z => by
    have z : aget (aput S.hns n _) m = some x := z
    rw [aget_put] at z
    by_cases q : m = n
    · rw [if_pos q] at z; cases z
      refine ⟨nodup_aput (W.dks n h e).1, fun j hj => ?_⟩
      rcases mem_keys_aput hj with y | y
      · rw [y]; exact hk
      · exact (W.dks n h e).2 j y
    · rw [if_neg q] at z; exact W.dks m x z
  key := W.key
  pool := W.pool
  sz := W.sz
  cap := ⟨by rw [show (S.write n h k v).hns = aput S.hns n _ from rfl, ← List.length_map (f := (·.1)), keys_aput_old _ e, List.length_map]; exact W.cap.h, W.cap.b, W.cap.l⟩
theorem len_le_pool {l Ks : List Str} (hn : l.Nodup) (hs : ∀ k ∈ l, k ∈ Ks) : l.length ≤ Ks.length := by
  induction l generalizing Ks with
  | nil => exact Nat.zero_le _
  | cons a l ih =>
    obtain ⟨h1, h2⟩ := List.nodup_cons.mp hn
    have ha := hs a List.mem_cons_self
    have := ih (Ks := Ks.erase a) h2 fun k hk => (List.mem_erase_of_ne (fun z => h1 (by rw [← z]; exact hk))).mpr (hs k (List.mem_cons_of_mem _ hk))
    rw [List.length_erase_of_mem ha] at this
    have : 0 < Ks.length := List.length_pos_of_mem ha
    rw [List.length_cons]; omega
end Vs
namespace Vs
open PySem L2
theorem aput_old {κ β : Type} [DecidableEq κ] {l : List (κ × β)} {k : κ} {y : β} (x : β) (h : aget l k = some y) : aput l k x = l.map (fun p => if p.1 = k then (p.1, x) else p) := by
  unfold aput; rw [h]; rfl
theorem aput_aput {κ β : Type} [DecidableEq κ] (l : List (κ × β)) (k : κ) (x y : β) : aput (aput l k x) k y = aput l k y := by
  rw [aput_old y (aget_put_same l k x)]
  cases h : aget l k with
  | some z =>
    rw [aput_old x h, aput_old y h, List.map_map]
    apply List.map_congr_left
    intro p _
    simp only [Function.comp]
    by_cases q : p.1 = k
    · simp [q]
    · simp [q]
  | none =>
    rw [aput_new x h, aput_new y h, List.map_append]
    congr 1
    · rw [List.map_congr_left (g := id), List.map_id]
      intro p hp
      rw [if_neg]; rfl
      intro q
      obtain ⟨z, hz⟩ := aget_of_key (l := l) (k := k) (by rw [← q]; exact List.mem_map.mpr ⟨p, hp, rfl⟩)
      rw [h] at hz; cases hz
    · simp
theorem setBr_setBr (S : Sh) (n : Int) (b c : Br) : (S.setBr n b).setBr n c = S.setBr n c := by
  unfold Sh.setBr
  rw [show ({ S with brs := aput S.brs n b } : Sh).brs = aput S.brs n b from rfl, aput_aput]
/-- one draft becomes a version -/
def addC (now : Int) (h : Hn) (b : Br) (k : Str) : Br := { b with lines := aput b.lines k (b.line k ++ [(now, (aget h.drafts k).getD none)]), marks := aput b.marks k now }
def addS (q : Int) (h : Hn) (S : Sh) (k : Str) : Sh := match aget S.brs q with
  | none => S
  | some b => S.setBr q (addC S.now h b k)
def Sh.settle (S : Sh) (q : Int) (h : Hn) : Sh := (sortK (h.drafts.map (·.1))).foldl (addS q h) { S with now := S.now + 1 }
def clashM (b : Br) (h : Hn) : Option Str := (sortK (h.drafts.map (·.1))).find? fun k => decide (h.mom < (aget b.marks k).getD 0)
section
variable {T : Cs} {H : Hp} {S : Sh} {α : Rl → Addr} {δ : Dl} {J : List Str} {G : Jud}
/-- the way of an append: a cell more in the line at α -/
theorem Lay.addCell (L : Lay T H S α δ J G) {n : Int} {b : Br} (hb : aget S.brs n = some b) {k : Str} {l : List Cel} (hk : aget b.lines k = some l) {t : Addr} {c : Cel} (ht : H t = some (.tup [.int c.1, optV c.2])) :
    ∃ rs, H (α (.ln n k)) = some (.lst rs) ∧ rs.length = l.length ∧ Mv T H S α J (upd H (α (.ln n k)) (.lst (rs ++ [.ref t]))) (S.setBr n { b with lines := aput b.lines k (l ++ [c]) }) α δ J G := by
  obtain ⟨rs, h1, h2⟩ := L.ln hb hk
  exact ⟨rs, h1, Paired.length h2, L.setLine hb hk (Paired.snoc h2 ⟨t, rfl, ht⟩)⟩
end
end Vs
/-! ## d.setdefault(t, x), the keys of d tuples -/
namespace Vs
open PySem PySem.Spec PyProof.Rows L2
def tSetdT (td ty tx : TE) : TE := fun σ H Q => td σ H fun x H1 => ∃ a, x = .ref a ∧ IsD H1 a ∧ ty σ H1 fun y H2 => tx σ H2 fun z H3 => ∃ (kvs : List (List Key × V)) (k : List Key) (b : Addr), H3 a = some (.dT kvs) ∧ y = .ref b ∧ H3 b = some (.tup (k.map kV)) ∧
  kvs.length < sizeLine ∧ (∀ v, valV kvs k = some v → Q v H3) ∧ (valV kvs k = none → Q z (upd H3 a (.dT (putK kvs k z))))
section
variable {X : Cx}
theorem setd_tup {pins : List (Addr × Obj)} {σ : L2.St} {H : Hp} {z : Shared} {a b : Addr} {r : Value} {d : V} {k : List Key} {A : Around} {E : Value → Shared → Prop} {kvs : List (List Key × V)} {Q : Value → Shared → Prop} (hu : A.units + 1 < cLine) (I : Inv X pins σ H z)
    (at_ : H a = some (.dT kvs)) (key : H b = some (.tup (k.map kV))) (rd : RelV d r) (small : kvs.length < sizeLine) (there : ∀ v, valV kvs k = some v → ∀ (u : Value) (y : Shared), Inv X pins σ H y → RelV v u → Q u y)
    (gone : valV kvs k = none → ∀ (u : Value) (y : Shared), Inv X pins σ (upd H a (.dT (putK kvs k d))) y → RelV d u → Q u y) : wpAny (model X.prog X.w) A (call (.builtin "dict.setdefault") [.ref a, .ref b, r]) Q E z := by
  obtain ⟨size, low, xs, rel, dict⟩ := dt_of I.hok at_
  have val := rel.val k
  refine call_setdefault_heap (hsz := by rw [← Paired.length rel]; exact size) (tupleKind_room_in1 hu) (key_of I.hok key) low dict (fun p hp => ?_) fun hn h' new same => ?_
  · rw [hp] at val
    cases q : valV kvs k with
    | none => rw [q] at val; exact (show False from val).elim
    | some v => rw [q] at val; exact there v q _ _ (I.tok _) val
  · rw [hn] at val
    cases q : valV kvs k with
    | some v => rw [q] at val; exact (show False from val).elim
    | none =>
      have len : (putK kvs k d).length ≤ sizeLine := by rw [putK_new d q, List.length_append]; exact small
      obtain ⟨o, es, ep, e1, e2, e3, e4, e5, e6⟩ := new
      refine gone q _ _ (d_write I (by rw [at_]; exact True.intro) same ⟨o, e1⟩ ⟨len, low, _, (rel.put k key rd).keeps fun c ys ec => ?_, o, es, ep, e1, e2, e3, e4, e6⟩) rd
      rw [upd_ne (ne_of ec at_ (by intro y; cases y))]; exact ec
theorem pe_setdT {o e f : Expr} {td ty tx : TE} {apos cpos : Pos} (hu : X.A.units + 1 < cLine) (ho : PE X o td) (he : PE X e ty) (hf : PE X f tx) (m : M2 X o "setdefault" apos e f cpos) : PE X (.Call (.Attribute o "setdefault" apos) [e, f] [] cpos) (tSetdT td ty tx) := by
  constructor
  intro pins z σ H Q I pre
  refine wpAny_Call_method m.base m.few m.line PySem.F.plainAttrs_dict PySem.F.slot_dict_setdefault PySem.F.type_dict_setdefault (thn (ho.run pins z σ H _ I pre) fun u z1 ⟨x, H1, I1, rx, a, ex, d, q1⟩ => ?_)
  subst ex
  obtain rfl : u = Value.ref a := rx
  obtain ⟨t1, t2, _⟩ := isD_at I1 d
  refine ⟨t1, t2, ?_⟩
  rw [m.trees]
  refine Calls.callWith_builtin rfl (Calls.evalArgs_plain (Calls.spliced_cons (thn (he.run pins z1 σ H1 _ I1 q1) fun v z2 ⟨y, H2, I2, ry, q2⟩ =>
    Calls.spliced_cons (thn (hf.run pins z2 σ H2 _ I2 q2) fun u z3 ⟨r, H3, I3, rr, kvs, k, b, ea, ey, eb, small, q3, q4⟩ => Calls.spliced_nil ?_))))
  subst ey
  cases (show v = Value.ref b from ry)
  exact setd_tup hu I3 ea eb rr small (fun g hg w' z4 I4 r4 => ⟨g, _, I4, r4, q3 g hg⟩) fun hg w' z4 I4 r4 => ⟨r, _, I4, r4, q4 hg⟩
end
end Vs
/-! ## The kept cells of a line, cell by cell -/
namespace Vs
open PySem L2
def lastB (n : Int) (be : Option Ver) (l : List (Cel × Rsn)) : Option Ver := match l.getLast? with
  | none => be
  | some c => some (n, c.1.1, c.1.2)
theorem keepL_snoc (k : Str) (n : Int) (ow : Int → Option Own) : ∀ (l : List Cel) (be : Option Ver) (c : Cel), keepL k n ow be (l ++ [c]) = keepL k n ow be l ++ (match reasonM k c.2 (ow c.1) (lastB n be (keepL k n ow be l)) with
    | none => []
    | some y => [(c, y)])
  | [], be, c => by
    show keepL k n ow be [c] = _
    unfold keepL
    show (match reasonM k c.2 (ow c.1) be with | none => _ | some y => _) = _
    cases h : reasonM k c.2 (ow c.1) be with
    | none => simp [keepL, lastB, h]
    | some y => simp [keepL, lastB, h]
  | a :: l, be, c => by
    show keepL k n ow be (a :: (l ++ [c])) = _
    unfold keepL
    cases h : reasonM k a.2 (ow a.1) be with
    | none =>
      dsimp only
      exact keepL_snoc k n ow l be c
    | some y =>
      dsimp only
      rw [keepL_snoc k n ow l (some (n, a.1, a.2)) c, List.cons_append]
      congr 2
      have e : lastB n be ((a, y) :: keepL k n ow (some (n, a.1, a.2)) l) = lastB n (some (n, a.1, a.2)) (keepL k n ow (some (n, a.1, a.2)) l) := by
        unfold lastB
        rw [List.getLast?_cons]
        cases (keepL k n ow (some (n, a.1, a.2)) l).getLast? with
        | none => rfl
        | some z => rfl
      rw [e]
theorem keepL_sub (k : Str) (n : Int) (ow : Int → Option Own) : ∀ (l : List Cel) (be : Option Ver), ((keepL k n ow be l).map (·.1)).Sublist l
  | [], _ => List.Sublist.slnil
  | a :: l, be => by
    unfold keepL
    cases reasonM k a.2 (ow a.1) be with
    | none => exact (keepL_sub k n ow l be).cons a
    | some y => exact (keepL_sub k n ow l (some (n, a.1, a.2))).cons₂ a
theorem rise_sub {l m : List Cel} (h : l.Sublist m) (r : Rise m) : Rise l := List.Pairwise.sublist h r
theorem lineAt_rise {Ks : List Str} {S : Sh} (W : WF Ks S) (n : Int) (k : Str) : Rise (lineAt S.brs n k) := by
  unfold lineAt
  cases e : aget S.brs n with
  | none => exact List.Pairwise.nil
  | some b => exact W.rise e k
theorem kept_rise {Ks : List Str} {S : Sh} (W : WF Ks S) (k : Str) (os : List ((Int × Int) × Own)) (n : Int) : Rise ((keptB S.brs k os n).map (·.1)) :=
  rise_sub (keepL_sub k n _ _ _) (lineAt_rise W n k)
theorem kept_len {Ks : List Str} {S : Sh} (W : WF Ks S) (k : Str) (n : Int) (ow : Int → Option Own) (be : Option Ver) (j : Nat) {b : Br} (hb : aget S.brs n = some b) : (keepL k n ow be ((b.line k).take j)).length ≤ 1000 := by
  have h1 := (keepL_sub k n ow ((b.line k).take j) be).length_le
  rw [List.length_map, List.length_take] at h1
  unfold Br.line at h1
  cases e : aget b.lines k with
  | none => rw [e] at h1; simp at h1; unfold Br.line; rw [e]; simp [keepL]
  | some l =>
    rw [e] at h1
    have := W.cap.l n b k l hb e
    have h2 : (keepL k n ow be ((b.line k).take j)).length ≤ min j l.length := by
      unfold Br.line; rw [e]; exact h1
    omega
def rowsR (n : Int) (l : List (Cel × Rsn)) : List ((Int × Int) × Rsn) := l.map fun c => ((n, c.1.1), c.2)
def reasonsTo (bs : List (Int × Br)) (k : Str) (os : List ((Int × Int) × Own)) (i : Nat) : List ((Int × Int) × Rsn) := (bs.take i).flatMap fun p => rowsR p.1 (keptB bs k os p.1)
theorem reasonsTo_all (bs : List (Int × Br)) (k : Str) (os : List ((Int × Int) × Own)) : reasonsTo bs k os bs.length = reasonsO bs k os := by
  unfold reasonsTo; rw [List.take_length]; rfl
theorem reasonsTo_succ {bs : List (Int × Br)} {k : Str} {os : List ((Int × Int) × Own)} {i : Nat} {n : Int} {b : Br} (h : bs[i]? = some (n, b)) : reasonsTo bs k os (i + 1) = reasonsTo bs k os i ++ rowsR n (keptB bs k os n) := by
  unfold reasonsTo; rw [List.take_add_one, h, List.flatMap_append]; simp
/-- such a row is not there yet -/
theorem row_new {Ks : List Str} {S : Sh} (W : WF Ks S) {k : Str} {os : List ((Int × Int) × Own)} {i j : Nat} {n : Int} {b : Br} {be : Option Ver} {ow : Int → Option Own} {c : Cel} (hi : S.brs[i]? = some (n, b)) (hb : aget S.brs n = some b) (hc : (b.line k)[j]? = some c) :
    aget (reasonsTo S.brs k os i ++ rowsR n (keepL k n ow be ((b.line k).take j))) (n, c.1) = none := by
  refine aget_none_of fun hm => ?_
  rw [List.map_append] at hm
  rcases List.mem_append.mp hm with z | z
  · obtain ⟨p, hp, ep⟩ := List.mem_map.mp z
    unfold reasonsTo at hp
    obtain ⟨q, hq, hp⟩ := List.mem_flatMap.mp hp
    obtain ⟨x, hx, rfl⟩ := List.mem_map.mp hp
    have en : q.1 = n := congrArg Prod.fst ep
    obtain ⟨j', hj', ej⟩ := List.getElem_of_mem hq
    rw [List.length_take] at hj'
    rw [List.getElem_take] at ej
    have pw := List.pairwise_iff_getElem.mp W.bks
    obtain ⟨hi', ei⟩ := List.getElem?_eq_some_iff.mp hi
    have := pw j' i (by simp; omega) (by simpa using hi') (by omega)
    simp only [List.getElem_map, ej, ei] at this
    omega
  · obtain ⟨p, hp, ep⟩ := List.mem_map.mp z
    obtain ⟨x, hx, rfl⟩ := List.mem_map.mp hp
    have e1 : x.1.1 = c.1 := congrArg Prod.snd ep
    have hm : x.1 ∈ (b.line k).take j := (keepL_sub k n ow _ be).subset (List.mem_map.mpr ⟨x, hx, rfl⟩)
    obtain ⟨j', hj', ej⟩ := List.getElem_of_mem hm
    rw [List.length_take] at hj'
    rw [List.getElem_take] at ej
    have := (W.rise hb k).get (i := j') (j := j) (a := x.1) (b := c) (by rw [List.getElem?_eq_getElem (by omega), ej]) hc (by omega)
    omega
theorem reasonsTo_len {Ks : List Str} {S : Sh} (W : WF Ks S) (k : Str) (os : List ((Int × Int) × Own)) (i : Nat) : (reasonsTo S.brs k os i).length ≤ i * 1000 := by
  induction i with
  | zero => simp [reasonsTo]
  | succ i ih =>
    cases h : S.brs[i]? with
    | none =>
      have : reasonsTo S.brs k os (i + 1) = reasonsTo S.brs k os i := by unfold reasonsTo; rw [List.take_add_one, h]; simp
      rw [this]; omega
    | some p =>
      rw [reasonsTo_succ (n := p.1) (b := p.2) h, List.length_append]
      have hb : aget S.brs p.1 = some p.2 := aget_of_mem (nodup_of_lt W.bks) (List.mem_of_getElem? h)
      have := kept_len W k p.1 (owOf os p.1) (belowKS S.brs k os p.1) (p.2.line k).length hb
      rw [List.take_length] at this
      have e : (rowsR p.1 (keptB S.brs k os p.1)).length = (keepL k p.1 (owOf os p.1) (belowKS S.brs k os p.1) (p.2.line k)).length := by
        unfold rowsR; rw [List.length_map, keptB_eq, lineAt_of hb]
      omega
end Vs
/-! ## A judgement more -/
namespace Vs
open PySem L2
section
variable {T : Cs} {H H1 : Hp} {S S' : Sh} {α α' : Rl → Addr} {δ δ' : Dl} {J J' : List Str} {G G' : Jud}
theorem valJ (J : List Str) (g : Str → V) (k : Str) : valV (J.map fun j => ((Sum.inr j : Key), g j)) (.inr k) = if k ∈ J then some (g k) else none := by
  induction J with
  | nil => rfl
  | cons j J ih =>
    rw [List.map_cons]
    by_cases e : j = k
    · subst e
      rw [valV_pos rfl, if_pos List.mem_cons_self]
    · rw [valV_neg (fun z => e (Sum.inr.inj z)), ih]
      by_cases m : k ∈ J
      · rw [if_pos m, if_pos (List.mem_cons_of_mem _ m)]
      · rw [if_neg m, if_neg (fun z => (List.mem_cons.mp z).elim (fun y => e y.symm) m)]
theorem Lay.gJd (L : Lay T H S α δ J G) (k : Str) : DGet H (α .jd) (.str k) (if k ∈ J then some (.ref (α (.jg k))) else none) := by
  rw [← valJ J (fun k => .ref (α (.jg k))) k]; exact DGet.k (k := Sum.inr k) L.jd
theorem Lay.stepS (L : Lay T H S α δ J G) (s : Sm H H1) {r0 : Rl} (l0 : Live S J r0) (o : HO) (f : ∀ r, Live S' J' r → (Live S J r ∧ α' r = α r) ∨ H (α' r) = none) : Step H (Foot S α J) (upd H1 (α r0) o) (Foot S' α' J') := by
  obtain ⟨o0, e0, c0⟩ := L.at_ r0 l0
  have n0 : NT o0 := fun ps z => Cont.nt (z ▸ c0)
  have e1 := s.keep _ _ e0 n0
  refine ⟨fun a x h t n => ⟨?_, fun ⟨r, hr, e⟩ => ?_⟩, fun P hP => ?_, fun a xs h => ?_⟩
  · rw [upd_ne (fun z => n ⟨r0, l0, z.symm⟩)]; exact s.keep a x h t
  · rcases f r hr with ⟨h1, h2⟩ | h1
    · exact n ⟨r, h1, h2.symm.trans e⟩
    · rw [e, h] at h1; cases h1
  · obtain ⟨ps, e, t⟩ := s.tab P hP
    exact ⟨ps, by rw [upd_ne (ne_of e e1 (fun z => n0 ps z.symm))]; exact e, t⟩
  · rw [upd_ne (L.notup l0 h)]; exact s.tups _ _ h
def aJg (α : Rl → Addr) (k : Str) (x po pr : Addr) : Rl → Addr
  | .jg j => if j = k then x else α (.jg j)
  | .ow j => if j = k then po else α (.ow j)
  | .rs j => if j = k then pr else α (.rs j)
  | r => α r
def OffJg (α α' : Rl → Addr) : Prop := ∀ r, (∀ k, r ≠ .jg k ∧ r ≠ .ow k ∧ r ≠ .rs k) → α' r = α r
theorem Lay.newJg (L : Lay T H S α δ J G) {k : Str} (hk : k ∉ J) {x dx po pr : Addr} (hx : H x = none) (hpo : H po = none) (hpr : H pr = none) (n1 : x ≠ po) (n2 : x ≠ pr) (n3 : po ≠ pr) (s : Sm H H1)
    (h1 : H1 x = some (.ins T.J dx [("owners", .ref po), ("reasons", .ref pr)])) {eo er : List (List Key × V)} {o1 : List ((Int × Int) × Own)} {r1 : List ((Int × Int) × Rsn)} (h2 : H1 po = some (.dT eo)) (h2' : OwRep H1 eo o1) (h3 : H1 pr = some (.dT er)) (h3' : RsRep H1 er r1) :
    Mv T H S α J (upd H1 (α .jd) (.dK (putK (J.map fun k => (.inr k, .ref (α (.jg k)))) (.inr k) (.ref x)))) S (aJg α k x po pr) ⟨fun r => if r = .jg k then dx else δ r, δ.fz⟩ (J ++ [k]) (fun j => if j = k then (o1, r1) else G j) := by
  have jd1 := s.dK L.jd
  have tp : Tups H1 (upd H1 (α .jd) (.dK (putK (J.map fun k => (.inr k, .ref (α (.jg k)))) (.inr k) (.ref x)))) := fun a xs h => by rw [upd_ne (ne_of h jd1 (by intro z; cases z))]; exact h
  have ex : aJg α k x po pr (.jg k) = x := if_pos rfl
  have eo' : aJg α k x po pr (.ow k) = po := if_pos rfl
  have er' : aJg α k x po pr (.rs k) = pr := if_pos rfl
  have mem : ∀ j, j ∈ J ++ [k] → j = k ∨ (j ∈ J ∧ j ≠ k) := fun j h => by
    rcases List.mem_append.mp h with z | z
    · exact .inr ⟨z, fun y => hk (y ▸ z)⟩
    · exact .inl (by simpa using z)
  have cl : ∀ r, Live S (J ++ [k]) r → (r = .jg k ∨ r = .ow k ∨ r = .rs k) ∨ (Live S J r ∧ aJg α k x po pr r = α r) := fun r hr => by
    cases r with
    | jg j =>
      rcases mem j hr with z | ⟨z, y⟩
      · exact .inl (.inl (by rw [z]))
      · exact .inr ⟨z, if_neg y⟩
    | ow j =>
      rcases mem j hr with z | ⟨z, y⟩
      · exact .inl (.inr (.inl (by rw [z])))
      · exact .inr ⟨z, if_neg y⟩
    | rs j =>
      rcases mem j hr with z | ⟨z, y⟩
      · exact .inl (.inr (.inr (by rw [z])))
      · exact .inr ⟨z, if_neg y⟩
    | sh => exact .inr ⟨hr, rfl⟩
    | brs => exact .inr ⟨hr, rfl⟩
    | hns => exact .inr ⟨hr, rfl⟩
    | jd => exact .inr ⟨hr, rfl⟩
    | br m => exact .inr ⟨hr, rfl⟩
    | lns m => exact .inr ⟨hr, rfl⟩
    | mks m => exact .inr ⟨hr, rfl⟩
    | ln m j => exact .inr ⟨hr, rfl⟩
    | hn m => exact .inr ⟨hr, rfl⟩
    | dr m => exact .inr ⟨hr, rfl⟩
  have kin : k ∈ J ++ [k] := List.mem_append.mpr (.inr (by simp))
  have at1 : ∀ {a : Addr} {o : HO}, H1 a = some o → H a = none → upd H1 (α .jd) (.dK (putK (J.map fun k => (.inr k, .ref (α (.jg k)))) (.inr k) (.ref x))) a = some o := fun {a o} e z => by
    rw [upd_ne (Ne.symm (L.nofr z (r := .jd) trivial))]; exact e
  have fr : ∀ r, Live S (J ++ [k]) r → (Live S J r ∧ aJg α k x po pr r = α r) ∨ H (aJg α k x po pr r) = none := fun r hr => by
    rcases cl r hr with (z | z | z) | z
    · subst z; exact .inr (by rw [ex]; exact hx)
    · subst z; exact .inr (by rw [eo']; exact hpo)
    · subst z; exact .inr (by rw [er']; exact hpr)
    · exact .inl z
  refine ⟨L.move (s.tups.trans tp) (fun r hr => ?_) (L.injOf fun r hr => ?_), L.stepS s (r0 := .jd) trivial _ fr⟩
  · rcases cl r hr with (z | z | z) | ⟨h0, e⟩
    · subst z
      refine .inr ⟨_, by rw [ex]; exact at1 h1 hx, kin, ?_⟩
      show _ = HO.ins _ (if Rl.jg k = Rl.jg k then dx else δ (.jg k)) (fJg k _)
      rw [if_pos rfl]
      unfold fJg
      rw [eo', er']
    · subst z
      refine .inr ⟨_, by rw [eo']; exact at1 h2 hpo, kin, eo, rfl, ?_⟩
      dsimp only
      rw [if_pos rfl]
      exact OwRep.tups tp h2'
    · subst z
      refine .inr ⟨_, by rw [er']; exact at1 h3 hpr, kin, er, rfl, ?_⟩
      dsimp only
      rw [if_pos rfl]
      exact RsRep.tups tp h3'
    · by_cases ej : r = .jd
      · subst ej
        refine .inr ⟨_, upd_same, ?_⟩
        show HO.dK _ = HO.dK _
        rw [putK_new _ (by rw [valJ J (fun k => .ref (α (.jg k))) k, if_neg hk]), List.map_append]
        congr 1
        congr 1
        · apply List.map_congr_left
          intro j hj
          show _ = ((Sum.inr j : Key), V.ref (if j = k then x else α (.jg j)))
          have nj : j ≠ k := fun y => hk (y ▸ hj)
          rw [if_neg nj]
        · show _ = [((Sum.inr k : Key), V.ref (if k = k then x else α (.jg k)))]
          rw [if_pos rfl]
      · refine .inl ⟨h0, e, ?_, fun o c => ?_⟩
        · obtain ⟨o, q, c⟩ := L.at_ r h0
          rw [upd_ne (L.ne (r' := .jd) h0 trivial ej), q]
          exact s.keep _ _ q fun ps z => Cont.nt (z ▸ c)
        · cases r with
          | jd => exact absurd rfl ej
          | jg j =>
            obtain ⟨c1, c2⟩ := c
            have nj : j ≠ k := fun y => hk (y ▸ c1)
            refine ⟨List.mem_append.mpr (.inl c1), ?_⟩
            rw [c2]
            show _ = HO.ins _ (if Rl.jg j = Rl.jg k then dx else δ (.jg j)) [(_, V.ref (if j = k then po else α (.ow j))), (_, V.ref (if j = k then pr else α (.rs j)))]
            rw [if_neg (fun y => nj (Rl.jg.inj y)), if_neg nj, if_neg nj]
            rfl
          | ow j =>
            obtain ⟨c1, c2⟩ := c
            have nj : j ≠ k := fun y => hk (y ▸ c1)
            refine ⟨List.mem_append.mpr (.inl c1), ?_⟩
            dsimp only
            rw [if_neg nj]
            exact c2
          | rs j =>
            obtain ⟨c1, c2⟩ := c
            have nj : j ≠ k := fun y => hk (y ▸ c1)
            refine ⟨List.mem_append.mpr (.inl c1), ?_⟩
            dsimp only
            rw [if_neg nj]
            exact c2
          | sh => exact c
          | brs => exact c
          | hns => exact c
          | br m => exact c
          | lns m => exact c
          | mks m => exact c
          | ln m j => exact c
          | hn m => exact c
          | dr m => exact c
  · rcases cl r hr with (z | z | z) | h0
    · subst z
      refine .inr ⟨by rw [ex]; exact hx, fun r' hr' y e' => ?_⟩
      rcases cl r' hr' with (z | z | z) | ⟨h2, e2⟩
      · exact z.symm
      · rw [z, ex, eo'] at e'; exact absurd e' n1
      · rw [z, ex, er'] at e'; exact absurd e' n2
      · obtain ⟨o, q⟩ := L.there h2
        rw [e2, q] at y; cases y
    · subst z
      refine .inr ⟨by rw [eo']; exact hpo, fun r' hr' y e' => ?_⟩
      rcases cl r' hr' with (z | z | z) | ⟨h2, e2⟩
      · rw [z, ex, eo'] at e'; exact absurd e'.symm n1
      · exact z.symm
      · rw [z, eo', er'] at e'; exact absurd e' n3
      · obtain ⟨o, q⟩ := L.there h2
        rw [e2, q] at y; cases y
    · subst z
      refine .inr ⟨by rw [er']; exact hpr, fun r' hr' y e' => ?_⟩
      rcases cl r' hr' with (z | z | z) | ⟨h2, e2⟩
      · rw [z, ex, er'] at e'; exact absurd e'.symm n2
      · rw [z, eo', er'] at e'; exact absurd e'.symm n3
      · exact z.symm
      · obtain ⟨o, q⟩ := L.there h2
        rw [e2, q] at y; cases y
    · exact .inl h0
end
end Vs
/-! ## list(d.values()) -/
namespace Vs
open PySem PySem.Spec PyProof.Rows L2
def tListVals (te : TE) : TE := fun σ H Q => te σ H fun x H1 => ∃ (d : Addr) (kvs : List (Key × V)), x = .ref d ∧ Rd H1 d (.dK kvs) ∧ ∀ p, H1 p = none → Q (.ref p) (upd H1 p (.lst (kvs.map (·.2))))
theorem vals_by : ∀ {kvs : List (Key × V)} {ws : List (Key × Value)} {us : List Value}, KV kvs ws → us.length = ws.length → (∀ (j : Nat) (k : Key) (v : Value), ws[j]? = some (k, v) → us[j]? = some v) → Vals (kvs.map (·.2)) us
  | _, _, us, .nil, hl, _ => by
    cases us with
    | nil => exact .nil
    | cons a us => cases hl
  | _, _, us, @Paired.cons _ _ _ a b kvs ws h t, hl, f => by
    cases us with
    | nil => cases hl
    | cons u us =>
      have e : u = b.2 := by
        have := f 0 b.1 b.2 rfl
        simpa using this
      subst e
      exact .cons h.2 (vals_by t (Nat.succ.inj hl) fun j k v q => by simpa using f (j + 1) k v q)
section
variable {X : Cx} {e : Expr} {te : TE} {p apos cpos pos : Pos}
theorem pe_listVals (calm : X.calm = true) (he : PE X e te) (hg : Gl X "list") (hm : X.mg "list" = none) (hv : bootBuiltins "list" = some (.type "list")) (hbase : attributeBase e "values" X.env (eval e X.env) = eval e X.env := by rfl)
    (hline : (apos.endLine == cpos.line) = true := by rfl)
    (hs : starEach [.Call (.Attribute e "values" apos) [] [] cpos] X.env = (false, eval (.Call (.Attribute e "values" apos) [] [] cpos) X.env) :: starEach [] X.env := by rfl) :
    PE X (.Call (.Name "list" p) [.Call (.Attribute e "values" apos) [] [] cpos] [] pos) (tListVals te) := by
  constructor
  intro pins z σ H Q I pre
  refine wpAny_Call_Name_kw (ld_blt I hg hm hv (PyProof.Rows.callWith_type1 ?_ hs rfl))
  rw [hs]
  refine Calls.spliced_cons (wpAny_Call_method (T := "dict") (id := "dict.values") hbase rfl hline F.plainAttrs_dict F.slot_dict_values F.type_dict_values (thn (he.run pins z σ H _ I pre) fun u z1 ⟨x, H1, I1, rx, d, kvs, ex, hd, q⟩ => ?_))
  subst ex
  obtain rfl : u = Value.ref d := rx
  obtain ⟨size, low, ws, kv, dict⟩ := dk_rd I1.hok hd
  obtain ⟨es, ep, raw, len, ent⟩ := dict.raw
  have I2 : Inv X pins σ H1 { z1 with heap := z1.heap.push { cls := .type "dict_values", data := .fields #[.ref d] } } := I1.kept (t' := z1.toks) fun b o y => Heap.get?_push_of_some _ y
  refine ⟨dict.typeIs, dict.mapOf.noDict, ?_⟩
  show wpAny _ _ (callWith cpos (.builtin "dict.values") [.ref d] [] []) _ X.xe z1
  refine method_meetsIn F.slot_dict_values F.entry_dict_values rfl (PySem.evalArgs_none ⟨rfl, dict.typeIs, F.args_dict_values_1 _, _, meets_dict_values (mixKind X.prog X.w) d low, ⟨ws, dict⟩, ?_⟩)
  refine Calls.spliced_nil ?_
  refine PySem.W.kdl_call (PySem.KdlSrc.rawValues (es := es) (ep := ep)) (I1.ok.hd calm) ⟨⟨_, Heap.get?_push_size _ rfl, rfl, rfl⟩, raw.push _⟩ (by rw [len, ← Paired.length kv]; exact size) fun h' tk acc c hk hD got => ?_
  have al : acc.toList.length = ws.length := by rw [Array.length_toList, got.1, len]
  have vals : Vals (kvs.map (·.2)) acc.toList := vals_by kv al fun j k v y => by
    have jl : j < ws.length := (List.getElem?_eq_some_iff.mp y).1
    have ja : j < acc.toList.length := by omega
    have g := got.2 j (acc.toList[j]) (by rw [← Array.getElem?_toList]; exact List.getElem?_eq_getElem ja)
    obtain ⟨hi, ev⟩ := g
    rw [List.getElem?_eq_getElem ja, ev, (ent j hi k v y).2]
  exact ⟨.ref _, upd H1 _ (.lst (kvs.map (·.2))), I2.laid (t' := tk) hk (Nat.le_refl _) (show ObjOk X.prog X.w _ _ _ (.lst (kvs.map (·.2))) from ⟨by rw [List.length_map]; exact size, acc.toList, c, vals, by rw [Array.toArray_toList]; exact hD⟩), rfl,
    q _ (I2.hok.fresh (Nat.le_refl _))⟩
end
end Vs
/-! ## all(x in NAME for x in text), where NAME is a text of the module -/
namespace Vs
open PySem PySem.Spec PyProof.Rows L2 GxR
/-- the element's test reads its own name and the module's names -/
def EltM (prog : Program) (w : World) (mg : Str → Option Value) (scope : Scope) (x : Str) (elt : Expr) (pb : Nat → Bool) : Prop :=
  ∀ (ce : Env) (B : Around) (R : Value → Shared → Prop) (c : Nat) (t : Tok) (z : Shared) (m : Str → Option Value), ce.scope = scope → ce.globals = mainGlobals → z.heap.Ns mainGlobals mg → z.heap.Ns ce.locals m →
    m x = some (.str ⟨#[c]⟩ t) → wpAny (model prog w) B (eval elt ce) (fun y z' => y = .bool (pb c) ∧ Keeps z z') R z
theorem eltM_in {prog : Program} {w : World} {mg : Str → Option Value} {scope : Scope} {x g z : Str} {p1 p2 p3 : Pos} {tz : Tok} (hk : scope.kind = .function) (hl : scope.names.lookup x = some .local)
    (hg : scope.names.lookup g = some .globalImplicit) (hm : mg g = some (.str z tz)) (hd : (x == ("__debug__" : Str)) = false := by decide) (hd2 : (g == ("__debug__" : Str)) = false := by decide) (nb : behindInMarks .In (.Name g p2) = false := by rfl) :
    EltM prog w mg scope x (.Compare (.Name x p1) [.In] [.Name g p2] p3) (fun c => decide (c ∈ z.cps.toList)) := by
  intro ce B R c t s m hs hgl hmn hn hx
  refine wpAny_Compare1 (hm := nb) ?_
  refine wpAny_Name (wpAny_loadName_local (by rw [hs, hk]) (show ce.scope.names.lookup x = some .local by rw [hs, hl]) hn hx ?_) hd
  refine Calls.Name_function_global (by rw [hs, hk]) (show ce.scope.names.lookup g = some .globalImplicit by rw [hs, hg]) (Calls.loadGlobal_global (by rw [hgl]; exact hmn) hm ?_) hd2
  refine PyProof.Rows.in_str ?_
  refine ⟨?_, keeps_refl _⟩
  rw [PySem.StrLaws.found_one z c]
section
variable {X : Cx} {pins : List (Addr × Obj)} {σ : L2.St} {H : Hp} {s : Shared}
theorem ns_at {h h' : Heap} {a : Addr} {m : Str → Option Value} (n : h.Ns a m) (k : ∀ o, h.get? a = some o → h'.get? a = some o) : h'.Ns a m := by
  obtain ⟨o, es, ep, e, r⟩ := n
  exact ⟨o, es, ep, k o e, r⟩
theorem gen_in {c P : Addr} {elt iter : Expr} {x : Str} {px gpos : Pos} {scope : Scope} {pb : Nat → Bool} {te : TE} {k : Nat} {Y : Value → Shared → Prop} {R : Str → Hp → Prop}
    (room : Room k X.A) (tb : TabB X.base X.mg c P) (code : X.env.code = .ref c) (gs : GenS X.env scope x) (it : PE X iter te) (el : EltM X.prog X.w X.mg scope x elt pb)
    (fold : ∀ v, genFold iter X.env v = pure v) (I : Inv X pins σ H s) (pre : te σ H fun v H1 => ∃ a : Str, v = .str a ∧ TabG H1 P ∧ R a H1)
    (post : ∀ a H1 g z, R a H1 → Ready X pins σ H1 P a pb g z → Y (.ref g) z) :
    wpAny (model X.prog X.w) X.A (eval (.GeneratorExp elt [⟨.Name x px, iter, [], 0⟩] scope gpos) X.env) Y X.xe s := by
  refine wpAny_GeneratorExp_walksQ room.hd gs.co (closure_ok gs.free) gs.cell gs.dot gs.loc gs.kind (by have d := room.dp; omega) ?_ fold
  refine thn (it.run pins s σ H _ I pre) fun xv z1 ⟨v, H1, J1, rv, q⟩ => ?_
  obtain ⟨a, rfl, ⟨ps, tP, tO⟩, q⟩ := q
  obtain ⟨tk0, rfl⟩ := _root_.id rv
  refine wpAny_pyIter_str fun ob Stt Wk st0 => ?_
  have p1 : z1.heap.get? P = some { cls := .none, data := .fields ps } := J1.hok P _ tP
  have pl : P < z1.heap.objs.size := Heap.lt_size p1
  have p2 : (z1.heap.push ob).get? P = some { cls := .none, data := .fields ps } := Heap.get?_push_of_some _ p1
  have hd2 : PySem.W.CodeHd (z1.heap.push ob) c P := tb.code.keeps fun b u e => Heap.get?_push_of_some _ (J1.bk b u e)
  have nl : (z1.heap.push ob).NoLimit := J1.nolimit.push ob
  have gl : mainGlobals < z1.heap.objs.size := let ⟨_, _, _, e, _⟩ := J1.mod.glob.keeps J1.bk; Heap.lt_size e
  refine ⟨nl, ?_⟩
  have first : wpAny (model X.prog X.w) X.A (genexprCode X.env gpos (X.env.qual ++ Str.ofString "<genexpr>") scope) (fun _ z => ∃ (h3 : Heap) (tk : Nat) (qs : Array Value), z = { z1 with heap := h3, toks := tk } ∧
      Heap.ExtBut P (z1.heap.push ob) h3 ∧ (z1.heap.push ob).objs.size ≤ h3.objs.size ∧ h3.get? P = some { cls := .none, data := .fields qs } ∧ (∃ more, qs = ps ++ more) ∧ TriplesOk qs.toList) X.xe { z1 with heap := z1.heap.push ob } := by
    cases hf : codeAmong gpos ps.toList with
    | none =>
      refine wpAny_genexprCodeX code (hd2.code p2 tO) (hd2.tab p2) hf fun c' h' tk ext ge lt co _ tab' _ => ?_
      obtain ⟨_, _, _, _, _, _, _, _, _, _, _, _, _, _, _, _, _, _, _, tr, _⟩ := co
      exact ⟨h', tk, _, rfl, ext, Nat.le_trans ge (Nat.le_of_lt lt), tab'.2, ⟨_, rfl⟩, tr⟩
    | some cv => exact wpAny_genexprCode_hit code (hd2.code p2 tO) hf ⟨z1.heap.push ob, z1.toks, ps, rfl, Heap.ExtBut.refl _ _, Nat.le_refl _, p2, ⟨#[], by simp⟩, tO⟩
  refine wpAny_mono first (fun cv z3 hz => ?_) fun _ _ e => e
  · obtain ⟨h3, tk, qs, rfl, ext, big, p3, grown, tO3⟩ := hz
    obtain ⟨bm, ob', b1, b2, b3, b4, b5, b6, b7, b8⟩ := tb.bm
    have cP : cStatics ≠ P := fun e => by
      obtain ⟨_, ns, _⟩ := J1.nolimit
      obtain ⟨o', es, ep, h1, h2, _⟩ := ns
      rw [e, p1] at h1
      cases h1; cases h2
    have cl : cStatics < z1.heap.objs.size := let ⟨_, ns, _⟩ := J1.nolimit; ns.lt
    have kp : ∀ b u, b ≠ P → z1.heap.get? b = some u → h3.get? b = some u := fun b u nb e => ext b u nb (Heap.get?_push_of_some _ e)
    have mgl : h3.Ns mainGlobals X.mg := ns_at (J1.mod.glob.keeps J1.bk) fun o e => kp _ _ tb.gP e
    have sp : (z1.heap.push ob).objs.size = z1.heap.objs.size + 1 := Heap.size_push ..
    refine wpAny_builtinsFor (m := X.mg) (by rw [J1.ok.glob]; exact mgl) b1 b2 (kp _ _ b4 (J1.bk _ _ b5)) b6 b7 b8 ?_
    refine ⟨z1.heap.objs.size, [z1.heap.objs.size], [z1.heap.objs.size], a.cps.size, SignAt a, Stt, (fun _ => true), (fun i y => ∃ d, a.cps[i]? = some d ∧ y = .bool (pb d)), rfl, Wk, ?_, ?_, nl.extBut ext cP, ?_, ?_, ?_⟩
    · exact (Wk X.A room.hd).frame _ _ _ st0 fun b hb u e => ext b u (fun z => by
        have hbz : @Eq Nat b z1.heap.objs.size := by simpa using hb
        exact Nat.ne_of_lt pl (z.symm.trans hbz)) e
    · intro b hb
      have hbz : @Eq Nat b z1.heap.objs.size := by simpa using hb
      have l2 : z1.heap.objs.size + 1 ≤ h3.objs.size := sp ▸ big
      exact Nat.lt_of_lt_of_le (hbz ▸ Nat.lt_succ_self _) l2
    · intro z
      have hz : @Eq Nat cStatics z1.heap.objs.size := by simpa using z
      exact Nat.ne_of_lt cl hz
    · intro hr ex
      refine ⟨fun B E' i v z m hB hv hn hm hk => ?_, fun B E' i v z m hB hv hp hn hm hk => ?_⟩
      · simp only [List.forIn_nil]
        exact wpAny_pure ⟨rfl, keeps_refl _⟩
      · obtain ⟨d, u, e, rfl⟩ := hv
        have g3 : mainGlobals < h3.objs.size := by
          have l2 : z1.heap.objs.size + 1 ≤ h3.objs.size := sp ▸ big
          exact Nat.lt_of_lt_of_le gl (Nat.le_trans (Nat.le_succ _) l2)
        have gz : z.heap.Ns mainGlobals X.mg := ns_at mgl fun o e' => hk mainGlobals (List.mem_range.mpr g3) (fun z' => by
          have hz : @Eq Nat mainGlobals z1.heap.objs.size := by simpa using z'
          exact Nat.ne_of_lt gl hz) o (ex _ _ e')
        exact wpAny_mono (el _ B E' d u z m rfl (by show X.env.globals = _; exact J1.ok.glob) gz hn hm) (fun y z' r => ⟨⟨d, e, r.1⟩, r.2⟩) fun _ _ e' => e'
    · intro g h5 tk5 gst bare gt sz5 k5 W5 gat
      simp only [GxR.passing_true, List.length_range] at W5
      refine post a H1 g _ q ⟨_, _, _, _, _, W5.in4_1, gat, ?_, fun z' mv => ?_⟩
      · intro j y sj Qj Ej hy hQ
        obtain ⟨i, hi, d, e, rfl⟩ := hy
        obtain ⟨_, ej⟩ := List.getElem?_eq_some_iff.mp hi
        rw [List.getElem_range] at ej
        subst ej
        have e9 : a.cps.toList[j]? = some d := by rw [Array.getElem?_toList]; exact e
        have hQ2 : Qj (trF pb a.cps.toList j) sj := hQ
        rw [trF_some e9] at hQ2
        exact wpAny_truthy_bool hQ2
      · obtain ⟨more, em⟩ := grown
        have off : ∀ b u, z1.heap.get? b = some u → b ∉ h3.objs.size :: [z1.heap.objs.size] := fun b u e hb => by
          have l1 := Heap.lt_size e
          have l2 : z1.heap.objs.size + 1 ≤ h3.objs.size := sp ▸ big
          have hbz : @Eq Nat b h3.objs.size ∨ @Eq Nat b z1.heap.objs.size := by simpa using hb
          rcases hbz with z | z
          · exact Nat.lt_irrefl _ (Nat.lt_of_lt_of_le (z ▸ l1) (Nat.le_trans (Nat.le_succ _) l2))
          · exact Nat.lt_irrefl _ (z ▸ l1)
        have J := inv_tab (more := more) (h' := z'.heap) (g' := z'.gens) (d' := z'.drawn) (t' := z'.toks) J1 tP (fun b u nb e => mv.heap b u (off b u e) (k5 b u (kp b u nb e)))
          (by rw [← em]; exact mv.heap P _ (off P _ p1) (k5 P _ p3)) (AllBare.movedS (J1.bare.push bare) mv)
        rw [sh_eta z1 z' mv.os] at J
        exact ⟨upd H1 P (.tbl (ps ++ more)), ⟨⟨ps ++ more, upd_same, by rw [← em]; exact tO3⟩, fun b nb => upd_ne nb⟩, J⟩
theorem pe_allM {c P : Addr} {elt iter : Expr} {x : Str} {px p pos gpos : Pos} {scope : Scope} {pb : Nat → Bool} {te : TE} {k : Nat}
    (room : Room k X.A) (hg : Gl X "all") (hm : X.mg "all" = none) (hb : bootBuiltins "all" = some (.builtin "all")) (tb : TabB X.base X.mg c P) (code : X.env.code = .ref c) (gs : GenS X.env scope x) (it : PE X iter te)
    (el : EltM X.prog X.w X.mg scope x elt pb) (fold : ∀ v, genFold iter X.env v = pure v)
    (he : starEach [.GeneratorExp elt [⟨.Name x px, iter, [], 0⟩] scope gpos] X.env = (false, eval (.GeneratorExp elt [⟨.Name x px, iter, [], 0⟩] scope gpos) X.env) :: starEach [] X.env := by rfl) :
    PE X (.Call (.Name "all" p) [.GeneratorExp elt [⟨.Name x px, iter, [], 0⟩] scope gpos] [] pos) (tAllS P pb te) := by
  constructor
  intro pins s σ H Q I pre
  refine wpAny_Call_Name_kw (ld_blt I hg hm hb (PyProof.Rows.callWith_builtin1 ?_ he (by rfl)))
  rw [he]
  refine Calls.spliced_cons (gen_in (R := fun a H1 => ∀ H2, Tabbed P H1 H2 → Q (.bl (a.cps.toList.all pb)) H2) room tb code gs it el fold I pre fun a H1 g z hR ready => Calls.spliced_nil ?_)
  obtain ⟨fp, wr, G, F, Stt, Wk, st, tr, go⟩ := ready
  refine call_all_walkS (Wk.self 0 _ _ _ st ⟨g, fp, wr, G, _, F, Stt, _, rfl, Wk, st, tr, fun z' mv => ?_⟩)
  obtain ⟨H2, hT, J⟩ := go z' mv
  exact ⟨.bl _, H2, J, rfl, by rw [all_signs a pb]; exact hR H2 hT⟩
end
end Vs
namespace Vs
open PySem L2
def topS (i : Nat) : Stmt := PySem.Challenge.pw_versionshelf_k16_refusals_stand_apart.main.body.getD i (.Pass ⟨0, 0, 0, 0⟩)
abbrev s_newest : Stmt := (topS 2)
abbrev s_seen_value : Stmt := (topS 3)
abbrev s_seen_by_hand : Stmt := (topS 4)
abbrev s_all_seen_by_hand : Stmt := (topS 5)
abbrev s_Clash___init__ : Stmt := (inClass (topS 12) 0)
abbrev s_Branch___init__ : Stmt := (inClass (topS 16) 0)
abbrev s_Hand___init__ : Stmt := (inClass (topS 17) 0)
abbrev s_is_key : Stmt := (topS 22)
abbrev s_is_value : Stmt := (topS 23)
abbrev s_Shelf___init__ : Stmt := (inClass (topS 25) 0)
abbrev s_Shelf_begin : Stmt := (inClass (topS 25) 1)
abbrev s_Shelf_twin : Stmt := (inClass (topS 25) 2)
abbrev s_Shelf_fork : Stmt := (inClass (topS 25) 3)
abbrev s_Shelf_drop : Stmt := (inClass (topS 25) 4)
abbrev s_Shelf_close : Stmt := (inClass (topS 25) 5)
abbrev s_Shelf_look : Stmt := (inClass (topS 25) 6)
abbrev s_Shelf_keys : Stmt := (inClass (topS 25) 7)
abbrev s_Shelf_differ : Stmt := (inClass (topS 25) 8)
abbrev s_Shelf_write : Stmt := (inClass (topS 25) 9)
abbrev s_Shelf_erase : Stmt := (inClass (topS 25) 10)
abbrev s_Shelf_commit : Stmt := (inClass (topS 25) 11)
abbrev s_Shelf_sweep : Stmt := (inClass (topS 25) 12)
abbrev s_Shelf_cells : Stmt := (inClass (topS 25) 13)
abbrev s_Shelf_reason : Stmt := (inClass (topS 25) 14)
abbrev s_Shelf_marked : Stmt := (inClass (topS 25) 15)
abbrev s_Shelf_standing : Stmt := (inClass (topS 25) 16)
abbrev s_Shelf_branch_there : Stmt := (inClass (topS 25) 17)
abbrev s_Shelf_hand_there : Stmt := (inClass (topS 25) 18)
abbrev s_Shelf_add_hand : Stmt := (inClass (topS 25) 19)
abbrev s_Shelf_let_go : Stmt := (inClass (topS 25) 20)
abbrev s_Shelf_settle : Stmt := (inClass (topS 25) 21)
abbrev s_Shelf_judgement : Stmt := (inClass (topS 25) 22)
abbrev s_check_key : Stmt := (topS 26)
abbrev s__law_taken : Stmt := (topS 28)
abbrev s__law_whole : Stmt := (topS 29)
abbrev s__law_same : Stmt := (topS 30)
abbrev s__law_pool : Stmt := (topS 31)
abbrev s__law_word : Stmt := (topS 32)
abbrev s__law_of_hand : Stmt := (topS 33)
abbrev s__law_of_branch : Stmt := (topS 34)
abbrev s__law_clash : Stmt := (topS 35)
abbrev s_law : Stmt := (topS 36)
end Vs
/-! ## own exceptions, made where nothing is handled: their context is None -/
namespace Vs
open PySem PySem.Spec PyProof.Rows L2
section
variable {X : Cx} {cl : Addr} {ms : List Value} {Bn n1 i1 : String} {nx : Str} {w1 w2 : Pos} {a0 : Expr} {ar : List Expr} {tr : TA}
theorem pmkN_own (fx : ExcBaseFacts Bn n1 i1 ms) (is : PySem.W.excIn X.K cl ms n1 = true) (g1 : X.mg nx = some (.ref cl)) (kp : PySem.W.keepIn X.K (.ref cl) = true) (rz : Raises X (.ref cl)) (gl : Gl X nx) (pa : PA X (a0 :: ar) tr) (nd : (nx == ("__debug__" : Str)) = false := by decide)
    (s1 : starEach (a0 :: ar) X.env = (false, eval a0 X.env) :: starEach ar X.env := by rfl) (s2 : (backTo w2 (starEach ar X.env)).any (·.1) = false := by rfl) : L2N.PMk X (.Call (.Name nx w1) (a0 :: ar) [] w2) (fun σ H Q => tr σ H fun vs G => vs.length ≤ sizeLine ∧ Q (.ref cl) none G) := by
  intro ps z σ H Q I pre
  refine wpAny_Call_Name_kw (ld_glob I gl g1 (PySem.W.callWith_K (h₀ := X.base) I.ok.mod.kin kp (thn (pa.run w2 ps z σ H _ I pre) ?_) s1 s2) nd)
  rintro us z1 ⟨vs, G, J, rv, le, q⟩
  refine ⟨J.kIn, ?_⟩
  show wpAny _ _ (call (.ref cl) us) _ _ _
  obtain ⟨bm, N, nm, qn, bs, hd, sn, sb, ab, co, dd, _, _, _, _, _, _, hC, hN, hi, T⟩ := exc_obj J.kIn is
  exact wpAny_call_exc_subT fx T hC hN hi (fun _ _ mk => L2N.mk_of J mk rz q (J.hok.gone mk.new)) (by rw [← rv.length]; exact le)
end
section
variable {X : Cx} {CT : CXT} {nx : Str} {cl fi : Addr} {lv : Nat} {fd : FuncData} {pr : List Str} {sp : Sp} {du : List Value} {dv : List V} {w1 w2 : Pos} {a0 : Expr} {ar : List Expr} {tr : TA}
theorem pmkN_oex (T : OexC X.K cl) (fi1 : PySem.W.findIn X.K (.ref cl) "__init__" = some (some (.ref fi))) (fi2 : PySem.W.typeIn X.K (.ref fi) = some (.type "function")) (F1 : FnOk X.prog X.w X.K X.mg X.base CT lv fi fd pr sp)
    (rm : Room (lv + 1) X.A) (bd : Binds X.K fd pr du) (dl : Vals dv du) (ps0 : Passes CT X (fun _ _ _ => False)) (gl : Gl X nx) (g1 : X.mg nx = some (.ref cl)) (pa : PA X (a0 :: ar) tr) (nd : (nx == ("__debug__" : Str)) = false := by decide)
    (s1 : starEach (a0 :: ar) X.env = (false, eval a0 X.env) :: starEach ar X.env := by rfl) (s2 : (backTo w2 (starEach ar X.env)).any (·.1) = false := by rfl) : L2N.PMk X (.Call (.Name nx w1) (a0 :: ar) [] w2) (tMkO cl sp dv tr) := by
  intro ps z σ H Q I pre
  obtain ⟨nm, ei, N, bs, bm, sn, sb, ab, co, dd, _, _, _, _, _, hC, hbm⟩ := T.cls
  refine wpAny_Call_Name_kw (ld_glob I gl g1 (PySem.W.callWith_K (h₀ := X.base) I.ok.mod.kin T.kC (thn (pa.run w2 ps z σ H _ I pre) ?_) s1 s2) nd)
  rintro us ⟨hp, gs, dr, tk, os⟩ ⟨vs, H1, I1, rv, le, q1⟩
  refine ⟨I1.kIn, ?_⟩
  show wpAny _ _ (call (.ref cl) us) _ _ _
  have up1 : hp.objs.size ≤ hp.objs.size + 1 := Nat.le_succ _
  have fr1 : H1 (hp.objs.size + 1) = none := I1.hok.fresh up1
  have want := q1 (hp.objs.size + 1) fr1
  have stay : ∀ b o, hp.get? b = some o → ((hp.push (PySem.W.kdv_tup us)).push (PySem.HandSPX.excO cl hp.objs.size)).get? b = some o := fun _ _ e => Heap.get?_push_of_some _ (Heap.get?_push_of_some _ e)
  have there : ((hp.push (PySem.W.kdv_tup us)).push (PySem.HandSPX.excO cl hp.objs.size)).get? (hp.objs.size + 1) = some (PySem.HandSPX.excO cl hp.objs.size) := by heap_get
  have I2 := I1.laid (t' := tk) (a := hp.objs.size + 1) (o := exo (hp.objs.size + 1) cl none) (h' := (hp.push (PySem.W.kdv_tup us)).push (PySem.HandSPX.excO cl hp.objs.size)) stay up1 (exo_ok there)
  have rel := Paired.cons (F := RelV) (show RelV (V.ref (hp.objs.size + 1)) (Value.ref (hp.objs.size + 1)) from rfl) (rv.append dl)
  have len : (Value.ref (hp.objs.size + 1) :: us ++ du).length = pr.length := by
    rw [← F1.len _ _ _ _ want]
    exact rel.length.symm
  have few : us.length ≤ sizeLine := by
    rw [sizeLine_eq, ← Paired.length rv]
    omega
  have one := F1.run _ X.stack _ _ ⟨Value.ref (hp.objs.size + 1) :: us, []⟩ (Value.ref (hp.objs.size + 1) :: (us ++ du)) _ _ (fun _ _ _ => False) (rm.make cl us []) (I2.env0.make cl us []) (bd _ (Value.ref (hp.objs.size + 1) :: us) I2.kIn len) rel want
  refine wpAny_call (PySem.HandSPX.call_own F.excBase_ValueError (fun _ => PySem.HandSPX.refsVE_contains _ bm hbm) (I1.kIn _ _ hC) (PySem.W.looks_findIn I1.kIn fi1) (fun _ => PySem.W.bind_fn I1.kIn _ fi2) few (codeAny_mono one ?_))
  · rintro r z2 end2
    cases r with
    | error er => exact ps0 ps σ _ _ er z2 I2 end2
    | ok fl =>
      cases fl with
      | ret u =>
        obtain ⟨v, H2, o2, ba2, un2, ok2, r2, ev, d, fs, ea, ed, fr2, q2⟩ := end2
        subst ev
        obtain ⟨h2, g2, d2, t2, os2⟩ := z2
        obtain ⟨t0, G, J, kG, ge, hoe, na⟩ := mk_end0 (d2 := d2) (t2 := t2) I1 up1 stay un2 ok2 o2 ba2 ea ed fr2
        exact ⟨r2, _, _, _, ⟨G, g2, d2, t2, os2⟩, _, .ref cl, some d, rfl, J, kG, ge, hoe, ⟨rfl, rfl, fun _ e => by cases e; rfl⟩, rfl, rfl, na, rfl, ba2, raises_own T.exC T.tyC, q2⟩
      | next => exact end2.elim
      | brk => exact end2.elim
      | cont => exact end2.elim
end
theorem passLN {X : Cx} : Passes (L2N.CX X.prog X.w) X E0 := by
  rintro _ _ _ _ _ _ _ ⟨_, _, _, _, _, _, _, _, _, _, _, _, no⟩
  exact no.elim
section
variable {P : Program} {w : World} {K : PySem.W.Frag} {mg : Str → Option Value} {base : Heap} {dn qn : Str} {df : Stmt} {f : Addr} {fd : FuncData} {N pr : List Str} {lv : Nat} {sp : Sp}
/-- a def that may raise, where nothing is handled -/
theorem _root_.L2.Fun.okN (F : Fun K dn qn df f fd) (S : FnScope N pr (defScope df)) (ln : ∀ vs H Q E, sp vs H Q E → vs.length = pr.length)
    (bd : ∀ (cv : Value) (A : Around) (out : List Env) (s : Shared) (H : Hp) (vs : List V) (Q : VK) (E : XK), Room lv (A.deeper (envOfC qn (defScope df) s.heap.objs.size f cv)) → sp vs H Q E →
      ∃ t, t { nx := fun _ G => Q .non G, rt := Q } (start N vs) H ∧ PSs (cxOf (L2N.CX P w) P w K mg base N qn (defScope df) f cv A out s H E) (defBody df) t) : FnOk P w K mg base (L2N.CX P w) (lv + 1) f fd pr sp := by
  obtain ⟨oc, od, kV, doc, pm, an, cv, ct, sl, rfl, lk, cd⟩ := F.ex
  refine fn_of lk cd S ln fun A out s H vs Q E hr h => ?_
  obtain ⟨t, h1, h2⟩ := bd cv A out s H vs Q E hr h
  exact ⟨t, h2, h1⟩
theorem _root_.L2.Fun.okX' (F : Fun K dn qn df f fd) (S : FnScope N pr (defScope df)) (ln : ∀ vs H Q E, sp vs H Q E → vs.length = pr.length)
    (bd : ∀ (cv : Value) (A : Around) (out : List Env) (s : Shared) (H : Hp) (vs : List V) (Q : VK) (E : XK), Room lv (A.deeper (envOfC qn (defScope df) s.heap.objs.size f cv)) → sp vs H Q E →
      ∃ t, PSs (cxOf (L2N.CX P w) P w K mg base N qn (defScope df) f cv A out s H E) (defBody df) t ∧ t { nx := fun _ G => Q .non G, rt := Q } (start N vs) H) : FnOk P w K mg base (L2N.CX P w) (lv + 1) f fd pr sp :=
  F.okN S ln fun cv A out s H vs Q E hr h => let ⟨t, a, b⟩ := bd cv A out s H vs Q E hr h; ⟨t, b, a⟩
end
end Vs
namespace Vs
open PySem L2
structure Bt (mg : Str → Option Value) : Prop where
  len : mg "len" = none
  sorted : mg "sorted" = none
  list : mg "list" = none
  zip : mg "zip" = none
  set : mg "set" = none
  min : mg "min" = none
  all : mg "all" = none
  range : mg "range" = none
  isinstance : mg "isinstance" = none
  int : mg "int" = none
section
variable {P : Program} {w : World} {K : PySem.W.Frag} {mg : Str → Option Value} {base : Heap} {T : Cs}
def spNewest (K : PySem.W.Frag) : Sp := fun vs H Q _ => ∃ (a : Addr) (m : Int) (rs : List V) (l : List Cel), vs = [.ref a, .int m] ∧ SqL K H a rs ∧ Cels H rs l ∧ Rise l ∧ Q (.int ((cnt l m : Int) - 1)) H
theorem sc_newest : FnScope ["line", "moment", "low", "high", "middle"] ["line", "moment"] (defScope s_newest) := ⟨rfl, rfl, rfl, by decide +kernel, rfl, by decide +kernel, by decide +kernel⟩
theorem ifT {b : Bool} {A B : Prop} (hb : b = true) (h : A) : if b = true then A else B := by rw [if_pos hb]; exact h
theorem ifF {b : Bool} {A B : Prop} (hb : b = false) (h : B) : if b = true then A else B := by rw [hb]; exact h
theorem vEq {Q : VK} {v v' : V} {H : Hp} (e : v' = v) (h : Q v' H) : Q v H := by rw [← e]; exact h
theorem Cels.get {H : Hp} : ∀ {rs : List V} {l : List Cel}, Cels H rs l → ∀ {i : Nat} {c : Cel}, l[i]? = some c → ∃ t, rs[i]? = some (.ref t) ∧ H t = some (.tup [.int c.1, optV c.2])
  | _, _, .nil, i, c, e => by simp at e
  | _, _, .cons h r, 0, c, e => by
    obtain ⟨t, e1, e2⟩ := h
    simp at e; subst e
    exact ⟨t, by rw [e1]; rfl, e2⟩
  | _, _, .cons h r, i + 1, c, e => by
    obtain ⟨t, e1, e2⟩ := Cels.get r (i := i) (c := c) (by simpa using e)
    exact ⟨t, by simpa using e1, e2⟩
theorem Cels.length {H : Hp} {rs : List V} {l : List Cel} (h : Cels H rs l) : rs.length = l.length := Paired.length h
theorem ok_newest {f : Addr} {fd : FuncData} (F : Fun K "newest" "newest" s_newest f fd) (B : Bt mg) : FnOk P w K mg base CX0 1 f fd ["line", "moment"] (spNewest K) := by
  refine F.ok sc_newest (fun vs H Q E h => ?_) (fun cdv A outer s H vs Q E hr h => ?_)
  · obtain ⟨a, m, rs, l, rfl, _⟩ := h
    rfl
  · obtain ⟨a, m, rs, l, rfl, hS, hC, hR, k⟩ := h
    refine ⟨_, pss_cons (ps_set (i := 2) sc_newest.nd rfl (.inl rfl) pe_int)
      (pss_cons (ps_set (i := 3) sc_newest.nd rfl (.inl rfl) (pe_callB call_len_seq (by rfl) B.len PySem.boot_len (pa_cons (pv 0) pa_nil)))
      (pss_cons (ps_while PassesOwn.never (pt_cmpR op_lt (pv 2) (pv 3) (nomark _))
        (pss_cons (ps_set (i := 4) sc_newest.nd rfl (.inl rfl) (pe_op op_fdiv (pe_op op_add (pv 2) (pv 3)) pe_int))
        (pss_one (ps_if (pt_cmpR op_le (pe_ix ix_tup (pe_ix ix_list (pv 0) (pv 4) (fun _ _ => rfl)) pe_int (fun _ _ => rfl)) (pv 1) (nomark _))
          (pss_one (ps_set (i := 2) sc_newest.nd rfl (.inl rfl) (pe_op op_add (pv 4) pe_int)))
          (pss_one (ps_set (i := 3) sc_newest.nd rfl (.inl rfl) (pv 4)))))))
      (pss_one (ps_ret (pe_op op_sub (pv 2) pe_int))))), ?_⟩
    refine ⟨_, rfl, a, _, rfl, .inl hS, ?_⟩
    have hlen := hC.length
    refine while_by (fun σ H1 => H1 = H ∧ ∃ (lo hi : Nat) (x : Option V), σ = [some (.ref a), some (.int m), some (.int lo), some (.int hi), x] ∧ lo ≤ hi ∧ hi ≤ l.length ∧
        (∀ i c, l[i]? = some c → i < lo → c.1 ≤ m) ∧ (∀ i c, l[i]? = some c → hi ≤ i → ¬ c.1 ≤ m))
      (fun σ _ => match σ with | [_, _, some (.int lo), some (.int hi), _] => (hi - lo).toNat | _ => 0)
      ⟨rfl, 0, l.length, none, by rw [hlen]; rfl, Nat.zero_le _, Nat.le_refl _, fun i c _ h => absurd h (Nat.not_lt_zero _), fun i c e h => by
        have := (List.getElem?_eq_some_iff.mp e).1; omega⟩ ?_ ?_
    · rintro σ H1 ⟨rfl, lo, hi, x, rfl, h1, h2, h3, h4⟩
      refine ⟨_, rfl, _, rfl, _, _, rfl, rfl, _, rfl, ?_⟩
      by_cases hlt : lo < hi
      · refine ifT (decide_eq_true (by omega)) ?_
        refine ⟨_, rfl, _, rfl, _, _, rfl, rfl, _, _, rfl, rfl, ⟨by decide, by decide⟩, ?_⟩
        have hmid : ((lo : Int) + (hi : Int)) / 2 = (((lo + hi) / 2 : Nat) : Int) := by omega
        obtain ⟨mid, hm⟩ : ∃ mid, mid = (lo + hi) / 2 := ⟨_, rfl⟩
        dsimp only
        rw [hmid, ← hm]
        have hmid1 : lo ≤ mid ∧ mid < hi := by omega
        have hmlt : mid < l.length := by omega
        obtain ⟨t, ht1, ht2⟩ := hC.get (i := mid) (c := l[mid]) (List.getElem?_eq_getElem hmlt)
        refine ⟨_, rfl, _, rfl, a, _, _, _, rfl, rfl, hS, atI_nat ht1, t, _, _, _, rfl, rfl, SqT.of ht2, rfl, _, rfl, _, _, rfl, rfl, _, rfl, ?_⟩
        refine ite2 (fun c => ?_) (fun c => ?_)
        · have c' : l[mid].1 ≤ m := by simpa using c
          refine ⟨_, rfl, _, _, rfl, rfl, ⟨rfl, mid + 1, hi, _, rfl, by omega, h2, fun i x e hi' => ?_, h4⟩, ?_⟩
          · by_cases z : i = mid
            · subst z; rw [List.getElem?_eq_getElem hmlt] at e; cases e; exact c'
            · have := hR.get e (List.getElem?_eq_getElem hmlt) (by omega); omega
          · show ((hi : Int) - ((mid : Int) + 1)).toNat < ((hi : Int) - (lo : Int)).toNat
            omega
        · have c' : ¬ l[mid].1 ≤ m := by simpa using c
          refine ⟨_, rfl, ⟨rfl, lo, mid, _, rfl, by omega, by omega, h3, fun i x e hi' => ?_⟩, ?_⟩
          · by_cases z : i = mid
            · subst z; rw [List.getElem?_eq_getElem hmlt] at e; cases e; exact c'
            · have := hR.get (List.getElem?_eq_getElem hmlt) e (by omega); omega
          · show ((mid : Int) - (lo : Int)).toNat < ((hi : Int) - (lo : Int)).toNat
            omega
      · refine ifF (decide_eq_false (by omega)) ?_
        have e : cnt l m = lo := cnt_split (by omega) h3 (fun i c e hi' => h4 i c e (by omega))
        refine ⟨_, rfl, _, _, rfl, rfl, ?_⟩
        rw [← e]; exact k
    · rintro σ H1 Q1 Q2 hq ⟨v, e, v', e', i, j, h5, h6, b, h7, h8⟩
      exact ⟨v, e, v', e', i, j, h5, h6, b, h7, hq _ _ h8⟩
end
end Vs
namespace Vs
open PySem L2
structure Cf (K : PySem.W.Frag) (T : Cs) : Prop where
  S : Cls K T.S
  B : Cls K T.B
  N : Cls K T.N
  J : Cls K T.J
  sNow : NoAttr K T.S "now"
  sBrs : NoAttr K T.S "branches"
  sBm : NoAttr K T.S "branches_made"
  sHns : NoAttr K T.S "hands"
  sHm : NoAttr K T.S "hands_made"
  sJd : NoAttr K T.S "judged"
  bBen : NoAttr K T.B "beneath"
  bMom : NoAttr K T.B "moment"
  bAl : NoAttr K T.B "alive"
  bLn : NoAttr K T.B "lines"
  bMk : NoAttr K T.B "marks"
  nBr : NoAttr K T.N "branch"
  nMom : NoAttr K T.N "moment"
  nDr : NoAttr K T.N "drafts"
  jOw : NoAttr K T.J "owners"
  jRs : NoAttr K T.J "reasons"
/-- where a def stands: its function, its arguments -/
structure At (K : PySem.W.Frag) (mg : Str → Option Value) (x : Str) (st : Stmt) (ps : List Str) (f : Addr) (fd : FuncData) : Prop where
  F : Fun K x x st f fd
  g : mg x = some (.ref f)
  k : PySem.W.keepIn K (.ref f) = true
  b : Binds K fd ps []
section
variable {P : Program} {w : World} {K : PySem.W.Frag} {mg : Str → Option Value} {base : Heap} {T : Cs}
theorem le1000000 {n : Nat} (h : n ≤ 1000000) : n < sizeLine := Nat.lt_of_le_of_lt h (by rw [sizeLine_eq]; decide)
/-- d.get(k, x) of a branch's lines: the line or what was given -/
theorem Lay.getLine {H : Hp} {S : Sh} {α : Rl → Addr} {δ : Dl} {J : List Str} {G : Jud} (L : Lay T H S α δ J G) {n : Int} {b : Br} (hb : aget S.brs n = some b) (k : Str) {H' : Hp} (s : Sm H H') {z : Addr} (hz : H' z = some (.lst [])) :
    ∃ o rs a, DGet H' (α (.lns n)) (.str k) o ∧ o.getD (.ref z) = .ref a ∧ H' a = some (.lst rs) ∧ Cels H' rs (b.line k) ∧ (a = z ∨ (Live S J (.ln n k) ∧ a = α (.ln n k))) := by
  have h := s.rd (L.lnsR hb)
  refine ⟨valV (enc Sum.inr (fun k _ => V.ref (α (.ln n k))) b.lines) (Sum.inr k), ?_⟩
  cases e : aget b.lines k with
  | none =>
    refine ⟨[], z, (.inl ⟨_, Sum.inr k, h, rfl, rfl⟩), ?_, hz, ?_⟩
    · rw [valV_enc inr_inj, e]; rfl
    · unfold Br.line; rw [e]; exact ⟨.nil, .inl rfl⟩
  | some l =>
    obtain ⟨rs, h1, h2⟩ := L.ln hb e
    refine ⟨rs, α (.ln n k), (.inl ⟨_, Sum.inr k, h, rfl, rfl⟩), ?_, s.lst h1, ?_⟩
    · rw [valV_enc inr_inj, e]; rfl
    · unfold Br.line; rw [e]; exact ⟨h2.tups s.tups, .inr ⟨⟨b, l, hb, e⟩, rfl⟩⟩
theorem Lay.gBr {H : Hp} {S : Sh} {α : Rl → Addr} {δ : Dl} {J : List Str} {G : Jud} (L : Lay T H S α δ J G) (n : Int) : DGet H (α .brs) (.int n) ((aget S.brs n).map fun _ => .ref (α (.br n))) := by
  rw [← valV_enc inl_inj S.brs n (g := fun n _ => V.ref (α (.br n)))]; exact DGet.k (k := Sum.inl n) L.brs
theorem Lay.gBr1 {H : Hp} {S : Sh} {α : Rl → Addr} {δ : Dl} {J : List Str} {G : Jud} (L : Lay T H S α δ J G) {n : Int} {b : Br} (h : aget S.brs n = some b) : DGet H (α .brs) (.int n) (some (.ref (α (.br n)))) := by
  have := L.gBr n; rw [h] at this; exact this
theorem Lay.gHn {H : Hp} {S : Sh} {α : Rl → Addr} {δ : Dl} {J : List Str} {G : Jud} (L : Lay T H S α δ J G) (n : Int) : DGet H (α .hns) (.int n) ((aget S.hns n).map fun _ => .ref (α (.hn n))) := by
  rw [← valV_enc inl_inj S.hns n (g := fun n _ => V.ref (α (.hn n)))]; exact DGet.k (k := Sum.inl n) L.hns
theorem Lay.gHn1 {H : Hp} {S : Sh} {α : Rl → Addr} {δ : Dl} {J : List Str} {G : Jud} (L : Lay T H S α δ J G) {n : Int} {h : Hn} (e : aget S.hns n = some h) : DGet H (α .hns) (.int n) (some (.ref (α (.hn n)))) := by
  have := L.gHn n; rw [e] at this; exact this
theorem Lay.gDr {H : Hp} {S : Sh} {α : Rl → Addr} {δ : Dl} {J : List Str} {G : Jud} (L : Lay T H S α δ J G) {n : Int} {h : Hn} (e : aget S.hns n = some h) (k : Str) : DGet H (α (.dr n)) (.str k) ((aget h.drafts k).map optV) := by
  rw [← valV_enc inr_inj h.drafts k (g := fun _ v => optV v)]; exact DGet.k (k := Sum.inr k) (L.dr e)
theorem Lay.gMk {H : Hp} {S : Sh} {α : Rl → Addr} {δ : Dl} {J : List Str} {G : Jud} (L : Lay T H S α δ J G) {n : Int} {b : Br} (e : aget S.brs n = some b) (k : Str) : DGet H (α (.mks n)) (.str k) ((aget b.marks k).map V.int) := by
  rw [← valV_enc inr_inj b.marks k (g := fun _ v => V.int v)]; exact DGet.k (k := Sum.inr k) (L.mks e)
def spSeen (T : Cs) : Sp := fun vs H Q _ => ∃ (Ks : List Str) (S : Sh) (α : Rl → Addr) (δ : Dl) (J : List Str) (G : Jud) (n m : Int) (k : Str), vs = [.ref (α .brs), .int n, .int m, .str k] ∧ Lay T H S α δ J G ∧ WF Ks S ∧
  (∃ b, aget S.brs n = some b) ∧ ∀ H', Sm H H' → Q (optV (seesM S k n m)) H'
theorem sc_seen_value : FnScope ["branches", "number", "moment", "key", "branch", "line", "place"] ["branches", "number", "moment", "key"] (defScope s_seen_value) := ⟨rfl, rfl, rfl, by decide +kernel, rfl, by decide +kernel, by decide +kernel⟩
theorem ok_seen_value {f : Addr} {fd : FuncData} (F : Fun K "seen_value" "seen_value" s_seen_value f fd) (B : Bt mg) (C : Cf K T) {f1 : Addr} {fd1 : FuncData} (A1 : At K mg "newest" s_newest ["line", "moment"] f1 fd1) :
    FnOk P w K mg base CX0 2 f fd ["branches", "number", "moment", "key"] (spSeen T) := by
  have G1 : FnOk P w K mg base CX0 1 f1 fd1 ["line", "moment"] (spNewest K) := ok_newest A1.F B
  refine F.ok sc_seen_value (fun vs H Q E h => ?_) (fun cdv A outer s H vs Q E hr h => ?_)
  · obtain ⟨Ks, S, α, δ, J, G, n, m, k, rfl, _⟩ := h
    rfl
  · obtain ⟨Ks, S, α, δ, J, G, n, m, k, rfl, L, W, ⟨b0, hb0⟩, kq⟩ := h
    have hu := hu_of hr
    refine ⟨_, pss_cons (ps_while PassesOwn.never (pt_cmpR op_notN (pv 1) pe_non (nomark _))
        (pss_cons (ps_set (i := 4) sc_seen_value.nd rfl (.inl rfl) (pe_dget hu (pv 0) (pv 1) (fun _ _ => rfl)))
        (pss_cons (ps_set (i := 5) sc_seen_value.nd rfl (.inl rfl) (pe_dget2 hu (pe_fld (pv 4) rfl) (pv 3) (pe_lst pa_nil) ⟨rfl, rfl, rfl, rfl⟩))
        (pss_cons (ps_set (i := 6) sc_seen_value.nd rfl (.inl rfl) (pe_call G1 hr rfl A1.g A1.k A1.b .nil pass0 (pa_cons (pv 5) (pa_cons (pv 2) pa_nil))))
        (pss_cons (ps_if (pt_cmpR op_ge (pv 6) pe_int (nomark _)) (pss_one (ps_ret (pe_ix ix_tup (pe_ix ix_list (pv 5) (pv 6) (fun _ _ => rfl)) pe_int (fun _ _ => rfl)))) pss_nil)
        (pss_cons (ps_set (i := 1) sc_seen_value.nd rfl (.inl rfl) (pe_fld (pv 4) rfl))
        (pss_one (ps_set (i := 2) sc_seen_value.nd rfl (.inl rfl) (pe_fld (pv 4) rfl)))))))))
      (pss_one (ps_ret pe_non)), ?_⟩
    refine while_by (fun σ H1 => Sm H H1 ∧ ∃ (x y z : Option V) (num : Option Int) (mo : Int), σ = [some (.ref (α .brs)), some (optV num), some (.int mo), some (.str k), x, y, z] ∧
        match num with
        | none => seesM S k n m = none
        | some q => (∃ b, aget S.brs q = some b) ∧ seesM S k n m = seesM S k q mo)
      (fun σ _ => match σ with | [_, some (.int q), _, _, _, _, _] => q.toNat + 1 | _ => 0)
      ⟨Sm.refl H, none, none, none, some n, m, rfl, ⟨b0, hb0⟩, rfl⟩ ?_ ?_
    · rintro σ H1 ⟨s1, x, y, z, num, mo, rfl, hn⟩
      cases num with
      | none =>
        refine ⟨_, rfl, rfl, _, rfl, ifF rfl ?_⟩
        have := kq H1 s1
        rw [show seesM S k n m = none from hn] at this
        exact this
      | some q =>
        obtain ⟨⟨b, hb⟩, he⟩ := hn
        refine ⟨_, rfl, rfl, _, rfl, ifT rfl ?_⟩
        have L1 := L.sm s1
        refine ⟨_, rfl, _, rfl, _, _, rfl, L1.gBr1 hb, ?_⟩
        refine ⟨_, rfl, _, _, _, _, _, rfl, L1.br hb, C.B, C.bLn, rfl, _, rfl, .inl ⟨_, L1.lnsR hb⟩, _, rfl, by show 0 ≤ sizeLine; exact Nat.zero_le _, fun p hp => ?_⟩
        have s2 := Sm.new (o := .lst []) hp
        obtain ⟨o, rs, a, g1, g2, g3, g4, _⟩ := L1.getLine hb k s2 upd_same
        refine ⟨o, g1, ?_⟩
        rw [g2]
        refine ⟨_, rfl, _, rfl, a, mo, rs, b.line k, rfl, SqL.of g3, g4, W.rise hb k, ?_⟩
        have L2 := L1.sm s2
        have hR := reachS_of W k mo hb
        cases hc : cnt (b.line k) mo with
        | zero =>
          rw [newC_none.mpr hc] at hR
          refine ⟨_, rfl, _, _, rfl, rfl, _, rfl, ifF (by rfl) ?_⟩
          refine ⟨_, rfl, _, _, _, _, _, rfl, L2.br hb, C.B, C.bBen, rfl, ?_⟩
          refine ⟨_, rfl, _, _, _, _, _, rfl, L2.br hb, C.B, C.bMom, rfl, ?_⟩
          refine ⟨⟨s1.trans s2, _, _, _, b.ben, b.mom, rfl, ?_⟩, ?_⟩
          · cases hq : b.ben with
            | none =>
              show seesM S k n m = none
              rw [he]; unfold seesM; rw [hR]; unfold belowS; rw [hq]; rfl
            | some q' =>
              refine ⟨(W.ben q b q' hb hq).2, ?_⟩
              rw [he]; unfold seesM; rw [hR]; unfold belowS; rw [hq]
          · cases hq : b.ben with
            | none => exact Nat.succ_pos _
            | some q' =>
              have h1 := (W.ben q b q' hb hq).1
              obtain ⟨c, hc'⟩ := (W.ben q b q' hb hq).2
              have h2 := (W.bnd q' c hc').1
              show q'.toNat + 1 < q.toNat + 1
              omega
        | succ j =>
          obtain ⟨c, c1, c2, c3⟩ := newC_at (W.rise hb k) hc
          rw [c2] at hR
          obtain ⟨t, t1, t2⟩ := g4.get c1
          refine ⟨_, rfl, _, _, rfl, rfl, _, rfl, ifT (decide_eq_true (by omega)) ?_⟩
          refine ⟨_, rfl, _, rfl, a, _, _, _, rfl, rfl, SqL.of g3, (by rw [show (((j + 1 : Nat) : Int) - 1) = (j : Int) by omega]; exact atI_nat t1), t, _, _, _, rfl, rfl, SqT.of t2, rfl, ?_⟩
          have := kq _ (s1.trans s2)
          rw [he] at this
          unfold seesM at this
          rw [hR] at this
          exact this
    · rintro σ H1 Q1 Q2 hq ⟨v, e, h1, b, h2, h3⟩
      exact ⟨v, e, h1, b, h2, hq _ _ h3⟩
end
end Vs
namespace Vs
open PySem L2
def letters : Str := "abcdefghijklmnopqrstuvwxyz"
structure Wd (mg : Str → Option Value) : Prop where
  letters : ∃ t, mg "LETTERS" = some (.str letters t)
  longest : ∃ t, mg "LONGEST_KEY" = some (.int 8 t)
  greatest : ∃ t, mg "GREATEST_VALUE" = some (.int 999999 t)
structure FunC (K : PySem.W.Frag) (x qual : Str) (st : Stmt) (f : Addr) (fd : FuncData) (c : Addr) : Prop where
  ex : ∃ (oc : Value) (od : Option Addr) (kV doc pm : Value) (an : Option Addr) (ct : Value) (osl : Array (Option Value)),
    fd = PySem.W.fnOf x qual (defArgs st) (defBody st) (defScope st) .none kV doc pm an (.ref c) ct ∧ K.lookup f = some ⟨oc, od, .func fd, osl⟩ ∧ PySem.W.codeIn K (.ref c) qual = true
section
variable {P : Program} {w : World} {K : PySem.W.Frag} {mg : Str → Option Value} {base : Heap} {T : Cs}
theorem FunC.ok {x qual : Str} {st : Stmt} {f c : Addr} {fd : FuncData} {N ps : List Str} {k : Nat} {sp : Sp} (F : FunC K x qual st f fd c) (S : FnScope N ps (defScope st)) (len : ∀ vs H Q E, sp vs H Q E → vs.length = ps.length)
    (body : ∀ (A : Around) (outer : List Env) (s : Shared) (H : Hp) (vs : List V) (Q : VK) (E : XK), Room k (A.deeper (PyProof.Rows.envOfC qual (defScope st) s.heap.objs.size f (.ref c))) → sp vs H Q E →
      ∃ t, PSs (cxOf CX0 P w K mg base N qual (defScope st) f (.ref c) A outer s H E).nox (defBody st) t ∧ t { nx := fun _ H' => Q .non H', rt := Q } (start N vs) H) : FnOk P w K mg base CX0 (k + 1) f fd ps sp := by
  obtain ⟨oc, od, kV, doc, pm, an, ct, osl, rfl, lk, cd⟩ := F.ex
  exact fn_of lk cd S len fun A outer s H vs Q E hr h => let ⟨t, h1, h2⟩ := body A outer s H vs Q E hr h; ⟨t, h1.nox, h2⟩
theorem noFree3 {a b c : Str} {R : Str × NameKind → Prop} : ∀ y ∈ [(a, NameKind.local), (b, NameKind.local), (c, NameKind.globalImplicit)], y.2 = NameKind.free → R y := fun y hy e => by
  rcases List.mem_cons.mp hy with h | hy
  · subst h; cases e
  · rcases List.mem_cons.mp hy with h | hy
    · subst h; cases e
    · rcases List.mem_cons.mp hy with h | hy
      · subst h; cases e
      · cases hy
def isKeyB (k : Str) : Bool := decide ((1 : Int) ≤ k.length) && (decide ((k.length : Int) ≤ 8) && k.cps.toList.all fun c => decide (c ∈ letters.cps.toList))
def spIsKey (Pt : Addr) : Sp := fun vs H Q _ => ∃ k : Str, vs = [.str k] ∧ k.length ≤ sizeLine ∧ GxR.TabG H Pt ∧ ∀ H', Sm H H' → Q (.bl (isKeyB k)) H'
theorem sc_is_key : FnScope ["text"] ["text"] (defScope s_is_key) := ⟨rfl, rfl, rfl, by decide +kernel, rfl, by decide +kernel, by decide +kernel⟩
theorem ok_is_key {f c Pt : Addr} {fd : FuncData} (F : FunC K "is_key" "is_key" s_is_key f fd c) (B : Bt mg) (D : Wd mg) (TB : GxR.TabB base mg c Pt) : FnOk P w K mg base CX0 3 f fd ["text"] (spIsKey Pt) := by
  refine F.ok sc_is_key (fun vs H Q E h => ?_) (fun A outer s H vs Q E hr h => ?_)
  · obtain ⟨k, rfl, _⟩ := h
    rfl
  · obtain ⟨k, rfl, hl, hT, kq⟩ := h
    obtain ⟨t1, hL⟩ := D.letters
    obtain ⟨t2, hM⟩ := D.longest
    refine ⟨_, pss_one (ps_ret (pe_and (pe_chain op_le op_le pe_int (pe_callB call_len_str (by rfl) B.len PySem.boot_len (pa_cons (pv 0) pa_nil)) (pe_glob (v := .int 8) rfl hM ⟨_, rfl⟩))
      (pe_one (pe_allM hr (by rfl) B.all (by decide +kernel) TB rfl ⟨rfl, rfl, by decide +kernel, rfl, rfl, noFree3⟩ (pv 0) (eltM_in rfl rfl rfl hL) (fun _ => rfl))))), ?_⟩
    refine ⟨_, rfl, _, rfl, hl, _, _, rfl, rfl, _, rfl, ?_⟩
    by_cases h1 : (1 : Int) ≤ k.length
    · refine ifT (decide_eq_true h1) ⟨_, _, rfl, rfl, _, rfl, ?_⟩
      by_cases h2 : (k.length : Int) ≤ 8
      · refine ifT (decide_eq_true h2) ⟨_, rfl, k, rfl, hT, fun H2 hTb => ?_⟩
        have := kq H2 (Sm.tabbed hT hTb)
        unfold isKeyB at this
        rw [decide_eq_true h1, decide_eq_true h2] at this
        exact this
      · refine ifF (decide_eq_false h2) ?_
        have := kq H (Sm.refl H)
        unfold isKeyB at this
        rw [decide_eq_true h1, decide_eq_false h2] at this
        exact this
    · refine ifF (decide_eq_false h1) ⟨_, rfl, ifF rfl ?_⟩
      have := kq H (Sm.refl H)
      unfold isKeyB at this
      rw [decide_eq_false h1] at this
      exact this
def isVal (v : Int) : Bool := decide (0 ≤ v) && decide (v ≤ 999999)
def spIsVal : Sp := fun vs H Q _ => ∃ v : Int, vs = [.int v] ∧ Q (.bl (isVal v)) H
theorem sc_is_value : FnScope ["number"] ["number"] (defScope s_is_value) := ⟨rfl, rfl, rfl, by decide +kernel, rfl, by decide +kernel, by decide +kernel⟩
theorem ok_is_value {f : Addr} {fd : FuncData} (F : Fun K "is_value" "is_value" s_is_value f fd) (D : Wd mg) : FnOk P w K mg base CX0 1 f fd ["number"] spIsVal := by
  refine F.ok sc_is_value (fun vs H Q E h => ?_) (fun cdv A outer s H vs Q E hr h => ?_)
  · obtain ⟨k, rfl, _⟩ := h
    rfl
  · obtain ⟨v, rfl, kq⟩ := h
    obtain ⟨t2, hM⟩ := D.greatest
    refine ⟨_, pss_one (ps_ret (pe_chain op_le op_le pe_int (pv 0) (pe_glob (v := .int 999999) rfl hM ⟨_, rfl⟩))), ?_⟩
    refine ⟨_, rfl, _, _, rfl, rfl, _, rfl, ?_⟩
    unfold isVal at kq
    by_cases h1 : 0 ≤ v
    · refine ifT (decide_eq_true h1) ⟨_, _, rfl, rfl, ?_⟩
      rw [decide_eq_true h1] at kq
      exact kq
    · refine ifF (decide_eq_false h1) ?_
      rw [decide_eq_false h1] at kq
      exact kq
end
end Vs
namespace Vs
open PySem L2
/-- what the written part says of a refusal's class -/
structure Xc (K : PySem.W.Frag) (mg : Str → Option Value) (x : Str) (C : Addr) : Prop where
  g : mg x = some (.ref C)
  x : PySem.W.excIn K C [.type "ValueError", .type "Exception", .type "BaseException", .type "object"] "ValueError.__new__" = true
  k : PySem.W.keepIn K (.ref C) = true
  b : PySem.W.subIn K (.ref C) (.type "BaseException") = some true
  t : PySem.W.typeIn K (.ref C) = some (.type "type")
structure Es where
  badKey : Addr
  noHand : Addr
  noBranch : Addr
  dropped : Addr
  clash : Addr
  noCell : Addr
structure Ex (K : PySem.W.Frag) (mg : Str → Option Value) (U : Es) : Prop where
  badKey : Xc K mg "BadKey" U.badKey
  noHand : Xc K mg "NoHand" U.noHand
  noBranch : Xc K mg "NoBranch" U.noBranch
  dropped : Xc K mg "Dropped" U.dropped
theorem log2_small {i : Int} (h : i.natAbs < 10 ^ 20) : i.natAbs.log2 < 1920 := by
  by_cases z : i.natAbs = 0
  · rw [z]; decide
  · exact (Nat.log2_lt z).mpr (Nat.lt_trans h (by decide))
theorem text_small {i : Int} (h : i.natAbs < 10 ^ 20) : (Str.ofString (toString i)).length ≤ 21 := by
  rw [ofString_length]; exact int_text_length_le10 (by decide) h
theorem fit2 {a b : Str} {n : Nat} (ha : a.length ≤ n) (hb : b.length ≤ 2000) (hn : n ≤ 100000 := by decide) : (a ++ b).length ≤ n + 2000 ∧ (a ++ b).length ≤ sizeLine := by
  rw [Str.length_append, sizeLine_eq]
  constructor <;> omega
theorem fit1 {b : Str} (hb : b.length ≤ 2000) : (Str.empty ++ b).length ≤ 2000 ∧ (Str.empty ++ b).length ≤ sizeLine := by
  rw [Str.length_append, sizeLine_eq]
  have : Str.empty.length = 0 := rfl
  constructor <;> omega
theorem le2000 {n : Nat} (h : n ≤ 2000) : n ≤ sizeLine := by rw [sizeLine_eq]; omega
section
variable {P : Program} {w : World} {K : PySem.W.Frag} {mg : Str → Option Value} {base : Heap} {T : Cs} {U : Es}
def spCheck (U : Es) (Pt : Addr) : Sp := fun vs H Q E => ∃ k : Str, vs = [.str k] ∧ k.length ≤ 1000 ∧ GxR.TabG H Pt ∧ ∀ H', Sm H H' → (isKeyB k = true → Q .non H') ∧ (isKeyB k = false → E (.ref U.badKey) none H')
theorem sc_check_key : FnScope ["key"] ["key"] (defScope s_check_key) := ⟨rfl, rfl, rfl, by decide +kernel, rfl, by decide +kernel, by decide +kernel⟩
theorem ok_check_key {f : Addr} {fd : FuncData} (F : Fun K "check_key" "check_key" s_check_key f fd) (X : Ex K mg U) {f1 Pt : Addr} {fd1 : FuncData} (g1 : mg "is_key" = some (.ref f1)) (k1 : PySem.W.keepIn K (.ref f1) = true) (b1 : Binds K fd1 ["text"] [])
    (G1 : FnOk P w K mg base CX0 3 f1 fd1 ["text"] (spIsKey Pt)) : FnOk P w K mg base (L2N.CX P w) 4 f fd ["key"] (spCheck U Pt) := by
  refine F.okX' sc_check_key (fun vs H Q E h => ?_) (fun cdv A outer s H vs Q E hr h => ?_)
  · obtain ⟨k, rfl, _⟩ := h
    rfl
  · obtain ⟨k, rfl, hl, hT, kq⟩ := h
    refine ⟨_, pss_one (ps_if (pt_not (pt_val (pe_call G1 hr rfl g1 k1 b1 .nil pass0 (pa_cons (pv 0) pa_nil))))
      (pss_one (L2N.ps_raise rfl (L2N.takes_of rfl rfl rfl rfl) (pmkN_own PySem.F.excBase_ValueError X.badKey.x X.badKey.g X.badKey.k (raises_own X.badKey.b X.badKey.t) rfl (pa_cons (pe_joined (.cons (pe_fmt (pv 0)) (.cons pe_str .nil))) pa_nil)))) pss_nil), ?_⟩
    refine ⟨_, rfl, k, rfl, le2000 (by omega), hT, fun H' hs => ?_⟩
    obtain ⟨q1, q2⟩ := kq H' hs
    cases hk : isKeyB k with
    | true => exact ⟨_, rfl, ifF rfl (q1 hk)⟩
    | false =>
      have f1 := fit1 (b := k) (by omega)
      have f2 := fit2 (b := (" is no key" : Str)) f1.1 (by decide +kernel)
      exact ⟨_, rfl, ifT rfl ⟨_, rfl, .inl ⟨_, rfl, le2000 (by omega), _, rfl, f1.2, _, rfl, f2.2, by show 1 ≤ sizeLine; decide, q2 hk⟩⟩⟩
/-! ### hand_there, branch_there -/
def spHandThere (T : Cs) (U : Es) : Sp := fun vs H Q E => ∃ (S : Sh) (α : Rl → Addr) (δ : Dl) (J : List Str) (G : Jud) (n : Int), vs = [.ref (α .sh), .int n] ∧ Lay T H S α δ J G ∧ n.natAbs < 10 ^ 20 ∧
  (∀ h, aget S.hns n = some h → Q (.ref (α (.hn n))) H) ∧ (aget S.hns n = none → E (.ref U.noHand) none H)
theorem sc_hand_there : FnScope ["self", "hand"] ["self", "hand"] (defScope s_Shelf_hand_there) := ⟨rfl, rfl, rfl, by decide +kernel, rfl, by decide +kernel, by decide +kernel⟩
theorem ok_hand_there {f : Addr} {fd : FuncData} (F : Fun K "hand_there" "Shelf.hand_there" s_Shelf_hand_there f fd) (C : Cf K T) (X : Ex K mg U) : FnOk P w K mg base (L2N.CX P w) 1 f fd ["self", "hand"] (spHandThere T U) := by
  refine F.okX' sc_hand_there (fun vs H Q E h => ?_) (fun cdv A outer s H vs Q E hr h => ?_)
  · obtain ⟨S, α, δ, J, G, n, rfl, _⟩ := h
    rfl
  · obtain ⟨S, α, δ, J, G, n, rfl, L, hn, q1, q2⟩ := h
    have hu := hu_of hr
    refine ⟨_, pss_cons (ps_if (pt_cmp (pc_dnotin hu (pv 1) (pe_fld (pv 0) rfl)))
      (pss_one (L2N.ps_raise rfl (L2N.takes_of rfl rfl rfl rfl) (pmkN_own PySem.F.excBase_ValueError X.noHand.x X.noHand.g X.noHand.k (raises_own X.noHand.b X.noHand.t) rfl (pa_cons (pe_joined (.cons pe_str (.cons (pe_fmt (pv 1)) .nil))) pa_nil)))) pss_nil)
      (pss_one (ps_ret (pe_dget hu (pe_fld (pv 0) rfl) (pv 1) (fun _ _ => rfl)))), ?_⟩
    have hg := L.gHn n
    refine ⟨_, rfl, _, rfl, _, _, _, _, _, rfl, L.sh, C.S, C.sHns, rfl, _, _, rfl, hg, _, rfl, ?_⟩
    cases hh : aget S.hns n with
    | none =>
      have f1 := fit1 (b := ("there is no hand " : Str)) (by decide +kernel)
      have f2 := fit2 (b := Str.ofString (toString n)) f1.1 (by have := text_small hn; omega)
      exact ifT rfl ⟨_, rfl, f1.2, _, rfl, .inr ⟨n, rfl, log2_small hn, _, rfl, f2.2, by show 1 ≤ sizeLine; decide, q2 hh⟩⟩
    | some h =>
      refine ifF rfl ⟨_, rfl, _, _, _, _, _, rfl, L.sh, C.S, C.sHns, rfl, _, rfl, _, _, rfl, L.gHn1 hh, q1 h hh⟩
def spBranchThere (T : Cs) (U : Es) : Sp := fun vs H Q E => ∃ (S : Sh) (α : Rl → Addr) (δ : Dl) (J : List Str) (G : Jud) (n : Int), vs = [.ref (α .sh), .int n] ∧ Lay T H S α δ J G ∧ n.natAbs < 10 ^ 20 ∧
  (∀ b, aget S.brs n = some b → Q (.ref (α (.br n))) H) ∧ (aget S.brs n = none → E (.ref U.noBranch) none H)
theorem sc_branch_there : FnScope ["self", "branch"] ["self", "branch"] (defScope s_Shelf_branch_there) := ⟨rfl, rfl, rfl, by decide +kernel, rfl, by decide +kernel, by decide +kernel⟩
theorem ok_branch_there {f : Addr} {fd : FuncData} (F : Fun K "branch_there" "Shelf.branch_there" s_Shelf_branch_there f fd) (C : Cf K T) (X : Ex K mg U) : FnOk P w K mg base (L2N.CX P w) 1 f fd ["self", "branch"] (spBranchThere T U) := by
  refine F.okX' sc_branch_there (fun vs H Q E h => ?_) (fun cdv A outer s H vs Q E hr h => ?_)
  · obtain ⟨S, α, δ, J, G, n, rfl, _⟩ := h
    rfl
  · obtain ⟨S, α, δ, J, G, n, rfl, L, hn, q1, q2⟩ := h
    have hu := hu_of hr
    refine ⟨_, pss_cons (ps_if (pt_cmp (pc_dnotin hu (pv 1) (pe_fld (pv 0) rfl)))
      (pss_one (L2N.ps_raise rfl (L2N.takes_of rfl rfl rfl rfl) (pmkN_own PySem.F.excBase_ValueError X.noBranch.x X.noBranch.g X.noBranch.k (raises_own X.noBranch.b X.noBranch.t) rfl (pa_cons (pe_joined (.cons pe_str (.cons (pe_fmt (pv 1)) .nil))) pa_nil)))) pss_nil)
      (pss_one (ps_ret (pe_dget hu (pe_fld (pv 0) rfl) (pv 1) (fun _ _ => rfl)))), ?_⟩
    have hg := L.gBr n
    refine ⟨_, rfl, _, rfl, _, _, _, _, _, rfl, L.sh, C.S, C.sBrs, rfl, _, _, rfl, hg, _, rfl, ?_⟩
    cases hh : aget S.brs n with
    | none =>
      have f1 := fit1 (b := ("there is no branch " : Str)) (by decide +kernel)
      have f2 := fit2 (b := Str.ofString (toString n)) f1.1 (by have := text_small hn; omega)
      exact ifT rfl ⟨_, rfl, f1.2, _, rfl, .inr ⟨n, rfl, log2_small hn, _, rfl, f2.2, by show 1 ≤ sizeLine; decide, q2 hh⟩⟩
    | some h =>
      refine ifF rfl ⟨_, rfl, _, _, _, _, _, rfl, L.sh, C.S, C.sBrs, rfl, _, rfl, _, _, rfl, L.gBr1 hh, q1 h hh⟩
end
end Vs
namespace Vs
open PySem L2
def LyAt (T : Cs) (H : Hp) (p : Addr) (S : Sh) (F : Addr → Prop) : Prop := ∃ α δ J G, α .sh = p ∧ F = Foot S α J ∧ Lay T H S α δ J G ∧ δ.Thaw
theorem ShAt.ly {T : Cs} {H : Hp} {p : Addr} {S : Sh} {F : Addr → Prop} (h : ShAt T H p S F) : LyAt T H p S F := by
  obtain ⟨α, δ, J, G, h1, h2, h3, _, h5⟩ := h
  exact ⟨α, δ, J, G, h1, h2, h3, h5⟩
theorem ShAt.sm {T : Cs} {H H' : Hp} {p : Addr} {S : Sh} {F : Addr → Prop} (h : ShAt T H p S F) (s : Sm H H') : ShAt T H' p S F := by
  obtain ⟨α, δ, J, G, h1, h2, h3, h4⟩ := h
  exact ⟨α, δ, J, G, h1, h2, h3.sm s, h4⟩
section
variable (P : Program) (w : World) (K : PySem.W.Frag) (mg : Str → Option Value) (base : Heap)
/-- a def of the module that keeps its promise -/
def Fx (CX : CXT) (x : Str) (k : Nat) (ps : List Str) (sp : Sp) : Prop :=
  ∃ (f : Addr) (fd : FuncData), mg x = some (.ref f) ∧ PySem.W.keepIn K (.ref f) = true ∧ Binds K fd ps [] ∧ FnOk P w K mg base CX k f fd ps sp
/-- a method that keeps its promise -/
def Mx (CX : CXT) (C : Addr) (x : Str) (k : Nat) (ps : List Str) (sp : Sp) : Prop :=
  ∃ (f : Addr) (fd : FuncData), Meth K C x f ∧ Binds K fd ps [] ∧ FnOk P w K mg base CX k f fd ps sp
/-- a class that is made by its __init__ -/
def Kx (x : Str) (C : Addr) (k : Nat) (ps : List Str) (sp : Sp) : Prop :=
  ∃ (f : Addr) (fd : FuncData), mg x = some (.ref C) ∧ Mk K C f ∧ Binds K fd ps [] ∧ FnOk P w K mg base CX0 k f fd ps sp
end
section
variable {P : Program} {w : World} {K : PySem.W.Frag} {mg : Str → Option Value} {base : Heap} {T : Cs} {U : Es} {Pt : Addr}
def lookM (S : Sh) (h : Hn) (k : Str) : Option Int := match aget h.drafts k with
  | some v => v
  | none => seesM S k h.br h.mom
def spSeenHand (T : Cs) : Sp := fun vs H Q _ => ∃ (Ks : List Str) (S : Sh) (α : Rl → Addr) (δ : Dl) (J : List Str) (G : Jud) (n : Int) (h : Hn) (k : Str), vs = [.ref (α .brs), .ref (α (.hn n)), .str k] ∧ Lay T H S α δ J G ∧ WF Ks S ∧
  aget S.hns n = some h ∧ ∀ H', Sm H H' → Q (optV (lookM S h k)) H'
theorem sc_seen_by_hand : FnScope ["branches", "hand", "key"] ["branches", "hand", "key"] (defScope s_seen_by_hand) := ⟨rfl, rfl, rfl, by decide +kernel, rfl, by decide +kernel, by decide +kernel⟩
theorem ok_seen_by_hand {f : Addr} {fd : FuncData} (F : Fun K "seen_by_hand" "seen_by_hand" s_seen_by_hand f fd) (C : Cf K T) (c1 : Fx P w K mg base CX0 "seen_value" 2 ["branches", "number", "moment", "key"] (spSeen T)) :
    FnOk P w K mg base CX0 3 f fd ["branches", "hand", "key"] (spSeenHand T) := by
  obtain ⟨f1, fd1, g1, k1, b1, G1⟩ := c1
  refine F.ok sc_seen_by_hand (fun vs H Q E h => ?_) (fun cdv A outer s H vs Q E hr h => ?_)
  · obtain ⟨Ks, S, α, δ, J, G, n, h, k, rfl, _⟩ := h
    rfl
  · obtain ⟨Ks, S, α, δ, J, G, n, h, k, rfl, L, W, hh, kq⟩ := h
    have hu := hu_of hr
    refine ⟨_, pss_cons (ps_if (pt_cmp (pc_din hu (pv 2) (pe_fld (pv 1) rfl))) (pss_one (ps_ret (pe_dget hu (pe_fld (pv 1) rfl) (pv 2) (fun _ _ => rfl)))) pss_nil)
      (pss_one (ps_ret (pe_call G1 hr rfl g1 k1 b1 .nil pass0 (pa_cons (pv 0) (pa_cons (pe_fld (pv 1) rfl) (pa_cons (pe_fld (pv 1) rfl) (pa_cons (pv 2) pa_nil))))))), ?_⟩
    have hg := L.gDr hh k
    refine ⟨_, rfl, _, rfl, _, _, _, _, _, rfl, L.hn hh, C.N, C.nDr, rfl, _, _, rfl, hg, _, rfl, ?_⟩
    unfold lookM at kq
    cases e : aget h.drafts k with
    | some v =>
      rw [e] at kq hg
      exact ifT rfl ⟨_, rfl, _, _, _, _, _, rfl, L.hn hh, C.N, C.nDr, rfl, _, rfl, _, _, rfl, hg, kq H (Sm.refl H)⟩
    | none =>
      rw [e] at kq
      refine ifF rfl ⟨_, rfl, _, rfl, _, _, _, _, _, rfl, L.hn hh, C.N, C.nBr, rfl, _, rfl, _, _, _, _, _, rfl, L.hn hh, C.N, C.nMom, rfl, _, rfl, ?_⟩
      exact ⟨Ks, S, α, δ, J, G, h.br, h.mom, k, rfl, L, W, (W.hn n h hh).2.2.1, kq⟩
/-! ### look -/
def spLook (T : Cs) (U : Es) (Pt : Addr) : Sp := fun vs H Q E => ∃ (Ks : List Str) (p : Addr) (S : Sh) (F : Addr → Prop) (n : Int) (k : Str), vs = [.ref p, .int n, .str k] ∧ LyAt T H p S F ∧ WF Ks S ∧ GxR.TabG H Pt ∧
  n.natAbs < 10 ^ 20 ∧ k.length ≤ 1000 ∧ ∀ H', Sm H H' →
    (∀ h, aget S.hns n = some h → (isKeyB k = true → Q (optV (lookM S h k)) H') ∧ (isKeyB k = false → E (.ref U.badKey) none H')) ∧ (aget S.hns n = none → E (.ref U.noHand) none H')
theorem sc_look : FnScope ["self", "hand", "key", "held"] ["self", "hand", "key"] (defScope s_Shelf_look) := ⟨rfl, rfl, rfl, by decide +kernel, rfl, by decide +kernel, by decide +kernel⟩
theorem fSh_no {S : Sh} {α : Rl → Addr} {m : Str} (h : (["now", "branches", "branches_made", "hands", "hands_made", "judged"] : List Str).contains m = false := by decide +kernel) : (fSh S α).lookup m = none := by
  unfold fSh
  simp only [List.contains_cons, Bool.or_eq_false_iff] at h
  obtain ⟨h1, h2, h3, h4, h5, h6, _⟩ := h
  simp [List.lookup, h1, h2, h3, h4, h5, h6]
theorem ok_look {f : Addr} {fd : FuncData} (F : Fun K "look" "Shelf.look" s_Shelf_look f fd) (C : Cf K T) (c1 : Mx P w K mg base (L2N.CX P w) T.S "hand_there" 1 ["self", "hand"] (spHandThere T U))
    (c2 : Fx P w K mg base (L2N.CX P w) "check_key" 4 ["key"] (spCheck U Pt)) (c3 : Fx P w K mg base CX0 "seen_by_hand" 3 ["branches", "hand", "key"] (spSeenHand T)) :
    FnOk P w K mg base (L2N.CX P w) 5 f fd ["self", "hand", "key"] (spLook T U Pt) := by
  obtain ⟨f1, fd1, m1, b1, G1⟩ := c1
  obtain ⟨f2, fd2, g2, k2, b2, G2⟩ := c2
  obtain ⟨f3, fd3, g3, k3, b3, G3⟩ := c3
  refine F.okX' sc_look (fun vs H Q E h => ?_) (fun cdv A outer s H vs Q E hr h => ?_)
  · obtain ⟨Ks, p, S, F, n, k, rfl, _⟩ := h
    rfl
  · obtain ⟨Ks, p, S, F, n, k, rfl, ⟨α, δ, J, G, rfl, rfl, L, Z⟩, W, hT, hn, hk, kq⟩ := h
    have hu := hu_of hr
    refine ⟨_, pss_cons (ps_set (i := 3) sc_look.nd rfl (.inl rfl) (pe_meth (pv 0) C.S m1 G1 (hr.mono (by decide)) b1 .nil (L2N.passes_call (L2N.takes_of rfl rfl rfl rfl) (fun _ _ _ _ h => h)) (pa_cons (pv 1) pa_nil)))
      (pss_cons (ps_expr (pe_call G2 hr rfl g2 k2 b2 .nil (L2N.passes_call (L2N.takes_of rfl rfl rfl rfl) (fun _ _ _ _ h => h)) (pa_cons (pv 2) pa_nil)))
      (pss_one (ps_ret (pe_call G3 (hr.mono (by decide)) rfl g3 k3 b3 .nil pass0 (pa_cons (pe_fld (pv 0) rfl) (pa_cons (pv 3) (pa_cons (pv 2) pa_nil))))))), ?_⟩
    refine ⟨_, rfl, _, _, _, rfl, L.sh, fSh_no, _, rfl, S, α, δ, J, G, n, rfl, L, hn, fun h hh => ?_, fun hh => (kq H (Sm.refl H)).2 hh⟩
    refine ⟨_, rfl, k, rfl, hk, hT, fun H1 s1 => ⟨fun hy => ?_, fun hy => ((kq H1 s1).1 h hh).2 hy⟩⟩
    have L1 := L.sm s1
    refine ⟨_, rfl, _, _, _, _, _, rfl, L1.sh, C.S, C.sBrs, rfl, _, rfl, _, rfl, ?_⟩
    exact ⟨Ks, S, α, δ, J, G, n, h, k, rfl, L1, W, hh, fun H2 s2 => ((kq H2 (s1.trans s2)).1 h hh).1 hy⟩
end
end Vs
namespace Vs
open PySem L2
section
variable {P : Program} {w : World} {K : PySem.W.Frag} {mg : Str → Option Value} {base : Heap} {T : Cs} {U : Es} {Pt : Addr}
/-! ### Hand(branch, moment) -/
def spHandInit (T : Cs) : Sp := fun vs H Q _ => ∃ (x dx : Addr) (br mom : Int), vs = [.ref x, .int br, .int mom] ∧ H x = some (.ins T.N dx []) ∧
  ∀ d H', H d = none → (∀ b o, H b = some o → b ≠ x → H' b = some o) → H' x = some (.ins T.N dx [("branch", .int br), ("moment", .int mom), ("drafts", .ref d)]) → H' d = some (.dK []) → Q .non H'
theorem sc_Hand_init : FnScope ["self", "branch", "moment"] ["self", "branch", "moment"] (defScope s_Hand___init__) := ⟨rfl, rfl, rfl, by decide +kernel, rfl, by decide +kernel, by decide +kernel⟩
theorem ok_Hand_init {f : Addr} {fd : FuncData} (F : Fun K "__init__" "Hand.__init__" s_Hand___init__ f fd) (C : Cf K T) : FnOk P w K mg base CX0 1 f fd ["self", "branch", "moment"] (spHandInit T) := by
  refine F.ok sc_Hand_init (fun vs H Q E h => ?_) (fun cdv A outer s H vs Q E hr h => ?_)
  · obtain ⟨x, dx, br, mom, rfl, _⟩ := h
    rfl
  · obtain ⟨x, dx, br, mom, rfl, hx, kq⟩ := h
    refine ⟨_, pss_cons (ps_fld (pv 0) (pv 1) rfl) (pss_cons (ps_fld (pv 0) (pv 2) rfl) (pss_one (ps_fld (pv 0) pe_dnewK rfl))), ?_⟩
    refine ⟨_, rfl, _, rfl, x, T.N, dx, _, rfl, hx, C.N, C.nBr, by show 0 < 1000; decide, ?_⟩
    refine ⟨_, rfl, _, rfl, x, T.N, dx, _, rfl, upd_same, C.N, C.nMom, by show 1 < 1000; decide, ?_⟩
    rw [upd_upd]
    intro d hd
    have ndx : d ≠ x := fun e => by rw [e, upd_same] at hd; cases hd
    have hd0 : H d = none := by rw [upd_ne ndx] at hd; exact hd
    refine ⟨_, rfl, x, T.N, dx, _, rfl, by rw [upd_ne (Ne.symm ndx)]; exact upd_same, C.N, C.nDr, by show 2 < 1000; decide, ?_⟩
    refine kq d _ hd0 (fun b o e nb => ?_) upd_same (by rw [upd_ne ndx]; exact upd_same)
    rw [upd_ne nb, upd_ne (ne_of_none e hd0), upd_ne nb]; exact e
/-! ### add_hand -/
def Sh.addHand (S : Sh) (br mom : Int) : Sh := { S with hns := S.hns ++ [(S.hm, ⟨br, mom, []⟩)], hm := S.hm + 1 }
def Sh.delHand (S : Sh) (n : Int) : Sh := { S with hns := adel S.hns n }
theorem WF.fresh {Ks : List Str} {S : Sh} (W : WF Ks S) : aget S.hns S.hm = none := by
  cases e : aget S.hns S.hm with
  | none => rfl
  | some h => have := (W.hn _ _ e).2.1; omega
theorem WF.lenH {Ks : List Str} {S : Sh} (W : WF Ks S) : S.hns.length ≤ 1000000 := Nat.le_trans W.cap.h (by decide)
def spAddHand (T : Cs) : Sp := fun vs H Q _ => ∃ (Ks : List Str) (p : Addr) (S : Sh) (F : Addr → Prop) (br mom : Int), vs = [.ref p, .int br, .int mom] ∧ LyAt T H p S F ∧ WF Ks S ∧
  ∀ H' F', ShAt T H' p (S.addHand br mom) F' → Step H F H' F' → Q (.int S.hm) H'
theorem sc_add_hand : FnScope ["self", "branch", "moment", "number"] ["self", "branch", "moment"] (defScope s_Shelf_add_hand) := ⟨rfl, rfl, rfl, by decide +kernel, rfl, by decide +kernel, by decide +kernel⟩
theorem ok_add_hand {f : Addr} {fd : FuncData} (F : Fun K "add_hand" "Shelf.add_hand" s_Shelf_add_hand f fd) (C : Cf K T) (c1 : Kx P w K mg base "Hand" T.N 1 ["self", "branch", "moment"] (spHandInit T)) :
    FnOk P w K mg base CX0 3 f fd ["self", "branch", "moment"] (spAddHand T) := by
  obtain ⟨f1, fd1, g1, m1, b1, G1⟩ := c1
  refine F.ok sc_add_hand (fun vs H Q E h => ?_) (fun cdv A outer s H vs Q E hr h => ?_)
  · obtain ⟨Ks, p, S, F, br, mom, rfl, _⟩ := h
    rfl
  · obtain ⟨Ks, p, S, F, br, mom, rfl, ⟨α, δ, J, G, rfl, rfl, L, Z⟩, W, kq⟩ := h
    have hu := hu_of hr
    refine ⟨_, pss_cons (ps_set (i := 3) sc_add_hand.nd rfl (.inl rfl) (pe_fld (pv 0) rfl))
      (pss_cons (ps_dput hu (pe_fld (pv 0) rfl) (pv 3) (pe_make m1 G1 hr rfl g1 b1 .nil pass0 (pa_cons (pv 1) (pa_cons (pv 2) pa_nil))) rfl)
      (pss_cons (ps_fldaug (pv 0) pe_int in_add)
      (pss_cons (ps_fld (pv 0) pe_dnewK rfl)
      (pss_one (ps_ret (pv 3)))))), ?_⟩
    refine ⟨_, rfl, _, _, _, _, _, rfl, L.sh, C.S, C.sHm, rfl, ?_⟩
    refine ⟨_, rfl, _, rfl, fun x dx hx hdx ndx => ?_⟩
    refine ⟨x, dx, br, mom, rfl, upd_same, fun d H1 hd k1 h1 h2 => ⟨rfl, ?_⟩⟩
    have ndx' : d ≠ x := fun e => by rw [e, upd_same] at hd; cases hd
    have ndd : d ≠ dx := fun e => by rw [e, upd_ne ndx, upd_same] at hd; cases hd
    have hd0 : H d = none := by rw [upd_ne ndx', upd_ne ndd] at hd; exact hd
    have k0 : ∀ b o, H b = some o → H1 b = some o := fun b o e => k1 b o (by rw [upd_ne (ne_of_none e hx), upd_ne (ne_of_none e hdx)]; exact e) (ne_of_none e hx)
    have e1 : H1 (α .sh) = some (.ins T.S (δ .sh) (fSh S α)) := k0 _ _ L.sh
    refine ⟨_, rfl, _, _, _, _, _, rfl, e1, C.S, C.sHns, rfl, _, rfl, _, _, rfl, DPut.k (k := Sum.inl S.hm) (k0 _ _ L.hns) (by rw [enc_length]; exact le1000000 W.lenH), ?_⟩
    obtain ⟨L2, st2⟩ := L.newHand (br := br) (mom := mom) W.fresh hx hd0 (Ne.symm ndx') k0 h1 h2
    refine ⟨_, rfl, _, _, _, _, _, rfl, L2.sh, C.S, C.sHm, rfl, _, _, rfl, rfl, _, _, L2.sh, by show 6 < 1000; decide, ?_⟩
    obtain ⟨L3, st3⟩ := L2.setSh S.now S.bm (S.hm + 1)
    intro j hj
    refine ⟨_, rfl, _, _, _, _, rfl, (upd_ne (ne_of_none L3.sh hj)).trans L3.sh, C.S, C.sJd, by show 6 < 1000; decide, ?_⟩
    obtain ⟨L4, st4⟩ := L3.void hj
    exact ⟨_, rfl, kq _ _ ⟨aJd (aHn α S.hm x d) j, _, [], G, rfl, rfl, L4, RightJ.nil, Z⟩ (st2.trans (st3.trans st4))⟩
/-! ### let_go -/
def spLetGo (T : Cs) : Sp := fun vs H Q _ => ∃ (p : Addr) (S : Sh) (F : Addr → Prop) (n : Int) (h : Hn), vs = [.ref p, .int n] ∧ LyAt T H p S F ∧ aget S.hns n = some h ∧
  ∀ H' F', ShAt T H' p (S.delHand n) F' → Step H F H' F' → Q .non H'
theorem sc_let_go : FnScope ["self", "hand"] ["self", "hand"] (defScope s_Shelf_let_go) := ⟨rfl, rfl, rfl, by decide +kernel, rfl, by decide +kernel, by decide +kernel⟩
theorem ok_let_go {f : Addr} {fd : FuncData} (F : Fun K "let_go" "Shelf.let_go" s_Shelf_let_go f fd) (C : Cf K T) : FnOk P w K mg base CX0 1 f fd ["self", "hand"] (spLetGo T) := by
  refine F.ok sc_let_go (fun vs H Q E h => ?_) (fun cdv A outer s H vs Q E hr h => ?_)
  · obtain ⟨p, S, F, n, h, rfl, _⟩ := h
    rfl
  · obtain ⟨p, S, F, n, h, rfl, ⟨α, δ, J, G, rfl, rfl, L, Z⟩, hh, kq⟩ := h
    refine ⟨_, pss_cons (ps_ddel (pe_fld (pv 0) rfl) (pv 1)) (pss_one (ps_fld (pv 0) pe_dnewK rfl)), ?_⟩
    refine ⟨_, rfl, _, _, _, _, _, rfl, L.sh, C.S, C.sHns, rfl, _, rfl, _, _, Sum.inl n, rfl, L.hns, rfl, by rw [valV_enc inl_inj, hh]; rfl, ?_⟩
    obtain ⟨L1, st1⟩ := L.delHand n
    intro j hj
    refine ⟨_, rfl, _, _, _, _, rfl, (upd_ne (ne_of_none L1.sh hj)).trans L1.sh, C.S, C.sJd, by show 6 < 1000; decide, ?_⟩
    obtain ⟨L2, st2⟩ := L1.void hj
    exact kq _ _ ⟨aJd α j, δ, [], G, rfl, rfl, L2, RightJ.nil, Z⟩ (st1.trans st2)
/-! ### begin, close -/
def spBegin (T : Cs) (U : Es) : Sp := fun vs H Q E => ∃ (Ks : List Str) (p : Addr) (S : Sh) (F : Addr → Prop) (n : Int), vs = [.ref p, .int n] ∧ LyAt T H p S F ∧ WF Ks S ∧ n.natAbs < 10 ^ 20 ∧
  (∀ b, aget S.brs n = some b → (b.alive = true → ∀ H' F', ShAt T H' p (S.addHand n S.now) F' → Step H F H' F' → Q (.int S.hm) H') ∧ (b.alive = false → E (.ref U.dropped) none H)) ∧ (aget S.brs n = none → E (.ref U.noBranch) none H)
theorem sc_begin : FnScope ["self", "branch"] ["self", "branch"] (defScope s_Shelf_begin) := ⟨rfl, rfl, rfl, by decide +kernel, rfl, by decide +kernel, by decide +kernel⟩
theorem ok_begin {f : Addr} {fd : FuncData} (F : Fun K "begin" "Shelf.begin" s_Shelf_begin f fd) (C : Cf K T) (X : Ex K mg U) (c1 : Mx P w K mg base (L2N.CX P w) T.S "branch_there" 1 ["self", "branch"] (spBranchThere T U))
    (c2 : Mx P w K mg base CX0 T.S "add_hand" 3 ["self", "branch", "moment"] (spAddHand T)) : FnOk P w K mg base (L2N.CX P w) 4 f fd ["self", "branch"] (spBegin T U) := by
  obtain ⟨f1, fd1, m1, b1, G1⟩ := c1
  obtain ⟨f2, fd2, m2, b2, G2⟩ := c2
  refine F.okX' sc_begin (fun vs H Q E h => ?_) (fun cdv A outer s H vs Q E hr h => ?_)
  · obtain ⟨Ks, p, S, F, n, rfl, _⟩ := h
    rfl
  · obtain ⟨Ks, p, S, F, n, rfl, ⟨α, δ, J, G, rfl, rfl, L, Z⟩, W, hn, q1, q2⟩ := h
    refine ⟨_, pss_cons (ps_if (pt_not (pt_val (pe_fld (pe_meth (pv 0) C.S m1 G1 (hr.mono (by decide)) b1 .nil (L2N.passes_call (L2N.takes_of rfl rfl rfl rfl) (fun _ _ _ _ h => h)) (pa_cons (pv 1) pa_nil)) rfl)))
      (pss_one (L2N.ps_raise rfl (L2N.takes_of rfl rfl rfl rfl) (pmkN_own PySem.F.excBase_ValueError X.dropped.x X.dropped.g X.dropped.k (raises_own X.dropped.b X.dropped.t) rfl (pa_cons (pe_joined (.cons pe_str (.cons (pe_fmt (pv 1)) (.cons pe_str .nil)))) pa_nil)))) pss_nil)
      (pss_one (ps_ret (pe_meth (pv 0) C.S m2 G2 hr b2 .nil pass0 (pa_cons (pv 1) (pa_cons (pe_fld (pv 0) rfl) pa_nil))))), ?_⟩
    refine ⟨_, rfl, _, _, _, rfl, L.sh, fSh_no, _, rfl, S, α, δ, J, G, n, rfl, L, hn, fun b hb => ?_, q2⟩
    refine ⟨_, _, _, _, _, rfl, L.br hb, C.B, C.bAl, rfl, _, rfl, ?_⟩
    cases hal : b.alive with
    | true =>
      refine ifF rfl ⟨_, rfl, _, _, _, rfl, L.sh, fSh_no, _, rfl, _, rfl, _, _, _, _, _, rfl, L.sh, C.S, C.sNow, rfl, ?_⟩
      exact ⟨Ks, α .sh, S, _, n, S.now, rfl, ⟨α, δ, J, G, rfl, rfl, L, Z⟩, W, (q1 b hb).1 hal⟩
    | false =>
      have f1 := fit1 (b := ("branch " : Str)) (by decide +kernel)
      have f2 := fit2 (b := Str.ofString (toString n)) f1.1 (by have := text_small hn; omega)
      have f3 := fit2 (b := (" was dropped" : Str)) f2.1 (by decide +kernel)
      exact ifT rfl ⟨_, rfl, f1.2, _, rfl, .inr ⟨n, rfl, log2_small hn, _, rfl, f2.2, _, rfl, f3.2, by show 1 ≤ sizeLine; decide, (q1 b hb).2 hal⟩⟩
def spClose (T : Cs) (U : Es) : Sp := fun vs H Q E => ∃ (p : Addr) (S : Sh) (F : Addr → Prop) (n : Int), vs = [.ref p, .int n] ∧ LyAt T H p S F ∧ n.natAbs < 10 ^ 20 ∧
  (∀ h, aget S.hns n = some h → ∀ H' F', ShAt T H' p (S.delHand n) F' → Step H F H' F' → Q .non H') ∧ (aget S.hns n = none → E (.ref U.noHand) none H)
theorem sc_close : FnScope ["self", "hand"] ["self", "hand"] (defScope s_Shelf_close) := ⟨rfl, rfl, rfl, by decide +kernel, rfl, by decide +kernel, by decide +kernel⟩
theorem ok_close {f : Addr} {fd : FuncData} (F : Fun K "close" "Shelf.close" s_Shelf_close f fd) (C : Cf K T) (c1 : Mx P w K mg base (L2N.CX P w) T.S "hand_there" 1 ["self", "hand"] (spHandThere T U))
    (c2 : Mx P w K mg base CX0 T.S "let_go" 1 ["self", "hand"] (spLetGo T)) : FnOk P w K mg base (L2N.CX P w) 2 f fd ["self", "hand"] (spClose T U) := by
  obtain ⟨f1, fd1, m1, b1, G1⟩ := c1
  obtain ⟨f2, fd2, m2, b2, G2⟩ := c2
  refine F.okX' sc_close (fun vs H Q E h => ?_) (fun cdv A outer s H vs Q E hr h => ?_)
  · obtain ⟨p, S, F, n, rfl, _⟩ := h
    rfl
  · obtain ⟨p, S, F, n, rfl, ⟨α, δ, J, G, rfl, rfl, L, Z⟩, hn, q1, q2⟩ := h
    refine ⟨_, pss_cons (ps_expr (pe_meth (pv 0) C.S m1 G1 hr b1 .nil (L2N.passes_call (L2N.takes_of rfl rfl rfl rfl) (fun _ _ _ _ h => h)) (pa_cons (pv 1) pa_nil)))
      (pss_one (ps_expr (pe_meth (pv 0) C.S m2 G2 hr b2 .nil pass0 (pa_cons (pv 1) pa_nil)))), ?_⟩
    refine ⟨_, rfl, _, _, _, rfl, L.sh, fSh_no, _, rfl, S, α, δ, J, G, n, rfl, L, hn, fun h hh => ?_, q2⟩
    refine ⟨_, rfl, _, _, _, rfl, L.sh, fSh_no, _, rfl, ?_⟩
    exact ⟨α .sh, S, _, n, h, rfl, ⟨α, δ, J, G, rfl, rfl, L, Z⟩, hh, q1 h hh⟩
end
end Vs
namespace Vs
open PySem L2
section
variable {P : Program} {w : World} {K : PySem.W.Frag} {mg : Str → Option Value} {base : Heap} {T : Cs} {U : Es} {Pt : Addr}
theorem Step.sm_then {H1 H2 H3 : Hp} {F F' : Addr → Prop} (a : Sm H1 H2) (b : Step H2 F H3 F') : Step H1 F H3 F' := (Step.sm a).trans b
theorem drafts_le {Ks : List Str} {S : Sh} (W : WF Ks S) {n : Int} {h : Hn} (e : aget S.hns n = some h) : h.drafts.length ≤ 60 := by
  have := len_le_pool (W.dks n h e).1 (W.dks n h e).2
  rw [List.length_map] at this
  exact Nat.le_trans this W.pool
/-! ### write, erase -/
def spWrite (T : Cs) (U : Es) (Pt : Addr) : Sp := fun vs H Q E => ∃ (Ks : List Str) (p : Addr) (S : Sh) (F : Addr → Prop) (n : Int) (k : Str) (v : Int), vs = [.ref p, .int n, .str k, .int v] ∧ ShAt T H p S F ∧ WF Ks S ∧ GxR.TabG H Pt ∧
  n.natAbs < 10 ^ 20 ∧ k.length ≤ 1000 ∧ v.natAbs < 10 ^ 20 ∧
    (∀ h, aget S.hns n = some h → (isKeyB k = true → isVal v = true → ∀ H' F', ShAt T H' p (S.write n h k (some v)) F' → Step H F H' F' → Q .non H') ∧ ((isKeyB k && isVal v) = false → ∀ H', Sm H H' → E (.ref U.badKey) none H')) ∧
    (aget S.hns n = none → E (.ref U.noHand) none H)
theorem sc_write : FnScope ["self", "hand", "key", "value", "held"] ["self", "hand", "key", "value"] (defScope s_Shelf_write) := ⟨rfl, rfl, rfl, by decide +kernel, rfl, by decide +kernel, by decide +kernel⟩
theorem ok_write {f : Addr} {fd : FuncData} (F : Fun K "write" "Shelf.write" s_Shelf_write f fd) (C : Cf K T) (X : Ex K mg U) (c1 : Mx P w K mg base (L2N.CX P w) T.S "hand_there" 1 ["self", "hand"] (spHandThere T U))
    (c2 : Fx P w K mg base (L2N.CX P w) "check_key" 4 ["key"] (spCheck U Pt)) (c3 : Fx P w K mg base CX0 "is_value" 1 ["number"] spIsVal) :
    FnOk P w K mg base (L2N.CX P w) 5 f fd ["self", "hand", "key", "value"] (spWrite T U Pt) := by
  obtain ⟨f1, fd1, m1, b1, G1⟩ := c1
  obtain ⟨f2, fd2, g2, k2, b2, G2⟩ := c2
  obtain ⟨f3, fd3, g3, k3, b3, G3⟩ := c3
  refine F.okX' sc_write (fun vs H Q E h => ?_) (fun cdv A outer s H vs Q E hr h => ?_)
  · obtain ⟨Ks, p, S, F, n, k, v, rfl, _⟩ := h
    rfl
  · obtain ⟨Ks, p, S, F, n, k, v, rfl, ⟨α, δ, J, G, rfl, rfl, L, R, Z⟩, W, hT, hn, hk, hv, q1, q2⟩ := h
    have hu := hu_of hr
    refine ⟨_, pss_cons (ps_set (i := 4) sc_write.nd rfl (.inl rfl) (pe_meth (pv 0) C.S m1 G1 (hr.mono (by decide)) b1 .nil (L2N.passes_call (L2N.takes_of rfl rfl rfl rfl) (fun _ _ _ _ h => h)) (pa_cons (pv 1) pa_nil)))
      (pss_cons (ps_expr (pe_call G2 hr rfl g2 k2 b2 .nil (L2N.passes_call (L2N.takes_of rfl rfl rfl rfl) (fun _ _ _ _ h => h)) (pa_cons (pv 2) pa_nil)))
      (pss_cons (ps_if (pt_not (pt_val (pe_call G3 (hr.mono (by decide)) rfl g3 k3 b3 .nil pass0 (pa_cons (pv 3) pa_nil))))
        (pss_one (L2N.ps_raise rfl (L2N.takes_of rfl rfl rfl rfl) (pmkN_own PySem.F.excBase_ValueError X.badKey.x X.badKey.g X.badKey.k (raises_own X.badKey.b X.badKey.t) rfl (pa_cons (pe_joined (.cons (pe_fmt (pv 3)) (.cons pe_str .nil))) pa_nil)))) pss_nil)
      (pss_one (ps_dput hu (pe_fld (pv 4) rfl) (pv 2) (pv 3) rfl)))), ?_⟩
    refine ⟨_, rfl, _, _, _, rfl, L.sh, fSh_no, _, rfl, S, α, δ, J, G, n, rfl, L, hn, fun h hh => ?_, q2⟩
    obtain ⟨q1, q1'⟩ := q1 h hh
    refine ⟨_, rfl, k, rfl, hk, hT, fun H1 s1 => ⟨fun hy => ?_, fun hy => q1' (by rw [hy]; rfl) H1 s1⟩⟩
    refine ⟨_, rfl, v, rfl, _, rfl, ?_⟩
    cases hw : isVal v with
    | false =>
      have f1 := fit1 (b := Str.ofString (toString v)) (by have := text_small hv; omega)
      have f2 := fit2 (b := (" is no value" : Str)) f1.1 (by decide +kernel)
      exact ifT rfl ⟨_, rfl, .inr ⟨v, rfl, log2_small hv, _, rfl, f1.2, _, rfl, f2.2, by show 1 ≤ sizeLine; decide, q1' (by rw [hy, hw]; rfl) H1 s1⟩⟩
    | true =>
      have L1 := L.sm s1
      refine ifF rfl ⟨_, rfl, _, rfl, _, _, _, _, _, rfl, L1.hn hh, C.N, C.nDr, rfl, _, rfl, _, _, rfl, DPut.k (k := Sum.inr k) (L1.dr hh) (by rw [enc_length]; exact small1000 (by have := drafts_le W hh; omega)), ?_⟩
      obtain ⟨L2, st⟩ := L1.draft hh k (some v)
      exact q1 hy hw _ _ ⟨α, δ, J, G, rfl, rfl, L2, R.same rfl (viewsM_write W hh k (some v)), Z⟩ (Step.sm_then s1 st)
def spErase (T : Cs) (U : Es) (Pt : Addr) : Sp := fun vs H Q E => ∃ (Ks : List Str) (p : Addr) (S : Sh) (F : Addr → Prop) (n : Int) (k : Str), vs = [.ref p, .int n, .str k] ∧ ShAt T H p S F ∧ WF Ks S ∧ GxR.TabG H Pt ∧
  n.natAbs < 10 ^ 20 ∧ k.length ≤ 1000 ∧
    (∀ h, aget S.hns n = some h → (isKeyB k = true → ∀ H' F', ShAt T H' p (S.write n h k none) F' → Step H F H' F' → Q .non H') ∧ (isKeyB k = false → ∀ H', Sm H H' → E (.ref U.badKey) none H')) ∧
    (aget S.hns n = none → E (.ref U.noHand) none H)
theorem sc_erase : FnScope ["self", "hand", "key", "held"] ["self", "hand", "key"] (defScope s_Shelf_erase) := ⟨rfl, rfl, rfl, by decide +kernel, rfl, by decide +kernel, by decide +kernel⟩
end
end Vs
namespace Vs
open PySem L2
structure Cl (K : PySem.W.Frag) (mg : Str → Option Value) (U : Es) (f : Addr) : Prop where
  g : mg "Clash" = some (.ref U.clash)
  T : OexC K U.clash
  iC : PySem.W.findIn K (.ref U.clash) "__init__" = some (some (.ref f))
  tI : PySem.W.typeIn K (.ref f) = some (.type "function")
  nk : PySem.W.findIn K (.ref U.clash) "key" = some none
section
variable {P : Program} {w : World} {K : PySem.W.Frag} {mg : Str → Option Value} {base : Heap} {T : Cs} {U : Es} {Pt : Addr}
def spClashInit (U : Es) : Sp := fun vs H Q _ => ∃ (a : Addr) (v : V), vs = [.ref a, v] ∧ H a = some (exo a U.clash none) ∧ ∀ dx, H dx = none → dx ≠ a → Q .non (upd (upd H dx (exd dx [("key", v)])) a (exo a U.clash (some dx)))
theorem sc_clash : FnScope ["self", "key"] ["self", "key"] (defScope s_Clash___init__) := ⟨rfl, rfl, rfl, by decide +kernel, rfl, by decide +kernel, by decide +kernel⟩
theorem ok_clash {f : Addr} {fd : FuncData} (F : Fun K "__init__" "Clash.__init__" s_Clash___init__ f fd) {g : Addr} (C : Cl K mg U g) : FnOk P w K mg base CX0 1 f fd ["self", "key"] (spClashInit U) := by
  refine F.ok sc_clash (fun vs H Q E h => ?_) (fun cdv A outer s H vs Q E hr h => ?_)
  · obtain ⟨a, v, rfl, _⟩ := h
    rfl
  · obtain ⟨a, v, rfl, ha, kq⟩ := h
    refine ⟨_, pss_one (ps_ost (pv 0) (pv 1)), ?_⟩
    exact ⟨_, rfl, _, rfl, a, U.clash, rfl, C.T, C.nk, .inl ⟨ha, kq⟩⟩
theorem rise_len : ∀ {l : List Cel} {lo hi : Int}, Rise l → (∀ c ∈ l, lo ≤ c.1 ∧ c.1 ≤ hi) → lo ≤ hi + 1 → (l.length : Int) ≤ hi + 1 - lo
  | [], lo, hi, _, _, h => by simp; omega
  | c :: l, lo, hi, r, hb, h => by
    obtain ⟨h1, h2⟩ := List.pairwise_cons.mp r
    have hc := hb c List.mem_cons_self
    have := rise_len (lo := c.1 + 1) (hi := hi) h2 (fun x hx => ⟨by have := h1 x hx; omega, (hb x (List.mem_cons_of_mem _ hx)).2⟩) (by omega)
    rw [List.length_cons]; omega
theorem WF.lineLen {Ks : List Str} {S : Sh} (W : WF Ks S) {n : Int} {b : Br} (hb : aget S.brs n = some b) {k : Str} {l : List Cel} (hk : aget b.lines k = some l) : l.length ≤ 1000000 := Nat.le_trans (W.cap.l n b k l hb hk) (by decide)
theorem lines_le {Ks : List Str} {S : Sh} (W : WF Ks S) {n : Int} {b : Br} (hb : aget S.brs n = some b) : b.lines.length ≤ 60 := by
  have := len_le_pool (W.lks n b hb).1 (W.lks n b hb).2
  rw [List.length_map] at this
  exact Nat.le_trans this W.pool
theorem marks_le {Ks : List Str} {S : Sh} (W : WF Ks S) {n : Int} {b : Br} (hb : aget S.brs n = some b) : b.marks.length ≤ 60 := by
  have := len_le_pool (W.mks n b hb).1 (W.mks n b hb).2
  rw [List.length_map] at this
  exact Nat.le_trans this W.pool
theorem aput_len {κ β : Type} [DecidableEq κ] (l : List (κ × β)) (k : κ) (x : β) : (aput l k x).length ≤ l.length + 1 := by
  cases e : aget l k with
  | some y => rw [aput_old x e, List.length_map]; omega
  | none => rw [aput_new x e, List.length_append]; exact Nat.le_refl _
theorem take_snoc {α : Type} {l : List α} {i : Nat} {x : α} (h : l[i]? = some x) : l.take (i + 1) = l.take i ++ [x] := by
  rw [List.take_add_one, h]; rfl
/-! ### settle -/
def OffLn (α α' : Rl → Addr) : Prop := ∀ r, (∀ n k, r ≠ .ln n k) → α' r = α r
def spSettle (T : Cs) (U : Es) : Sp := fun vs H Q E => ∃ (Ks : List Str) (S : Sh) (α : Rl → Addr) (δ : Dl) (J : List Str) (G : Jud) (n : Int) (h : Hn) (b : Br), vs = [.ref (α .sh), .ref (α (.hn n))] ∧ Lay T H S α δ J G ∧ δ.Thaw ∧ WF Ks S ∧
  aget S.hns n = some h ∧ aget S.brs h.br = some b ∧
  (b.alive = false → E (.ref U.dropped) none H) ∧
  (b.alive = true → ∀ k, clashM b h = some k → ∀ d H', Sm H H' → H' d = some (.xd [("key", .str k)]) → E (.ref U.clash) (some d) H') ∧
  (b.alive = true → clashM b h = none → ∀ H' α' δ', OffLn α α' → δ'.Thaw → Lay T H' (S.settle h.br h) α' δ' J G → Step H (Foot S α J) H' (Foot (S.settle h.br h) α' J) → Q .non H')
theorem sc_settle : FnScope ["self", "held", "branch", "names", "key"] ["self", "held"] (defScope s_Shelf_settle) := ⟨rfl, rfl, rfl, by decide +kernel, rfl, by decide +kernel, by decide +kernel⟩
theorem ok_settle {f : Addr} {fd : FuncData} (F : Fun K "settle" "Shelf.settle" s_Shelf_settle f fd) (B : Bt mg) (C : Cf K T) (X : Ex K mg U) {f1 : Addr} {fd1 : FuncData} (Cl1 : Cl K mg U f1) (b1 : Binds K fd1 ["self", "key"] [])
    (G1 : FnOk P w K mg base CX0 1 f1 fd1 ["self", "key"] (spClashInit U)) : FnOk P w K mg base (L2N.CX P w) 3 f fd ["self", "held"] (spSettle T U) := by
  refine F.okX' sc_settle (fun vs H Q E h => ?_) (fun cdv A outer s H vs Q E hr h => ?_)
  · obtain ⟨Ks, S, α, δ, J, G, n, h, b, rfl, _⟩ := h
    rfl
  · obtain ⟨Ks, S, α, δ, J, G, n, h, b, rfl, L, Z, W, hh, hb, q1, q2, q3⟩ := h
    have hu := hu_of hr
    refine ⟨_, pss_cons (ps_set (i := 2) sc_settle.nd rfl (.inl rfl) (pe_dget hu (pe_fld (pv 0) rfl) (pe_fld (pv 1) rfl) (fun _ _ => rfl)))
      (pss_cons (ps_if (pt_not (pt_val (pe_fld (pv 2) rfl)))
        (pss_one (L2N.ps_raise rfl (L2N.takes_of rfl rfl rfl rfl) (pmkN_own PySem.F.excBase_ValueError X.dropped.x X.dropped.g X.dropped.k (raises_own X.dropped.b X.dropped.t) rfl (pa_cons (pe_joined (.cons pe_str (.cons (pe_fmt (pe_fld (pv 1) rfl)) (.cons pe_str .nil)))) pa_nil)))) pss_nil)
      (pss_cons (ps_set (i := 3) sc_settle.nd rfl (.inl rfl) (pe_callB (call_sortedD rfl) (by rfl) B.sorted (by decide +kernel) (pa_cons (pe_fld (pv 1) rfl) pa_nil)))
      (pss_cons (ps_for (passes_of rfl) rfl (pi_list (pv 3)) (pg_name (i := 4) sc_settle.nd rfl (.inl rfl))
        (pss_one (ps_if (pt_cmpR op_gt (pe_dget2 hu (pe_fld (pv 2) rfl) (pv 4) pe_int ⟨rfl, rfl, rfl, rfl⟩) (pe_fld (pv 1) rfl) (nomark _))
          (pss_one (L2N.ps_raise rfl (L2N.takes_of rfl rfl rfl rfl) (pmkN_oex Cl1.T Cl1.iC Cl1.tI G1 hr b1 .nil pass0 rfl Cl1.g (pa_cons (pv 4) pa_nil)))) pss_nil)))
      (pss_cons (ps_fldaug (pv 0) pe_int in_add)
      (pss_one (ps_for (passes_of rfl) rfl (pi_list (pv 3)) (pg_name (i := 4) sc_settle.nd rfl (.inl rfl))
        (C8.pss_cut (ps_expr (pe_bm PySem.F.plainAttrs_list PySem.F.slot_list_append PySem.F.type_list_append mt_append (pe_dsetd (pe_fld (pv 2) rfl) (pv 4) (pe_lst pa_nil) ⟨rfl, rfl, rfl, rfl⟩)
          (pa_cons (pe_tup (pa_cons (pe_fld (pv 0) rfl) (pa_cons (pe_dget hu (pe_fld (pv 1) rfl) (pv 4) (fun _ _ => rfl)) pa_nil))) pa_nil)))
        (pss_one (ps_dput hu (pe_fld (pv 2) rfl) (pv 4) (pe_fld (pv 0) rfl) rfl))))))))), ?_⟩
    refine ⟨_, rfl, _, _, _, _, _, rfl, L.sh, C.S, C.sBrs, rfl, _, rfl, _, _, _, _, _, rfl, L.hn hh, C.N, C.nBr, rfl, _, _, rfl, L.gBr1 hb, ?_⟩
    refine ⟨_, rfl, _, _, _, _, _, rfl, L.br hb, C.B, C.bAl, rfl, _, rfl, ?_⟩
    cases hal : b.alive with
    | false =>
      have hq := W.bnd _ _ hb
      have hsz := W.sz
      have hbn : h.br.natAbs < 10 ^ 20 := by omega
      have f1 := fit1 (b := ("branch " : Str)) (by decide +kernel)
      have f2 := fit2 (b := Str.ofString (toString h.br)) f1.1 (by have := text_small hbn; omega)
      have f3 := fit2 (b := (" was dropped" : Str)) f2.1 (by decide +kernel)
      exact ifT rfl ⟨_, rfl, f1.2, _, rfl, _, _, _, _, _, rfl, L.hn hh, C.N, C.nBr, rfl, .inr ⟨h.br, rfl, log2_small hbn, _, rfl, f2.2, _, rfl, f3.2, by show 1 ≤ sizeLine; decide, q1 hal⟩⟩
    | true =>
      refine ifF rfl ?_
      have hdl := drafts_le W hh
      refine ⟨_, rfl, _, _, _, _, _, rfl, L.hn hh, C.N, C.nDr, rfl, _, _, h.drafts.map (·.1), rfl, .inl (L.dr hh), enc_keys _, by rw [List.length_map]; omega, fun ys p perm srt hp => ?_⟩
      obtain rfl := sortedS_eq perm srt
      have s1 : Sm H (upd H p (.lst ((sortK (h.drafts.map (·.1))).map V.str))) := Sm.new hp
      have L1 := L.sm s1
      generalize hH1 : upd H p (.lst ((sortK (h.drafts.map (·.1))).map V.str)) = H1 at s1 L1
      have hpl : H1 p = some (.lst ((sortK (h.drafts.map (·.1))).map V.str)) := by rw [← hH1]; exact upd_same
      have npF : ¬ Foot S α J p := fun ⟨r, hr, e⟩ => L.nofr hp hr e
      generalize hns : sortK (h.drafts.map (·.1)) = names at hpl
      have inN : ∀ k ∈ names, ∃ v, aget h.drafts k = some v := fun k hk => aget_of_key (mem_sortK.mp (hns ▸ hk))
      have ndN : names.Nodup := hns ▸ sortK_nodup (W.dks n h hh).1
      have lnN : names.length ≤ 60 := by rw [← hns, sortK_length, List.length_map]; exact hdl
      have clN : clashM b h = names.find? fun k => decide (h.mom < (aget b.marks k).getD 0) := by unfold clashM; rw [hns]
      -- is there a clash
      refine ⟨_, rfl, p, rfl, ⟨_, SqL.of hpl⟩, for_list (K := K) (a := p) (xs := names.map V.str) (fun i σ H2 => H2 = H1 ∧ (∃ x, σ = [some (.ref (α .sh)), some (.ref (α (.hn n))), some (.ref (α (.br h.br))), some (.ref p), x]) ∧
          ∀ j k, j < i → names[j]? = some k → ¬ h.mom < (aget b.marks k).getD 0)
        ⟨rfl, ⟨none, rfl⟩, fun j k hj => absurd hj (Nat.not_lt_zero _)⟩ (fun i σ H2 _ ⟨e, _⟩ => e ▸ SqL.of hpl) ?_ ?_⟩
      · rintro i y σ H2 hi ⟨rfl, ⟨x, rfl⟩, hbefore⟩
        rw [List.getElem?_map] at hi
        cases hk : names[i]? with
        | none => rw [hk] at hi; cases hi
        | some k =>
          rw [hk] at hi
          obtain rfl : V.str k = y := Option.some.inj hi
          have hg := L1.gMk hb k
          refine ⟨_, rfl, _, _, _, _, _, rfl, L1.br hb, C.B, C.bMk, rfl, _, rfl, .inl ⟨_, .inl (L1.mks hb)⟩, _, rfl, _, hg, _, rfl, _, _, _, _, _, rfl, L1.hn hh, C.N, C.nMom, rfl, (aget b.marks k).getD 0, h.mom, ?_, rfl, _, rfl, ?_⟩
          · cases aget b.marks k <;> rfl
          · refine ite2 (fun c => ?_) (fun c => ?_)
            · have c' : h.mom < (aget b.marks k).getD 0 := of_decide_eq_true c
              have hf : clashM b h = some k := by
                rw [clN]
                obtain ⟨hi', ei⟩ := List.getElem?_eq_some_iff.mp hk
                exact List.find?_eq_some_iff_getElem.mpr ⟨decide_eq_true c', i, hi', ei, fun j hj => by
                  have := hbefore j names[j] hj (List.getElem?_eq_getElem (by omega))
                  simpa using this⟩
              refine ⟨_, rfl, by show 1 ≤ 1000; decide, fun a ha => ⟨a, .str k, rfl, upd_same, fun dx hdx nda => ⟨rfl, dx, [("key", .str k)], upd_same, ?_, ?_, ?_⟩⟩⟩
              · rw [upd_ne nda, upd_same]
              · rw [upd_ne nda] at hdx; exact hdx
              · have hd1 : H2 dx = none := by rw [upd_ne nda] at hdx; exact hdx
                refine q2 hal k hf dx _ (s1.trans (Sm.of fun b' o e => ?_)) upd_same
                rw [upd_ne (ne_of_none e hd1), del_ne (ne_of_none e ha), upd_ne (ne_of_none e ha), upd_ne (ne_of_none e hd1), upd_ne (ne_of_none e ha)]; exact e
            · exact ⟨rfl, ⟨_, rfl⟩, fun j k' hj hk' => by
                by_cases z : j = i
                · subst z; rw [hk] at hk'; cases hk'; exact of_decide_eq_false (by simpa using c)
                · exact hbefore j k' (by omega) hk'⟩
      · rintro σ H2 ⟨rfl, ⟨x, rfl⟩, hall⟩
        rw [List.length_map] at hall
        have hnc : clashM b h = none := by
          rw [clN]
          refine List.find?_eq_none.mpr fun k hk => ?_
          obtain ⟨j, hj, e⟩ := List.getElem_of_mem hk
          have := hall j k hj (by rw [← e]; exact List.getElem?_eq_getElem hj)
          simpa using this
        refine ⟨_, rfl, _, _, _, _, _, rfl, L1.sh, C.S, C.sNow, rfl, _, _, rfl, rfl, _, _, L1.sh, by show 6 < 1000; decide, ?_⟩
        obtain ⟨L2, st2⟩ := L1.setSh (S.now + 1) S.bm S.hm
        generalize hH3 : upd H2 (α .sh) (.ins T.S (δ .sh) (fSh { S with now := S.now + 1, bm := S.bm, hm := S.hm } α)) = H3 at L2 st2
        have hH3' : upd H2 (α .sh) (.ins T.S (δ .sh) (putF "now" (.int (S.now + 1)) (fSh S α))) = H3 := hH3
        have hpl3 : H3 p = some (.lst (names.map V.str)) := (st2.keep p _ hpl (fun _ z => by cases z) npF).1
        dsimp only
        rw [hH3']
        refine ⟨_, rfl, p, rfl, ⟨_, SqL.of hpl3⟩, for_list (K := K) (a := p) (xs := names.map V.str) (fun i σ H4 => ∃ (x : Option V) (α4 : Rl → Addr) (S4 : Sh) (b4 : Br), σ = [some (.ref (α .sh)), some (.ref (α (.hn n))), some (.ref (α (.br h.br))), some (.ref p), x] ∧
            OffLn α α4 ∧ Lay T H4 S4 α4 δ J G ∧ Step H2 (Foot S α J) H4 (Foot S4 α4 J) ∧ S4 = (names.take i).foldl (addS h.br h) { S with now := S.now + 1 } ∧ aget S4.brs h.br = some b4 ∧ S4.hns = S.hns ∧ S4.now = S.now + 1 ∧
            b4.lines.length ≤ 60 + i ∧ b4.marks.length ≤ 60 + i ∧ ∀ k l, aget b4.lines k = some l → l.length ≤ 1000000 + i)
          ⟨x, α, _, b, rfl, fun _ _ => rfl, L2, st2, rfl, hb, rfl, rfl, lines_le W hb, marks_le W hb, fun k l hk => W.lineLen hb hk⟩
          (fun i σ H4 _ ⟨_, _, _, _, _, _, _, st, _⟩ => SqL.of (st.keep p _ hpl (fun _ z => by cases z) npF).1) ?_ ?_⟩
        · rintro i y σ H4 hi ⟨x, α4, S4, b4, rfl, off, L4, st4, e4, hb4, eh4, en4, bl, bk, bll⟩
          have hil : i < names.length := by
            have := (List.getElem?_eq_some_iff.mp hi).1
            rwa [List.length_map] at this
          rw [List.getElem?_map] at hi
          have hk : names[i]? = some names[i] := List.getElem?_eq_getElem hil
          generalize names[i] = k at hk
          rw [hk] at hi
          obtain rfl : V.str k = y := Option.some.inj hi
          obtain ⟨v, hv⟩ := inN k (List.mem_of_getElem? hk)
          have hh4 : aget S4.hns n = some h := by rw [eh4]; exact hh
          have aB : α4 (.br h.br) = α (.br h.br) := off _ (fun _ _ z => by cases z)
          have aS : α4 .sh = α .sh := off _ (fun _ _ z => by cases z)
          have aN : α4 (.hn n) = α (.hn n) := off _ (fun _ _ z => by cases z)
          have hS : ∀ {H5 : Hp} {α5 : Rl → Addr} {S5 : Sh}, Lay T H5 S5 α5 δ J G → OffLn α α5 → H5 (α .sh) = some (.ins T.S (δ .sh) (fSh S5 α5)) := fun L5 o => by
            have := L5.sh; rw [o _ (fun _ _ z => by cases z)] at this; exact this
          have hN : ∀ {H5 : Hp} {α5 : Rl → Addr} {S5 : Sh}, Lay T H5 S5 α5 δ J G → OffLn α α5 → aget S5.hns n = some h → H5 (α (.hn n)) = some (.ins T.N (δ (.hn n)) (fHn n h α5)) := fun L5 o e => by
            have := L5.hn e; rw [o _ (fun _ _ z => by cases z)] at this; exact this
          have hB : ∀ {H5 : Hp} {α5 : Rl → Addr} {S5 : Sh} {b5 : Br}, Lay T H5 S5 α5 δ J G → OffLn α α5 → aget S5.brs h.br = some b5 → H5 (α (.br h.br)) = some (.ins T.B (δ (.br h.br)) (fBr h.br b5 α5)) := fun L5 o e => by
            have := L5.br e; rw [o _ (fun _ _ z => by cases z)] at this; exact this
          -- the draft becomes a version: Mid
          refine ⟨fun σ' H' => σ' = [some (.ref (α .sh)), some (.ref (α (.hn n))), some (.ref (α (.br h.br))), some (.ref p), some (.str k)] ∧ ∃ α5, OffLn α α5 ∧
            Lay T H' (S4.setBr h.br { b4 with lines := aput b4.lines k (b4.line k ++ [(S.now + 1, v)]) }) α5 δ J G ∧ Step H4 (Foot S4 α4 J) H' (Foot (S4.setBr h.br { b4 with lines := aput b4.lines k (b4.line k ++ [(S.now + 1, v)]) }) α5 J), ?_, ?_⟩
          · cases hkl : aget b4.lines k with
            | some l =>
              refine ⟨_, rfl, _, _, _, _, _, rfl, hB L4 off hb4, C.B, C.bLn, rfl, _, rfl, .inl ⟨_, L4.lnsR hb4⟩, _, rfl, by show 0 ≤ sizeLine; exact Nat.zero_le _, fun z hz => ?_⟩
              have s5 : Sm H4 (upd H4 z (.lst [])) := Sm.new hz
              generalize upd H4 z (.lst []) = H5 at s5
              have L5 := L4.sm s5
              refine ⟨_, Sum.inr k, L5.lns0 hb4 (Z _), rfl, by rw [enc_length]; exact small1000 (by omega), fun u hu' => ?_, fun hu' => by rw [valV_enc inr_inj, hkl] at hu'; cases hu'⟩
              rw [valV_enc inr_inj, hkl] at hu'
              obtain rfl : V.ref (α4 (.ln h.br k)) = u := Option.some.inj hu'
              obtain ⟨rs0, g0, _⟩ := L5.ln hb4 hkl
              refine ⟨.inl ⟨rfl, _, SqL.of g0⟩, _, rfl, _, _, _, _, _, rfl, hS L5 off, C.S, C.sNow, rfl, _, rfl, _, _, _, _, _, rfl, hN L5 off hh4, C.N, C.nDr, rfl, _, rfl, _, _, rfl, (by have := L5.gDr hh4 k; rw [hv] at this; exact this), by show 2 ≤ sizeLine; decide, fun t ht => ?_⟩
              have s6 : Sm H5 (upd H5 t (.tup [.int S4.now, optV v])) := Sm.new ht
              have ht6 : upd H5 t (.tup [.int S4.now, optV v]) t = some (.tup [.int S4.now, optV v]) := upd_same
              generalize upd H5 t (.tup [.int S4.now, optV v]) = H6 at s6 ht6
              have L6 := L5.sm s6
              obtain ⟨rs, g1, g2, L7, st7⟩ := L6.addCell hb4 hkl (c := (S4.now, v)) ht6
              refine ⟨_, _, _, rfl, rfl, g1, by rw [g2]; exact Nat.lt_of_le_of_lt (bll k l hkl) (by rw [sizeLine_eq]; omega), rfl, α4, off, ?_, ?_⟩
              · unfold Br.line; rw [hkl, ← en4]; exact L7
              · unfold Br.line; rw [hkl, ← en4]; exact Step.sm_then (s5.trans s6) st7
            | none =>
              refine ⟨_, rfl, _, _, _, _, _, rfl, hB L4 off hb4, C.B, C.bLn, rfl, _, rfl, .inl ⟨_, L4.lnsR hb4⟩, _, rfl, by show 0 ≤ sizeLine; exact Nat.zero_le _, fun z hz => ?_⟩
              have s5 : Sm H4 (upd H4 z (.lst [])) := Sm.new hz
              have L5 := L4.sm s5
              refine ⟨_, Sum.inr k, L5.lns0 hb4 (Z _), rfl, by rw [enc_length]; exact small1000 (by omega), fun u hu' => (by rw [valV_enc inr_inj, hkl] at hu'; cases hu'), fun _ => ?_⟩
              obtain ⟨L6, st6⟩ := L4.newLine hb4 (Z _) hkl hz (H1 := upd H4 z (.lst [])) (fun b' o e => by rw [upd_ne (ne_of_none e hz)]; exact e) upd_same
              generalize upd (upd H4 z (.lst [])) (α4 (.lns h.br)) (.dK (putK (enc .inr (fun k _ => .ref (α4 (.ln h.br k))) b4.lines) (.inr k) (.ref z))) = H6 at L6 st6
              have off6 : OffLn α (aLn α4 h.br k z) := fun r hr => by
                rw [← off r hr]
                cases r <;> first | rfl | exact absurd rfl (hr _ _)
              have hb6 : aget (S4.setBr h.br { b4 with lines := b4.lines ++ [(k, [])] }).brs h.br = some { b4 with lines := b4.lines ++ [(k, [])] } := by rw [setBr_get, if_pos rfl]
              have hk6 : aget (b4.lines ++ [(k, ([] : List Cel))]) k = some [] := by rw [← aput_new _ hkl]; exact aget_put_same _ _ _
              obtain ⟨rs0, g0, _⟩ := L6.ln hb6 hk6
              rw [show aLn α4 h.br k z (.ln h.br k) = z from if_pos ⟨rfl, rfl⟩] at g0
              refine ⟨.inl ⟨rfl, _, SqL.of g0⟩, _, rfl, _, _, _, _, _, rfl, hS L6 off6, C.S, C.sNow, rfl, _, rfl, _, _, _, _, _, rfl, hN L6 off6 hh4, C.N, C.nDr, rfl, _, rfl, _, _, rfl, (by have := L6.gDr (S := S4.setBr h.br { b4 with lines := b4.lines ++ [(k, [])] }) hh4 k; rw [hv] at this; exact this), by show 2 ≤ sizeLine; decide, fun t ht => ?_⟩
              have s7 : Sm H6 (upd H6 t (.tup [.int S4.now, optV v])) := Sm.new ht
              have ht7 : upd H6 t (.tup [.int S4.now, optV v]) t = some (.tup [.int S4.now, optV v]) := upd_same
              have e7 : upd H6 t (.tup [.int (S4.setBr h.br { b4 with lines := b4.lines ++ [(k, [])] }).now, optV v]) = upd H6 t (.tup [.int S4.now, optV v]) := rfl
              rw [e7]
              generalize upd H6 t (.tup [.int S4.now, optV v]) = H7 at s7 ht7
              have L7 := L6.sm s7
              obtain ⟨rs, g1, g2, L8, st8⟩ := L7.addCell hb6 hk6 (c := (S4.now, v)) ht7
              rw [show aLn α4 h.br k z (.ln h.br k) = z from if_pos ⟨rfl, rfl⟩] at g1
              have fin : (S4.setBr h.br { b4 with lines := b4.lines ++ [(k, [])] }).setBr h.br { b4 with lines := aput (b4.lines ++ [(k, [])]) k ([] ++ [(S4.now, v)]) } = S4.setBr h.br { b4 with lines := aput b4.lines k (b4.line k ++ [(S.now + 1, v)]) } := by
                rw [setBr_setBr, ← aput_new _ hkl, aput_aput, en4]
                unfold Br.line; rw [hkl]; rfl
              rw [show (S4.setBr h.br { b4 with lines := b4.lines ++ [(k, [])] }).setBr h.br { ({ b4 with lines := b4.lines ++ [(k, [])] } : Br) with lines := aput (b4.lines ++ [(k, [])]) k ([] ++ [(S4.now, v)]) } = _ from fin] at L8 st8
              rw [show aLn α4 h.br k z (.ln h.br k) = z from if_pos ⟨rfl, rfl⟩] at L8 st8
              exact ⟨_, _, _, rfl, rfl, g1, by rw [g2]; show 0 < sizeLine; decide, rfl, aLn α4 h.br k z, off6, L8, st6.trans (Step.sm_then s7 st8)⟩
          · rintro σ' H5 ⟨rfl, α5, off5, L5, st5⟩
            have hb5 : aget (S4.setBr h.br { b4 with lines := aput b4.lines k (b4.line k ++ [(S.now + 1, v)]) }).brs h.br = some { b4 with lines := aput b4.lines k (b4.line k ++ [(S.now + 1, v)]) } := by rw [setBr_get, if_pos rfl]
            refine ⟨_, rfl, _, _, _, _, _, rfl, hS L5 off5, C.S, C.sNow, rfl, _, rfl, _, _, _, _, _, rfl, hB L5 off5 hb5, C.B, C.bMk, rfl, _, rfl, _, _, rfl, DPut.k (k := Sum.inr k) (L5.mks hb5) (by rw [enc_length]; exact small1000 (by show b4.marks.length ≤ 1000; omega)), ?_⟩
            obtain ⟨L6, st6⟩ := L5.setMarks hb5 (aput b4.marks k (S.now + 1))
            rw [← putK_enc (g := fun _ m => V.int m) (g' := fun _ m => V.int m) inr_inj b4.marks k (S.now + 1) (.int S4.now) (by rw [en4]) (fun _ _ _ => rfl)] at L6 st6
            have fin : (S4.setBr h.br { b4 with lines := aput b4.lines k (b4.line k ++ [(S.now + 1, v)]) }).setBr h.br { b4 with lines := aput b4.lines k (b4.line k ++ [(S.now + 1, v)]), marks := aput b4.marks k (S.now + 1) } = addS h.br h S4 k := by
              rw [setBr_setBr]; unfold addS addC; rw [hb4, hv, en4]; rfl
            rw [show (S4.setBr h.br { b4 with lines := aput b4.lines k (b4.line k ++ [(S.now + 1, v)]) }).setBr h.br { ({ b4 with lines := aput b4.lines k (b4.line k ++ [(S.now + 1, v)]) } : Br) with marks := aput b4.marks k (S.now + 1) } = _ from fin] at L6 st6
            refine ⟨_, α5, addS h.br h S4 k, addC (S.now + 1) h b4 k, rfl, off5, L6, st4.trans (st5.trans st6), ?_, ?_, ?_, ?_, ?_, ?_, ?_⟩
            · rw [take_snoc hk, List.foldl_append, ← e4]; rfl
            · unfold addS; rw [hb4, en4]; show aget (aput S4.brs h.br _) h.br = _; rw [aget_put_same]
            · unfold addS; rw [hb4]; exact eh4
            · unfold addS; rw [hb4]; exact en4
            · have := aput_len b4.lines k (b4.line k ++ [(S.now + 1, (aget h.drafts k).getD none)])
              show (aput b4.lines k _).length ≤ _; omega
            · have := aput_len b4.marks k (S.now + 1)
              show (aput b4.marks k _).length ≤ _; omega
            · intro j l hj
              have hj : aget (aput b4.lines k _) j = some l := hj
              rw [aget_put] at hj
              by_cases z : j = k
              · rw [if_pos z] at hj
                cases hj
                rw [List.length_append]
                unfold Br.line
                cases hkl : aget b4.lines k with
                | none => show 0 + 1 ≤ _; omega
                | some l => have := bll k l hkl; show l.length + 1 ≤ _; omega
              · rw [if_neg z] at hj
                have := bll j l hj; omega
        · rintro σ H4 ⟨x, α4, S4, b4, rfl, off, L4, st4, e4, hb4, eh4, en4, bl, bk, bll⟩
          rw [List.length_map, List.take_length] at e4
          have e5 : S4 = S.settle h.br h := by rw [e4]; unfold Sh.settle; rw [hns]
          subst e5
          exact q3 hal hnc H4 α4 δ off Z L4 (Step.sm_then s1 st4)
end
end Vs
namespace Vs
open PySem L2
section
variable {P : Program} {w : World} {K : PySem.W.Frag} {mg : Str → Option Value} {base : Heap} {T : Cs} {U : Es} {Pt : Addr}
theorem settle_hns (q : Int) (h : Hn) : ∀ (l : List Str) (S : Sh), (l.foldl (addS q h) S).hns = S.hns ∧ (l.foldl (addS q h) S).now = S.now ∧ (l.foldl (addS q h) S).hm = S.hm ∧ (l.foldl (addS q h) S).bm = S.bm
  | [], S => ⟨rfl, rfl, rfl, rfl⟩
  | k :: l, S => by
    obtain ⟨h1, h2, h3, h4⟩ := settle_hns q h l (addS q h S k)
    have e : (addS q h S k).hns = S.hns ∧ (addS q h S k).now = S.now ∧ (addS q h S k).hm = S.hm ∧ (addS q h S k).bm = S.bm := by
      unfold addS
      cases aget S.brs q <;> exact ⟨rfl, rfl, rfl, rfl⟩
    exact ⟨h1.trans e.1, h2.trans e.2.1, h3.trans e.2.2.1, h4.trans e.2.2.2⟩
def spCommit (T : Cs) (U : Es) : Sp := fun vs H Q E => ∃ (Ks : List Str) (p : Addr) (S : Sh) (F : Addr → Prop) (n : Int), vs = [.ref p, .int n] ∧ LyAt T H p S F ∧ WF Ks S ∧ n.natAbs < 10 ^ 20 ∧
  (aget S.hns n = none → E (.ref U.noHand) none H) ∧
  ∀ h, aget S.hns n = some h → (h.drafts = [] → ∀ H' F', ShAt T H' p (S.delHand n) F' → Step H F H' F' → Q (.int S.now) H') ∧
    (h.drafts ≠ [] → ∀ b, aget S.brs h.br = some b → (b.alive = false → E (.ref U.dropped) none H) ∧
      (b.alive = true → ∀ k, clashM b h = some k → ∀ d H', Sm H H' → H' d = some (.xd [("key", .str k)]) → E (.ref U.clash) (some d) H') ∧
      (b.alive = true → clashM b h = none → ∀ H' F', ShAt T H' p ((S.settle h.br h).delHand n) F' → Step H F H' F' → Q (.int (S.now + 1)) H'))
theorem sc_commit : FnScope ["self", "hand", "held"] ["self", "hand"] (defScope s_Shelf_commit) := ⟨rfl, rfl, rfl, by decide +kernel, rfl, by decide +kernel, by decide +kernel⟩
theorem ok_commit {f : Addr} {fd : FuncData} (F : Fun K "commit" "Shelf.commit" s_Shelf_commit f fd) (C : Cf K T) (c1 : Mx P w K mg base (L2N.CX P w) T.S "hand_there" 1 ["self", "hand"] (spHandThere T U))
    (c2 : Mx P w K mg base (L2N.CX P w) T.S "settle" 3 ["self", "held"] (spSettle T U)) (c3 : Mx P w K mg base CX0 T.S "let_go" 1 ["self", "hand"] (spLetGo T)) :
    FnOk P w K mg base (L2N.CX P w) 4 f fd ["self", "hand"] (spCommit T U) := by
  obtain ⟨f1, fd1, m1, b1, G1⟩ := c1
  obtain ⟨f2, fd2, m2, b2, G2⟩ := c2
  obtain ⟨f3, fd3, m3, b3, G3⟩ := c3
  refine F.okX' sc_commit (fun vs H Q E h => ?_) (fun cdv A outer s H vs Q E hr h => ?_)
  · obtain ⟨Ks, p, S, F, n, rfl, _⟩ := h
    rfl
  · obtain ⟨Ks, p, S, F, n, rfl, ⟨α, δ, J, G, rfl, rfl, L, Z⟩, W, hn, q0, q1⟩ := h
    refine ⟨_, pss_cons (ps_set (i := 2) sc_commit.nd rfl (.inl rfl) (pe_meth (pv 0) C.S m1 G1 (hr.mono (by decide)) b1 .nil (L2N.passes_call (L2N.takes_of rfl rfl rfl rfl) (fun _ _ _ _ h => h)) (pa_cons (pv 1) pa_nil)))
      (pss_cons (ps_if (pt_truth (pe_fld (pv 2) rfl) (by intro _; rfl)) (pss_one (ps_expr (pe_meth (pv 0) C.S m2 G2 hr b2 .nil (L2N.passes_call (L2N.takes_of rfl rfl rfl rfl) (fun _ _ _ _ h => h)) (pa_cons (pv 2) pa_nil)))) pss_nil)
      (pss_cons (ps_expr (pe_meth (pv 0) C.S m3 G3 (hr.mono (by decide)) b3 .nil pass0 (pa_cons (pv 1) pa_nil)))
      (pss_one (ps_ret (pe_fld (pv 0) rfl))))), ?_⟩
    refine ⟨_, rfl, _, _, _, rfl, L.sh, fSh_no, _, rfl, S, α, δ, J, G, n, rfl, L, hn, fun h hh => ?_, q0⟩
    obtain ⟨qa, qb⟩ := q1 h hh
    refine ⟨_, rfl, _, _, _, _, _, rfl, L.hn hh, C.N, C.nDr, rfl, _, .inr (.inr ⟨_, L.dr hh, rfl⟩), ?_⟩
    cases hd : h.drafts with
    | nil =>
      refine ifF rfl ⟨_, rfl, _, _, _, rfl, L.sh, fSh_no, _, rfl, α .sh, S, _, n, h, rfl, ⟨α, δ, J, G, rfl, rfl, L, Z⟩, hh, fun H' F' h1 h2 => ?_⟩
      obtain ⟨α', δ', J', G', e1, e2, L', R'⟩ := id h1
      exact ⟨_, rfl, _, _, _, _, _, rfl, e1 ▸ L'.sh, C.S, C.sNow, rfl, qa hd H' F' h1 h2⟩
    | cons d ds =>
      obtain ⟨b, hb⟩ := (W.hn n h hh).2.2.1
      obtain ⟨qd, qc, qo⟩ := qb (by rw [hd]; intro z; cases z) b hb
      refine ifT rfl ⟨_, rfl, _, _, _, rfl, L.sh, fSh_no, _, rfl, Ks, S, α, δ, J, G, n, h, b, rfl, L, Z, W, hh, hb, qd, qc, fun hal hcl H1 α1 δ1 off Z1 L1 st1 => ?_⟩
      have aS : α1 .sh = α .sh := off _ (fun _ _ z => by cases z)
      have hs := settle_hns h.br h (sortK (h.drafts.map (·.1))) { S with now := S.now + 1 }
      have hh1 : aget (S.settle h.br h).hns n = some h := by unfold Sh.settle; rw [hs.1]; exact hh
      refine ⟨_, rfl, _, _, _, rfl, aS ▸ L1.sh, fSh_no, _, rfl, α .sh, _, _, n, h, rfl, ⟨α1, δ1, J, G, aS, rfl, L1, Z1⟩, hh1, fun H' F' h1 h2 => ?_⟩
      obtain ⟨α', δ', J', G', e1, e2, L', R'⟩ := id h1
      refine ⟨_, rfl, _, _, _, _, _, rfl, e1 ▸ L'.sh, C.S, C.sNow, rfl, ?_⟩
      have en : ((S.settle h.br h).delHand n).now = S.now + 1 := hs.2.1
      rw [en]
      exact qo hal hcl H' F' h1 (st1.trans h2)
end
end Vs
namespace Vs
open PySem L2
section
variable {P : Program} {w : World} {K : PySem.W.Frag} {mg : Str → Option Value} {base : Heap} {T : Cs} {U : Es} {Pt : Addr}
/-! ### Branch(beneath, moment) -/
def spBranchInit (T : Cs) : Sp := fun vs H Q _ => ∃ (x dx : Addr) (be : Option Int) (mom : Int), vs = [.ref x, optV be, .int mom] ∧ H x = some (.ins T.B dx []) ∧
  ∀ l m H', H l = none → H m = none → l ≠ m → (∀ b o, H b = some o → b ≠ x → H' b = some o) →
    H' x = some (.ins T.B dx [("beneath", optV be), ("moment", .int mom), ("alive", .bl true), ("lines", .ref l), ("marks", .ref m)]) → H' l = some (.dK []) → H' m = some (.dK []) → Q .non H'
theorem sc_Branch_init : FnScope ["self", "beneath", "moment"] ["self", "beneath", "moment"] (defScope s_Branch___init__) := ⟨rfl, rfl, rfl, by decide +kernel, rfl, by decide +kernel, by decide +kernel⟩
theorem ok_Branch_init {f : Addr} {fd : FuncData} (F : Fun K "__init__" "Branch.__init__" s_Branch___init__ f fd) (C : Cf K T) : FnOk P w K mg base CX0 1 f fd ["self", "beneath", "moment"] (spBranchInit T) := by
  refine F.ok sc_Branch_init (fun vs H Q E h => ?_) (fun cdv A outer s H vs Q E hr h => ?_)
  · obtain ⟨x, dx, be, mom, rfl, _⟩ := h
    rfl
  · obtain ⟨x, dx, be, mom, rfl, hx, kq⟩ := h
    refine ⟨_, pss_cons (ps_fld (pv 0) (pv 1) rfl) (pss_cons (ps_fld (pv 0) (pv 2) rfl) (pss_cons (ps_fld (pv 0) pe_bl rfl) (pss_cons (ps_fld (pv 0) pe_dnewK rfl) (pss_one (ps_fld (pv 0) pe_dnewK rfl))))), ?_⟩
    refine ⟨_, rfl, _, rfl, x, T.B, dx, _, rfl, hx, C.B, C.bBen, by show 0 < 1000; decide, ?_⟩
    refine ⟨_, rfl, _, rfl, x, T.B, dx, _, rfl, upd_same, C.B, C.bMom, by show 1 < 1000; decide, ?_⟩
    refine ⟨_, rfl, x, T.B, dx, _, rfl, upd_same, C.B, C.bAl, by show 2 < 1000; decide, ?_⟩
    rw [upd_upd, upd_upd]
    intro l hl
    have nlx : l ≠ x := fun e => by rw [e, upd_same] at hl; cases hl
    have hl0 : H l = none := by rw [upd_ne nlx] at hl; exact hl
    refine ⟨_, rfl, x, T.B, dx, _, rfl, by rw [upd_ne (Ne.symm nlx)]; exact upd_same, C.B, C.bLn, by show 3 < 1000; decide, ?_⟩
    intro m hm
    have nmx : m ≠ x := fun e => by rw [e, upd_same] at hm; cases hm
    have nml : m ≠ l := fun e => by rw [e, upd_ne nlx, upd_same] at hm; cases hm
    have hm0 : H m = none := by rw [upd_ne nmx, upd_ne nml, upd_ne nmx] at hm; exact hm
    refine ⟨_, rfl, x, T.B, dx, _, rfl, by rw [upd_ne (Ne.symm nmx)]; exact upd_same, C.B, C.bMk, by show 4 < 1000; decide, ?_⟩
    refine kq l m _ hl0 hm0 (Ne.symm nml) (fun b o e nb => ?_) upd_same ?_ ?_
    · rw [upd_ne nb, upd_ne (ne_of_none e hm0), upd_ne nb, upd_ne (ne_of_none e hl0), upd_ne nb]; exact e
    · rw [upd_ne nlx, upd_ne (Ne.symm nml), upd_ne nlx, upd_same]
    · rw [upd_ne nmx, upd_same]
/-! ### Shelf() -/
def S0 : Sh := ⟨0, [(0, ⟨none, 0, true, [], []⟩)], 1, [], 0⟩
def a0 (x d e j b l m : Addr) : Rl → Addr
  | .sh => x
  | .brs => d
  | .hns => e
  | .jd => j
  | .br _ => b
  | .lns _ => l
  | .mks _ => m
  | _ => x
theorem live0 {r : Rl} (h : Live S0 [] r) : r = .sh ∨ r = .brs ∨ r = .hns ∨ r = .jd ∨ r = .br 0 ∨ r = .lns 0 ∨ r = .mks 0 := by
  have z : ∀ n b, aget S0.brs n = some b → n = 0 := fun n b e => by
    have e : aget [((0 : Int), (⟨none, 0, true, [], []⟩ : Br))] n = some b := e
    rw [aget_cons] at e
    by_cases q : (0 : Int) = n
    · exact q.symm
    · rw [if_neg q] at e; cases e
  cases r with
  | sh => exact .inl rfl
  | brs => exact .inr (.inl rfl)
  | hns => exact .inr (.inr (.inl rfl))
  | jd => exact .inr (.inr (.inr (.inl rfl)))
  | br n => obtain ⟨b, e⟩ := h; rw [z n b e]; simp
  | lns n => obtain ⟨b, e⟩ := h; rw [z n b e]; simp
  | mks n => obtain ⟨b, e⟩ := h; rw [z n b e]; simp
  | ln n k =>
    obtain ⟨b, l, e, el⟩ := h
    have := z n b e
    subst this
    have e : aget [((0 : Int), (⟨none, 0, true, [], []⟩ : Br))] 0 = some b := e
    rw [aget_cons, if_pos rfl] at e
    cases e; cases el
  | hn n => obtain ⟨h, e⟩ := h; cases e
  | dr n => obtain ⟨h, e⟩ := h; cases e
  | jg k => cases h
  | ow k => cases h
  | rs k => cases h
theorem lay0 {T : Cs} {H : Hp} {x dx db d e j b l m : Addr} (n1 : x ≠ d) (n2 : x ≠ e) (n3 : x ≠ j) (n4 : x ≠ b) (n5 : x ≠ l) (n6 : x ≠ m) (n7 : d ≠ e) (n8 : d ≠ j) (n9 : d ≠ b) (n10 : d ≠ l) (n11 : d ≠ m)
    (n12 : e ≠ j) (n13 : e ≠ b) (n14 : e ≠ l) (n15 : e ≠ m) (n16 : j ≠ b) (n17 : j ≠ l) (n18 : j ≠ m) (n19 : b ≠ l) (n20 : b ≠ m) (n21 : l ≠ m)
    (h1 : H x = some (.ins T.S dx (fSh S0 (a0 x d e j b l m)))) (h2 : H d = some (.dK [(.inl 0, .ref b)])) (h3 : H e = some (.dK [])) (h4 : H j = some (.dK []))
    (h5 : H b = some (.ins T.B db [("beneath", .non), ("moment", .int 0), ("alive", .bl true), ("lines", .ref l), ("marks", .ref m)])) (h6 : H l = some (.dK [])) (h7 : H m = some (.dK [])) :
    Lay T H S0 (a0 x d e j b l m) ⟨fun r => if r = .sh then dx else db, fun _ => none⟩ [] (fun _ => ([], [])) := by
  have hb : aget S0.brs 0 = some ⟨none, 0, true, [], []⟩ := rfl
  refine ⟨fun r hr => ?_, fun r r' hr hr' q => ?_⟩
  · rcases live0 hr with z | z | z | z | z | z | z <;> subst z
    · exact ⟨_, h1, by show _ = HO.ins _ (if Rl.sh = Rl.sh then dx else db) _; rw [if_pos rfl]⟩
    · exact ⟨_, h2, rfl⟩
    · exact ⟨_, h3, rfl⟩
    · exact ⟨_, h4, rfl⟩
    · exact ⟨_, h5, ⟨_, hb, by show _ = HO.ins _ (if Rl.br 0 = Rl.sh then dx else db) _; rw [if_neg (by intro z; cases z)]; rfl⟩⟩
    · exact ⟨_, h6, ⟨_, hb, rfl⟩⟩
    · exact ⟨_, h7, ⟨_, hb, rfl⟩⟩
  · rcases live0 hr with z | z | z | z | z | z | z <;> subst z <;> rcases live0 hr' with y | y | y | y | y | y | y <;> subst y <;>
      first | rfl | exact absurd q (by assumption) | exact absurd q.symm (by assumption)
def spShelfInit (T : Cs) : Sp := fun vs H Q _ => ∃ (x dx : Addr), vs = [.ref x] ∧ H x = some (.ins T.S dx []) ∧
  ∀ H' F', ShAt T H' x S0 F' → (∀ b o, H b = some o → b ≠ x → H' b = some o ∧ ¬ F' b) → Q .non H'
theorem sc_Shelf_init : FnScope ["self"] ["self"] (defScope s_Shelf___init__) := ⟨rfl, rfl, rfl, by decide +kernel, rfl, by decide +kernel, by decide +kernel⟩
theorem ok_Shelf_init {f : Addr} {fd : FuncData} (F : Fun K "__init__" "Shelf.__init__" s_Shelf___init__ f fd) (C : Cf K T) (c1 : Kx P w K mg base "Branch" T.B 1 ["self", "beneath", "moment"] (spBranchInit T)) :
    FnOk P w K mg base CX0 3 f fd ["self"] (spShelfInit T) := by
  obtain ⟨f1, fd1, g1, m1, b1, G1⟩ := c1
  refine F.ok sc_Shelf_init (fun vs H Q E h => ?_) (fun cdv A outer s H vs Q E hr h => ?_)
  · obtain ⟨x, dx, rfl, _⟩ := h
    rfl
  · obtain ⟨x, dx, rfl, hx, kq⟩ := h
    refine ⟨_, pss_cons (ps_fld (pv 0) pe_int rfl)
      (pss_cons (ps_fld (pv 0) (pe_disp (pps_cons pe_int (pe_make m1 G1 hr rfl g1 b1 .nil pass0 (pa_cons pe_non (pa_cons pe_int pa_nil))) pps_nil) (by rfl) (by rfl) (fun z => by cases z) (by decide)) rfl)
      (pss_cons (ps_fld (pv 0) pe_int rfl) (pss_cons (ps_fld (pv 0) pe_dnewK rfl) (pss_cons (ps_fld (pv 0) pe_int rfl) (pss_one (ps_fld (pv 0) pe_dnewK rfl)))))), ?_⟩
    refine ⟨_, rfl, x, T.S, dx, _, rfl, hx, C.S, C.sNow, by show 0 < 1000; decide, ?_⟩
    intro d hd
    have ndx : d ≠ x := fun e => by rw [e, upd_same] at hd; cases hd
    have hd0 : H d = none := by rw [upd_ne ndx] at hd; exact hd
    intro b db hb hdb ndb
    have hxx : upd (upd H x (.ins T.S dx (putF "now" (.int 0) []))) d (.dK []) x = some (.ins T.S dx [("now", .int 0)]) := by rw [upd_ne (Ne.symm ndx)]; exact upd_same
    have nbx : b ≠ x := fun e => by rw [e, hxx] at hb; cases hb
    have ndbx : db ≠ x := fun e => by rw [e, hxx] at hdb; cases hdb
    have nbd : b ≠ d := fun e => by rw [e, upd_same] at hb; cases hb
    have ndbd : db ≠ d := fun e => by rw [e, upd_same] at hdb; cases hdb
    have hb0 : H b = none := by rw [upd_ne nbd, upd_ne nbx] at hb; exact hb
    have hdb0 : H db = none := by rw [upd_ne ndbd, upd_ne ndbx] at hdb; exact hdb
    refine ⟨b, db, none, 0, rfl, upd_same, fun l m H3 hl hm nlm k3 e1 e2 e3 => ⟨rfl, ?_⟩⟩
    have old3 : ∀ a o, H a = some o → a ≠ x → H3 a = some o := fun a o q nx => by
      have n1 := ne_of_none q hb0
      refine k3 a o ?_ n1
      rw [upd_ne n1, upd_ne (ne_of_none q hdb0), upd_ne (ne_of_none q hd0), upd_ne nx]; exact q
    have x3 : H3 x = some (.ins T.S dx [("now", .int 0)]) := k3 x _ (by rw [upd_ne (Ne.symm nbx), upd_ne (Ne.symm ndbx)]; exact hxx) (Ne.symm nbx)
    have d3 : H3 d = some (.dK []) := k3 d _ (by rw [upd_ne (Ne.symm nbd), upd_ne (Ne.symm ndbd)]; exact upd_same) (Ne.symm nbd)
    have free : ∀ a, (upd (upd (upd (upd H x (.ins T.S dx (putF "now" (.int 0) []))) d (.dK [])) db (.own b)) b (.ins T.B db [])) a = none → a ≠ x ∧ a ≠ d ∧ a ≠ b ∧ a ≠ db ∧ H a = none := fun a q => by
      have n1 : a ≠ b := fun e => by rw [e, upd_same] at q; cases q
      rw [upd_ne n1] at q
      have n2 : a ≠ db := fun e => by rw [e, upd_same] at q; cases q
      rw [upd_ne n2] at q
      have n3 : a ≠ d := fun e => by rw [e, upd_same] at q; cases q
      rw [upd_ne n3] at q
      have n4 : a ≠ x := fun e => by rw [e, upd_same] at q; cases q
      rw [upd_ne n4] at q
      exact ⟨n4, n3, n1, n2, q⟩
    obtain ⟨nlx, nld, nlb, _, hl0⟩ := free l hl
    obtain ⟨nmx, nmd, nmb, _, hm0⟩ := free m hm
    refine ⟨d3, [(.inl 0, .ref b)], rfl, by show 1 ≤ 15; decide, ?_⟩
    refine ⟨_, rfl, x, T.S, dx, _, rfl, by rw [upd_ne (Ne.symm ndx)]; exact x3, C.S, C.sBrs, by show 1 < 1000; decide, ?_⟩
    refine ⟨_, rfl, x, T.S, dx, _, rfl, upd_same, C.S, C.sBm, by show 2 < 1000; decide, ?_⟩
    rw [upd_upd]
    intro e he
    have nex : e ≠ x := fun z => by rw [z, upd_same] at he; cases he
    rw [upd_ne nex] at he
    have ned : e ≠ d := fun z => by rw [z, upd_same] at he; cases he
    rw [upd_ne ned] at he
    have neb : e ≠ b := fun z => by rw [z, e1] at he; cases he
    have nel : e ≠ l := fun z => by rw [z, e2] at he; cases he
    have nem : e ≠ m := fun z => by rw [z, e3] at he; cases he
    refine ⟨_, rfl, x, T.S, dx, _, rfl, by rw [upd_ne (Ne.symm nex)]; exact upd_same, C.S, C.sHns, by show 3 < 1000; decide, ?_⟩
    refine ⟨_, rfl, x, T.S, dx, _, rfl, upd_same, C.S, C.sHm, by show 4 < 1000; decide, ?_⟩
    rw [upd_upd]
    intro j hj
    have njx : j ≠ x := fun z => by rw [z, upd_same] at hj; cases hj
    rw [upd_ne njx] at hj
    have nje : j ≠ e := fun z => by rw [z, upd_same] at hj; cases hj
    rw [upd_ne nje, upd_ne njx] at hj
    have njd : j ≠ d := fun z => by rw [z, upd_same] at hj; cases hj
    rw [upd_ne njd] at hj
    have njb : j ≠ b := fun z => by rw [z, e1] at hj; cases hj
    have njl : j ≠ l := fun z => by rw [z, e2] at hj; cases hj
    have njm : j ≠ m := fun z => by rw [z, e3] at hj; cases hj
    refine ⟨_, rfl, x, T.S, dx, _, rfl, by rw [upd_ne (Ne.symm njx)]; exact upd_same, C.S, C.sJd, by show 5 < 1000; decide, ?_⟩
    have at3 : ∀ {a : Addr} {o : HO} {o1 o2 o3 o4 o5 : HO}, a ≠ x → a ≠ e → a ≠ j → a ≠ d → H3 a = some o → (upd (upd (upd (upd (upd (upd H3 d o1) x o2) e o3) x o4) j (.dK [])) x o5) a = some o := fun {a o o1 o2 o3 o4 o5} n1 n2 n3 n4 q => by
      rw [upd_ne n1, upd_ne n3, upd_ne n1, upd_ne n2, upd_ne n1, upd_ne n4]; exact q
    refine kq _ _ ⟨a0 x d e j b l m, ⟨fun r => if r = .sh then dx else db, fun _ => none⟩, [], _, rfl, rfl, lay0 (T := T) (dx := dx) (db := db) (Ne.symm ndx) (Ne.symm nex) (Ne.symm njx) (Ne.symm nbx) (Ne.symm nlx) (Ne.symm nmx) (Ne.symm ned) (Ne.symm njd) (Ne.symm nbd) (Ne.symm nld) (Ne.symm nmd)
      (Ne.symm nje) neb nel nem njb njl njm (Ne.symm nlb) (Ne.symm nmb) nlm upd_same ?_ ?_ ?_ ?_ ?_ ?_, RightJ.nil, fun _ => rfl⟩ (fun a o q nx => ?_)
    · rw [upd_ne ndx, upd_ne (Ne.symm njd), upd_ne ndx, upd_ne (Ne.symm ned), upd_ne ndx]; exact upd_same
    · rw [upd_ne nex, upd_ne (Ne.symm nje), upd_ne nex]; exact upd_same
    · rw [upd_ne njx]; exact upd_same
    · exact at3 nbx (Ne.symm neb) (Ne.symm njb) nbd e1
    · exact at3 nlx (Ne.symm nel) (Ne.symm njl) nld e2
    · exact at3 nmx (Ne.symm nem) (Ne.symm njm) nmd e3
    · have q3 := old3 a o q nx
      have nad : a ≠ d := ne_of_none q hd0
      have nae : a ≠ e := fun z => by rw [z, he] at q3; cases q3
      have naj : a ≠ j := fun z => by rw [z, hj] at q3; cases q3
      refine ⟨at3 nx nae naj nad q3, fun ⟨r, hr, er⟩ => ?_⟩
      rcases live0 hr with z | z | z | z | z | z | z <;> subst z
      · exact nx er.symm
      · exact nad er.symm
      · exact nae er.symm
      · exact naj er.symm
      · exact ne_of_none q hb0 er.symm
      · exact ne_of_none q hl0 er.symm
      · exact ne_of_none q hm0 er.symm
end
end Vs
/-! ## What each deed leaves whole -/
namespace Vs
open PySem L2
theorem aget_snoc {β : Type} {l : List (Int × β)} {n m : Int} {x y : β} (h : aget (l ++ [(n, x)]) m = some y) : aget l m = some y ∨ (m = n ∧ y = x ∧ aget l m = none) := by
  rw [aget_append, aget_cons, aget_nil] at h
  cases e : aget l m with
  | some z => rw [e] at h; exact .inl h
  | none =>
    rw [e] at h
    by_cases q : n = m
    · rw [if_pos q] at h; exact .inr ⟨q.symm, (Option.some.inj h).symm, rfl⟩
    · rw [if_neg q] at h; cases h
theorem aget_left {β : Type} {l : List (Int × β)} {n m : Int} {x y : β} (h : aget l m = some y) : aget (l ++ [(n, x)]) m = some y := by rw [aget_append, h]; rfl
theorem aget_right {β : Type} {l : List (Int × β)} {n : Int} {x : β} (h : aget l n = none) : aget (l ++ [(n, x)]) n = some x := by rw [aget_append, h, aget_cons, if_pos rfl]; rfl
theorem pw_snoc {β : Type} {l : List (Int × β)} {n : Int} {x : β} (h : (l.map (·.1)).Pairwise (· < ·)) (lt : ∀ m y, aget l m = some y → m < n) : ((l ++ [(n, x)]).map (·.1)).Pairwise (· < ·) := by
  rw [List.map_append, List.pairwise_append]
  refine ⟨h, List.pairwise_singleton _ _, fun a ha b hb => ?_⟩
  obtain ⟨y, hy⟩ := aget_of_key ha
  have : b = n := by simpa using hb
  rw [this]; exact lt a y hy
section
variable {Ks : List Str} {S : Sh}
theorem WF.addHand (W : WF Ks S) {br mom : Int} (hb : ∃ b, aget S.brs br = some b) (h0 : 0 ≤ mom) (h1 : mom ≤ S.now) (hl : S.hns.length < 1000) (hm : 0 ≤ S.hm ∧ S.hm < 10 ^ 18) : WF Ks (S.addHand br mom) where
  bks := W.bks
  b0 := W.b0
  root := W.root
  ben := W.ben
  bnd := W.bnd
  lks := W.lks
  ln := W.ln
  mks := W.mks
  mkb := W.mkb
  hks := pw_snoc W.hks fun m y e => (W.hn m y e).2.1
  hn := fun n h e => by
    rcases aget_snoc (l := S.hns) e with z | ⟨rfl, rfl, _⟩
    · obtain ⟨a, b, c⟩ := W.hn n h z
      exact ⟨a, by show n < S.hm + 1; omega, c⟩
    · exact ⟨hm.1, by show S.hm < S.hm + 1; omega, hb, h0, h1⟩
  dks := fun n h e => by
    rcases aget_snoc (l := S.hns) e with z | ⟨_, rfl, _⟩
    · exact W.dks n h z
    · exact ⟨List.nodup_nil, fun k hk => by cases hk⟩
  key := W.key
  pool := W.pool
  sz := ⟨W.sz.1, W.sz.2.1, W.sz.2.2.1, by show S.hm + 1 ≤ 10 ^ 18; omega⟩
  cap := ⟨by show (S.hns ++ [_]).length ≤ 1000; rw [List.length_append]; show S.hns.length + 1 ≤ 1000; omega, W.cap.b, W.cap.l⟩
theorem del_old {β : Type} {l : List (Int × β)} {n m : Int} {y : β} (h : aget (adel l n) m = some y) : aget l m = some y ∧ m ≠ n := by
  rw [aget_del] at h
  by_cases q : m = n
  · rw [if_pos q] at h; cases h
  · rw [if_neg q] at h; exact ⟨h, q⟩
theorem WF.delHand (W : WF Ks S) (n : Int) : WF Ks (S.delHand n) where
  bks := W.bks
  b0 := W.b0
  root := W.root
  ben := W.ben
  bnd := W.bnd
  lks := W.lks
  ln := W.ln
  mks := W.mks
  mkb := W.mkb
  hks := W.hks.sublist (List.filter_sublist.map _)
  hn := fun m h e => W.hn m h (del_old (l := S.hns) e).1
  dks := fun m h e => W.dks m h (del_old (l := S.hns) e).1
  key := W.key
  pool := W.pool
  sz := W.sz
  cap := ⟨Nat.le_trans List.filter_sublist.length_le W.cap.h, W.cap.b, W.cap.l⟩
def Sh.fork (S : Sh) (q m : Int) : Sh := { S with brs := S.brs ++ [(S.bm, ⟨some q, m, true, [], []⟩)], bm := S.bm + 1 }
theorem WF.bfresh (W : WF Ks S) : aget S.brs S.bm = none := by
  cases e : aget S.brs S.bm with
  | none => rfl
  | some b => have := (W.bnd _ b e).2.1; omega
theorem WF.bm0 (W : WF Ks S) : 0 < S.bm := by
  obtain ⟨b, hb⟩ := W.b0
  exact (W.bnd 0 b hb).2.1
theorem WF.fork (W : WF Ks S) {q m : Int} (hq : ∃ b, aget S.brs q = some b) (h0 : 0 ≤ m) (h1 : m ≤ S.now) (hl : S.brs.length < 1000) (hb : S.bm < 10 ^ 18) : WF Ks (S.fork q m) where
  bks := pw_snoc W.bks fun n y e => (W.bnd n y e).2.1
  b0 := let ⟨b, e⟩ := W.b0; ⟨b, aget_left e⟩
  root := fun n b e => by
    rcases aget_snoc (l := S.brs) e with z | ⟨rfl, rfl, _⟩
    · exact W.root n b z
    · have := W.bm0
      exact ⟨fun z => (by cases z), fun z => by omega⟩
  ben := fun n b p e hp => by
    rcases aget_snoc (l := S.brs) e with z | ⟨rfl, rfl, _⟩
    · obtain ⟨a, c, hc⟩ := W.ben n b p z hp
      exact ⟨a, c, aget_left hc⟩
    · obtain rfl := Option.some.inj hp
      obtain ⟨c, hc⟩ := hq
      exact ⟨(W.bnd _ c hc).2.1, c, aget_left hc⟩
  bnd := fun n b e => by
    rcases aget_snoc (l := S.brs) e with z | ⟨rfl, rfl, _⟩
    · obtain ⟨a, b', c⟩ := W.bnd n b z
      exact ⟨a, by show n < S.bm + 1; omega, c⟩
    · exact ⟨Int.le_of_lt W.bm0, by show S.bm < S.bm + 1; omega, h0, h1⟩
  lks := fun n b e => by
    rcases aget_snoc (l := S.brs) e with z | ⟨_, rfl, _⟩
    · exact W.lks n b z
    · exact ⟨List.nodup_nil, fun k hk => by cases hk⟩
  ln := fun n b k l e hl => by
    rcases aget_snoc (l := S.brs) e with z | ⟨_, rfl, _⟩
    · exact W.ln n b k l z hl
    · cases hl
  mks := fun n b e => by
    rcases aget_snoc (l := S.brs) e with z | ⟨_, rfl, _⟩
    · exact W.mks n b z
    · exact ⟨List.nodup_nil, fun k hk => by cases hk⟩
  mkb := fun n b k x e hx => by
    rcases aget_snoc (l := S.brs) e with z | ⟨_, rfl, _⟩
    · exact W.mkb n b k x z hx
    · cases hx
  hks := W.hks
  hn := fun n h e => by
    obtain ⟨a, b, ⟨c, hc⟩, d⟩ := W.hn n h e
    exact ⟨a, b, ⟨c, aget_left hc⟩, d⟩
  dks := W.dks
  key := W.key
  pool := W.pool
  sz := ⟨W.sz.1, W.sz.2.1, by show S.bm + 1 ≤ 10 ^ 18; omega, W.sz.2.2.2⟩
  cap := ⟨W.cap.h, by show (S.brs ++ [_]).length ≤ 1000; rw [List.length_append]; show S.brs.length + 1 ≤ 1000; omega, fun n b k l e hl => by
    rcases aget_snoc (l := S.brs) e with z | ⟨_, rfl, _⟩
    · exact W.cap.l n b k l z hl
    · cases hl⟩
/-- a branch changed in what doesn't count for views of others -/
theorem WF.setBr (W : WF Ks S) {n : Int} {b b' : Br} (hb : aget S.brs n = some b) (e1 : b'.ben = b.ben) (e2 : b'.mom = b.mom) (hl : (b'.lines.map (·.1)).Nodup ∧ ∀ k ∈ b'.lines.map (·.1), k ∈ Ks) (hln : ∀ k l, aget b'.lines k = some l → Rise l ∧ l ≠ [] ∧ (∀ c ∈ l, 1 ≤ c.1 ∧ c.1 ≤ S.now) ∧ l.length ≤ 1000)
    (hm : (b'.marks.map (·.1)).Nodup ∧ ∀ k ∈ b'.marks.map (·.1), k ∈ Ks) (hmk : ∀ k m, aget b'.marks k = some m → 1 ≤ m ∧ m ≤ S.now) : WF Ks (S.setBr n b') := by
  have up : ∀ m c, aget (S.setBr n b').brs m = some c → (m = n ∧ c = b') ∨ (m ≠ n ∧ aget S.brs m = some c) := fun m c h => by
    rw [setBr_get] at h
    by_cases q : m = n
    · rw [if_pos q] at h; exact .inl ⟨q, (Option.some.inj h).symm⟩
    · rw [if_neg q] at h; exact .inr ⟨q, h⟩
  have dn : ∀ m c, aget S.brs m = some c → ∃ c', aget (S.setBr n b').brs m = some c' := fun m c h => by
    rw [setBr_get]
    by_cases q : m = n
    · rw [if_pos q]; exact ⟨_, rfl⟩
    · rw [if_neg q]; exact ⟨c, h⟩
  have keys : (S.setBr n b').brs.map (·.1) = S.brs.map (·.1) := keys_aput_old _ hb
  constructor
  · rw [keys]; exact W.bks
  · obtain ⟨c, hc⟩ := W.b0; exact dn 0 c hc
  · intro m c h
    rcases up m c h with ⟨rfl, rfl⟩ | ⟨_, h⟩
    · rw [e1]; exact W.root m b hb
    · exact W.root m c h
  · intro m c q h hq
    rcases up m c h with ⟨rfl, rfl⟩ | ⟨_, h⟩
    · rw [e1] at hq
      obtain ⟨a, d, hd⟩ := W.ben m b q hb hq
      exact ⟨a, dn q d hd⟩
    · obtain ⟨a, d, hd⟩ := W.ben m c q h hq
      exact ⟨a, dn q d hd⟩
  · intro m c h
    rcases up m c h with ⟨rfl, rfl⟩ | ⟨_, h⟩
    · rw [e2]; exact W.bnd m b hb
    · exact W.bnd m c h
  · intro m c h
    rcases up m c h with ⟨rfl, rfl⟩ | ⟨_, h⟩
    · exact hl
    · exact W.lks m c h
  · intro m c k l h h'
    rcases up m c h with ⟨rfl, rfl⟩ | ⟨_, h⟩
    · obtain ⟨a, b, c, _⟩ := hln k l h'
      exact ⟨a, b, c⟩
    · exact W.ln m c k l h h'
  · intro m c h
    rcases up m c h with ⟨rfl, rfl⟩ | ⟨_, h⟩
    · exact hm
    · exact W.mks m c h
  · intro m c k x h hx
    rcases up m c h with ⟨rfl, rfl⟩ | ⟨_, h⟩
    · exact hmk k x hx
    · exact W.mkb m c k x h hx
  · exact W.hks
  · intro m h hh
    obtain ⟨a, b, ⟨c, hc⟩, d⟩ := W.hn m h hh
    exact ⟨a, b, dn _ c hc, d⟩
  · exact W.dks
  · exact W.key
  · exact W.pool
  · exact W.sz
  · refine ⟨W.cap.h, ?_, fun m c k l h h' => ?_⟩
    · have := congrArg List.length keys
      rw [List.length_map, List.length_map] at this
      rw [this]; exact W.cap.b
    · rcases up m c h with ⟨rfl, rfl⟩ | ⟨_, h⟩
      · exact (hln k l h').2.2.2
      · exact W.cap.l m c k l h h'
def Sh.drop (S : Sh) (n : Int) (b : Br) : Sh := S.setBr n { b with alive := false }
theorem WF.drop (W : WF Ks S) {n : Int} {b : Br} (hb : aget S.brs n = some b) : WF Ks (S.drop n b) :=
  W.setBr hb rfl rfl (W.lks n b hb) (fun k l h => ⟨(W.ln n b k l hb h).1, (W.ln n b k l hb h).2.1, (W.ln n b k l hb h).2.2, W.cap.l n b k l hb h⟩) (W.mks n b hb) (fun k m h => W.mkb n b k m hb h)
theorem WF.later (W : WF Ks S) (h : S.now < 10 ^ 18) : WF Ks { S with now := S.now + 1 } where
  bks := W.bks
  b0 := W.b0
  root := W.root
  ben := W.ben
  bnd := fun n b e => by obtain ⟨a, b', c, d⟩ := W.bnd n b e; exact ⟨a, b', c, by show b.mom ≤ S.now + 1; omega⟩
  lks := W.lks
  ln := fun n b k l e hl => by
    obtain ⟨a, b', c⟩ := W.ln n b k l e hl
    exact ⟨a, b', fun x hx => ⟨(c x hx).1, by show x.1 ≤ S.now + 1; have := (c x hx).2; omega⟩⟩
  mks := W.mks
  mkb := fun n b k m e hm => by obtain ⟨a, b'⟩ := W.mkb n b k m e hm; exact ⟨a, by show m ≤ S.now + 1; omega⟩
  hks := W.hks
  hn := fun n x e => by obtain ⟨a, b, c, d, f⟩ := W.hn n x e; exact ⟨a, b, c, d, by show x.mom ≤ S.now + 1; omega⟩
  dks := W.dks
  key := W.key
  pool := W.pool
  sz := ⟨by show 0 ≤ S.now + 1; have := W.sz.1; omega, by show S.now + 1 ≤ 10 ^ 18; omega, W.sz.2.2⟩
  cap := ⟨W.cap.h, W.cap.b, W.cap.l⟩
/-- one draft becomes a version: where the line's births are earlier -/
theorem WF.addS (W : WF Ks S) (q : Int) (h : Hn) {k : Str} (hk : k ∈ Ks) (hn : 1 ≤ S.now ∧ S.now ≤ 1000) (lt : ∀ b, aget S.brs q = some b → ∀ c ∈ b.line k, c.1 < S.now) : WF Ks (addS q h S k) := by
  unfold Vs.addS
  cases e : aget S.brs q with
  | none => exact W
  | some b =>
    dsimp only
    have lt := lt b e
    have hbl : ∀ c ∈ b.line k, 1 ≤ c.1 := fun c hc => by
      unfold Br.line at hc
      cases el : aget b.lines k with
      | none => rw [el] at hc; cases hc
      | some l => rw [el] at hc; exact ((W.ln q b k l e el).2.2 c hc).1
    have ri : Rise (b.line k ++ [(S.now, (aget h.drafts k).getD none)]) := by
      unfold Rise
      rw [List.pairwise_append]
      refine ⟨W.rise e k, List.pairwise_singleton _ _, fun x hx y hy => ?_⟩
      have : y = (S.now, (aget h.drafts k).getD none) := by simpa using hy
      rw [this]; exact lt x hx
    have len : (b.line k ++ [(S.now, (aget h.drafts k).getD none)]).length ≤ 1000 := by
      have := rise_len ri (lo := 1) (hi := S.now) (fun c hc => by
        rcases List.mem_append.mp hc with z | z
        · exact ⟨hbl c z, Int.le_of_lt (lt c z)⟩
        · have : c = (S.now, (aget h.drafts k).getD none) := by simpa using z
          rw [this]; exact ⟨hn.1, Int.le_refl _⟩) (by omega)
      omega
    refine W.setBr e rfl rfl ⟨nodup_aput (W.lks q b e).1, fun j hj => ?_⟩ (fun j l hl => ?_) ⟨nodup_aput (W.mks q b e).1, fun j hj => ?_⟩ (fun j m hm => ?_)
    · rcases mem_keys_aput hj with z | z
      · rw [z]; exact hk
      · exact (W.lks q b e).2 j z
    · have hl : aget (aput b.lines k _) j = some l := hl
      rw [aget_put] at hl
      by_cases z : j = k
      · rw [if_pos z] at hl
        obtain rfl := Option.some.inj hl
        refine ⟨ri, by simp, fun c hc => ?_, len⟩
        rcases List.mem_append.mp hc with y | y
        · exact ⟨hbl c y, Int.le_of_lt (lt c y)⟩
        · have : c = (S.now, (aget h.drafts k).getD none) := by simpa using y
          rw [this]; exact ⟨hn.1, Int.le_refl _⟩
      · rw [if_neg z] at hl
        obtain ⟨a, b', c⟩ := W.ln q b j l e hl
        exact ⟨a, b', c, W.cap.l q b j l e hl⟩
    · rcases mem_keys_aput hj with z | z
      · rw [z]; exact hk
      · exact (W.mks q b e).2 j z
    · have hm : aget (aput b.marks k _) j = some m := hm
      rw [aget_put] at hm
      by_cases z : j = k
      · rw [if_pos z] at hm
        obtain rfl := Option.some.inj hm
        exact ⟨hn.1, Int.le_refl _⟩
      · rw [if_neg z] at hm; exact W.mkb q b j m e hm
theorem addS_now (q : Int) (h : Hn) (S : Sh) (k : Str) : (addS q h S k).now = S.now ∧ (addS q h S k).hns = S.hns ∧ (addS q h S k).bm = S.bm ∧ (addS q h S k).hm = S.hm := by
  unfold Vs.addS
  cases aget S.brs q <;> exact ⟨rfl, rfl, rfl, rfl⟩
theorem addS_line (q : Int) (h : Hn) (S : Sh) (k : Str) {b : Br} (hb : aget S.brs q = some b) (n : Int) (j : Str) : lineAt (addS q h S k).brs n j = if n = q ∧ j = k then b.line k ++ [(S.now, (aget h.drafts k).getD none)] else lineAt S.brs n j := by
  unfold Vs.addS
  rw [hb]
  dsimp only
  unfold lineAt
  rw [setBr_get]
  by_cases e : n = q
  · rw [if_pos e, e, hb]
    dsimp only
    unfold Br.line addC
    dsimp only
    rw [aget_put]
    by_cases f : j = k
    · rw [if_pos f, if_pos ⟨rfl, f⟩]; rfl
    · rw [if_neg f, if_neg (fun z => f z.2)]
  · rw [if_neg e, if_neg (fun z => e z.1)]
theorem addS_br (q : Int) (h : Hn) (S : Sh) (k : Str) (n : Int) {c : Br} (hc : aget (addS q h S k).brs n = some c) : ∃ b, aget S.brs n = some b ∧ c.ben = b.ben ∧ c.mom = b.mom ∧ c.alive = b.alive := by
  unfold Vs.addS at hc
  cases e : aget S.brs q with
  | none => rw [e] at hc; exact ⟨c, hc, rfl, rfl, rfl⟩
  | some b =>
    rw [e] at hc
    dsimp only at hc
    rw [setBr_get] at hc
    by_cases z : n = q
    · rw [if_pos z] at hc
      obtain rfl := Option.some.inj hc
      exact ⟨b, by rw [z]; exact e, rfl, rfl, rfl⟩
    · rw [if_neg z] at hc; exact ⟨c, hc, rfl, rfl, rfl⟩
end
end Vs
/-! ## A new branch, in the heap -/
namespace Vs
open PySem L2
section
variable {T : Cs} {H H' : Hp} {S S' : Sh} {α α' : Rl → Addr} {δ δ' : Dl} {J J' : List Str} {G G' : Jud}
def aBr (α : Rl → Addr) (n : Int) (x l m : Addr) : Rl → Addr
  | .br j => if j = n then x else α (.br j)
  | .lns j => if j = n then l else α (.lns j)
  | .mks j => if j = n then m else α (.mks j)
  | r => α r
theorem Lay.newBr (L : Lay T H S α δ J G) {n mom : Int} {be : Option Int} (hn : aget S.brs n = none) (hz : δ.fz n = none) {x dx l m : Addr} (hx : H x = none) (hl : H l = none) (hm : H m = none) (nxl : x ≠ l) (nxm : x ≠ m) (nlm : l ≠ m) {H1 : Hp}
    (k1 : ∀ b o, H b = some o → H1 b = some o) (h1 : H1 x = some (.ins T.B dx [("beneath", optV be), ("moment", .int mom), ("alive", .bl true), ("lines", .ref l), ("marks", .ref m)])) (h2 : H1 l = some (.dK [])) (h3 : H1 m = some (.dK [])) :
    Mv T H S α J (upd H1 (α .brs) (.dK (putK (enc .inl (fun n _ => .ref (α (.br n))) S.brs) (.inl n) (.ref x)))) { S with brs := S.brs ++ [(n, ⟨be, mom, true, [], []⟩)] } (aBr α n x l m) ⟨fun r => if r = .br n then dx else δ r, δ.fz⟩ J G := by
  have nf : ∀ r p, Live S J r → H p = none → α r ≠ p := fun r p hr hp => L.nofr hp hr
  have tp : Tups H (upd H1 (α .brs) (.dK (putK (enc .inl (fun n _ => .ref (α (.br n))) S.brs) (.inl n) (.ref x)))) := fun a xs h => by
    rw [upd_ne (L.notup (r := .brs) trivial h)]; exact k1 _ _ h
  have got : ∀ j b, aget (S.brs ++ [(n, (⟨be, mom, true, [], []⟩ : Br))]) j = some b → (j = n ∧ b = ⟨be, mom, true, [], []⟩) ∨ (j ≠ n ∧ aget S.brs j = some b) := fun j b z => by
    rcases aget_snoc z with e | ⟨e, e', _⟩
    · exact .inr ⟨fun q => (by rw [q, hn] at e; cases e), e⟩
    · exact .inl ⟨e, e'⟩
  have new : aget (S.brs ++ [(n, (⟨be, mom, true, [], []⟩ : Br))]) n = some ⟨be, mom, true, [], []⟩ := aget_right hn
  have keep : ∀ j b, aget S.brs j = some b → aget (S.brs ++ [(n, (⟨be, mom, true, [], []⟩ : Br))]) j = some b := fun j b z => aget_left z
  have cl : ∀ r, Live { S with brs := S.brs ++ [(n, ⟨be, mom, true, [], []⟩)] } J r → (r = .br n ∨ r = .lns n ∨ r = .mks n) ∨ (Live S J r ∧ aBr α n x l m r = α r) := fun r hr => by
    cases r with
    | br j =>
      obtain ⟨b, z⟩ := hr
      rcases got j b z with ⟨q, _⟩ | ⟨q, z'⟩
      · exact .inl (.inl (by rw [q]))
      · exact .inr ⟨⟨b, z'⟩, if_neg q⟩
    | lns j =>
      obtain ⟨b, z⟩ := hr
      rcases got j b z with ⟨q, _⟩ | ⟨q, z'⟩
      · exact .inl (.inr (.inl (by rw [q])))
      · exact .inr ⟨⟨b, z'⟩, if_neg q⟩
    | mks j =>
      obtain ⟨b, z⟩ := hr
      rcases got j b z with ⟨q, _⟩ | ⟨q, z'⟩
      · exact .inl (.inr (.inr (by rw [q])))
      · exact .inr ⟨⟨b, z'⟩, if_neg q⟩
    | ln j k =>
      obtain ⟨b, c, z, y⟩ := hr
      rcases got j b z with ⟨q, e⟩ | ⟨q, z'⟩
      · rw [e] at y; cases y
      · exact .inr ⟨⟨b, c, z', y⟩, rfl⟩
    | sh => exact .inr ⟨hr, rfl⟩
    | brs => exact .inr ⟨hr, rfl⟩
    | hns => exact .inr ⟨hr, rfl⟩
    | jd => exact .inr ⟨hr, rfl⟩
    | hn m => exact .inr ⟨hr, rfl⟩
    | dr m => exact .inr ⟨hr, rfl⟩
    | jg k => exact .inr ⟨hr, rfl⟩
    | ow k => exact .inr ⟨hr, rfl⟩
    | rs k => exact .inr ⟨hr, rfl⟩
  have ex : aBr α n x l m (.br n) = x := if_pos rfl
  have el : aBr α n x l m (.lns n) = l := if_pos rfl
  have em : aBr α n x l m (.mks n) = m := if_pos rfl
  refine ⟨L.move tp (fun r hr => ?_) (L.injOf fun r hr => ?_), L.step (fun a o h nn => ?_) tp fun r hr => ?_⟩
  · rcases cl r hr with (e | e | e) | ⟨h0, e⟩
    · subst e
      refine .inr ⟨.ins T.B dx [("beneath", optV be), ("moment", .int mom), ("alive", .bl true), ("lines", .ref l), ("marks", .ref m)], by rw [ex, upd_ne (Ne.symm (nf .brs x trivial hx))]; exact h1, ⟨_, new, ?_⟩⟩
      show HO.ins _ _ _ = HO.ins _ _ (fBr n _ _)
      unfold fBr
      rw [el, em]
      simp
    · subst e
      refine .inr ⟨_, by rw [el, upd_ne (Ne.symm (nf .brs l trivial hl))]; exact h2, ⟨_, new, ?_⟩⟩
      show _ = thw (δ.fz n) _
      rw [hz]; rfl
    · subst e
      exact .inr ⟨_, by rw [em, upd_ne (Ne.symm (nf .brs m trivial hm))]; exact h3, ⟨_, new, rfl⟩⟩
    · by_cases eh : r = .brs
      · subst eh
        refine .inr ⟨_, upd_same, ?_⟩
        show HO.dK _ = HO.dK _
        rw [putK_enc (g' := fun j _ => .ref (aBr α n x l m (.br j))) inl_inj S.brs n ⟨be, mom, true, [], []⟩ (.ref x) (by rw [ex]) (fun p _ hp => by show V.ref (if p.1 = n then _ else _) = _; rw [if_neg hp]), aput_new _ hn]
      · refine .inl ⟨h0, e, ?_, fun o c => ?_⟩
        · obtain ⟨o, q⟩ := L.there h0
          rw [upd_ne (L.ne (r' := .brs) h0 trivial eh), q]; exact k1 _ _ q
        · cases r with
          | brs => exact absurd rfl eh
          | br j =>
            obtain ⟨b, z, c⟩ := c
            have q : j ≠ n := fun q => by rw [q, hn] at z; cases z
            refine ⟨b, keep j b z, ?_⟩
            rw [c]
            show HO.ins _ _ (fBr j b α) = HO.ins _ (if Rl.br j = Rl.br n then dx else δ (.br j)) (fBr j b (aBr α n x l m))
            rw [if_neg (fun y => q (Rl.br.inj y))]
            unfold fBr
            show _ = HO.ins _ _ [_, _, _, (_, V.ref (if j = n then l else α (.lns j))), (_, V.ref (if j = n then m else α (.mks j)))]
            rw [if_neg q, if_neg q]
          | lns j =>
            obtain ⟨b, z, c⟩ := c
            exact ⟨b, keep j b z, c⟩
          | mks j =>
            obtain ⟨b, z, c⟩ := c
            exact ⟨b, keep j b z, c⟩
          | ln j k =>
            obtain ⟨b, l', rs, z, y, c⟩ := c
            exact ⟨b, l', rs, keep j b z, y, c⟩
          | sh => exact c
          | hns => exact c
          | jd => exact c
          | hn m => exact c
          | dr m => exact c
          | jg k => exact c
          | ow k => exact c
          | rs k => exact c
  · have nw : ∀ r', Live { S with brs := S.brs ++ [(n, ⟨be, mom, true, [], []⟩)] } J r' → H (aBr α n x l m r') = none → r' = .br n ∨ r' = .lns n ∨ r' = .mks n := fun r' hr' z => by
      rcases cl r' hr' with e2 | ⟨h2, e2⟩
      · exact e2
      · obtain ⟨o, q⟩ := L.there h2
        rw [e2, q] at z; cases z
    rcases cl r hr with (e | e | e) | h0
    · subst e
      refine .inr ⟨by rw [ex]; exact hx, fun r' hr' z e' => ?_⟩
      rcases nw r' hr' z with e2 | e2 | e2
      · exact e2.symm
      · rw [e2, ex, el] at e'; exact absurd e' nxl
      · rw [e2, ex, em] at e'; exact absurd e' nxm
    · subst e
      refine .inr ⟨by rw [el]; exact hl, fun r' hr' z e' => ?_⟩
      rcases nw r' hr' z with e2 | e2 | e2
      · rw [e2, ex, el] at e'; exact absurd e'.symm nxl
      · exact e2.symm
      · rw [e2, el, em] at e'; exact absurd e' nlm
    · subst e
      refine .inr ⟨by rw [em]; exact hm, fun r' hr' z e' => ?_⟩
      rcases nw r' hr' z with e2 | e2 | e2
      · rw [e2, ex, em] at e'; exact absurd e'.symm nxm
      · rw [e2, el, em] at e'; exact absurd e'.symm nlm
      · exact e2.symm
    · exact .inl h0
  · rw [upd_ne (Ne.symm (nn .brs trivial))]; exact k1 _ _ h
  · rcases cl r hr with (e | e | e) | h0
    · subst e; exact .inr (by rw [ex]; exact hx)
    · subst e; exact .inr (by rw [el]; exact hl)
    · subst e; exact .inr (by rw [em]; exact hm)
    · exact .inl h0
end
end Vs
/-! ## What a sweep takes, version by version -/
namespace Vs
open PySem L2
section
variable {d : Addr} {o : Obj} {es : List (Key × V)}
/-- for k in d, d locked -/
theorem for_keys {g : TG} {tb : TS} {D : Ends} {σ : L2.St} {H : Hp} (Pv : Nat → L2.St → Hp → Prop) (first : Pv 0 σ H) (still : ∀ i σ H, Pv i σ H → H d = some (.frz o (.dK es)))
    (turn : ∀ i k v σ H, es[i]? = some (k, v) → Pv i σ H → g (kV k) σ H fun σ2 H2 => tb { D with nx := Pv (i + 1), ct := Pv (i + 1), bk := D.nx } σ2 H2) (last : ∀ σ H, Pv es.length σ H → D.nx σ H) :
    ∃ W : Nat → Nat → L2.St → Hp → Prop, (∃ m, W 0 m σ H) ∧ ∀ i m σ H, W i m σ H →
      ((Itk d o es).stop i H ∧ D.nx σ H) ∨ ((Itk d o es).go i H ∧ ∃ N : L2.St → Hp → Prop, (∀ σ' H', N σ' H' → ∃ m', m' < m ∧ W (i + 1) m' σ' H') ∧ ∀ x H', (Itk d o es).yld i H x H' → g x σ H' fun σ2 H2 => tb { D with nx := N, ct := N, bk := D.nx } σ2 H2) := by
  refine ⟨fun i m σ H => m = es.length - i ∧ i ≤ es.length ∧ Pv i σ H, ⟨es.length, rfl, Nat.zero_le _, first⟩, fun i m σ H ⟨em, hi, p⟩ => ?_⟩
  subst em
  rcases Nat.lt_or_ge i es.length with lt | ge
  · refine .inr ⟨⟨still i σ H p, lt⟩, Pv (i + 1), fun σ' H' q => ⟨es.length - (i + 1), by omega, rfl, lt, q⟩, fun x H' y => ?_⟩
    obtain ⟨eH, k, v, e, ex⟩ := y
    subst ex; subst eH
    exact turn i k v σ _ e p
  · obtain rfl : i = es.length := by omega
    exact .inl ⟨⟨still _ σ H p, ge⟩, last σ H p⟩
/-- [.. for k in d], d locked -/
theorem lc_keys {g : TG} {tt : TT} {te : TE} {vs : List Nat} {σ : L2.St} {H1 : Hp} {D : Addr} {Qd : Hp → Prop} (Pv : Nat → Hp → Prop) (first : Pv 0 (upd H1 D (.lst []))) (still : ∀ i H, Pv i H → H d = some (.frz o (.dK es)))
    (turn : ∀ i k v H, es[i]? = some (k, v) → Pv i H → g (kV k) (wipe σ vs) H fun σ2 H2 => wipe σ2 vs = wipe σ vs ∧ tt σ2 H2 fun b H3 => if b = true then te σ2 H3 fun y H4 => ∃ acc, H4 D = some (.lst acc) ∧ acc.length < sizeLine ∧ Pv (i + 1) (upd H4 D (.lst (acc ++ [y]))) else Pv (i + 1) H3)
    (last : ∀ H, Pv es.length H → Qd H) :
    ∃ W : Nat → Nat → Hp → Prop, (∃ m, W 0 m (upd H1 D (.lst []))) ∧ ∀ i m H, W i m H →
      ((Itk d o es).stop i H ∧ Qd H) ∨ ((Itk d o es).go i H ∧ ∃ N : Hp → Prop, (∀ H', N H' → ∃ m', m' < m ∧ W (i + 1) m' H') ∧ ∀ x H', (Itk d o es).yld i H x H' → g x (wipe σ vs) H' fun σ2 H2 => wipe σ2 vs = wipe σ vs ∧ tt σ2 H2 fun b H3 => if b = true then te σ2 H3 fun y H4 => ∃ acc, H4 D = some (.lst acc) ∧ acc.length < sizeLine ∧ N (upd H4 D (.lst (acc ++ [y]))) else N H3) := by
  refine ⟨fun i m H => m = es.length - i ∧ i ≤ es.length ∧ Pv i H, ⟨es.length, rfl, Nat.zero_le _, first⟩, fun i m H ⟨em, hi, p⟩ => ?_⟩
  subst em
  rcases Nat.lt_or_ge i es.length with lt | ge
  · refine .inr ⟨⟨still i H p, lt⟩, Pv (i + 1), fun H' q => ⟨es.length - (i + 1), by omega, rfl, lt, q⟩, fun x H' y => ?_⟩
    obtain ⟨eH, k, v, e, ex⟩ := y
    subst ex; subst eH
    exact turn i k v _ e p
  · obtain rfl : i = es.length := by omega
    exact .inl ⟨⟨still _ H p, ge⟩, last H p⟩
end
section
variable {T : Cs} {H H' : Hp} {S S' : Sh} {α α' : Rl → Addr} {δ δ' : Dl} {J J' : List Str} {G G' : Jud}
/-- the lines of a branch, locked or not -/
theorem Lay.setFz (L : Lay T H S α δ J G) {n : Int} {b : Br} (hb : aget S.brs n = some b) (x : Option Obj) :
    Mv T H S α J (upd H (α (.lns n)) (thw x (.dK (enc .inr (fun k _ => .ref (α (.ln n k))) b.lines)))) S α ⟨δ.d, fun m => if m = n then x else δ.fz m⟩ J G := by
  have l0 : Live S J (.lns n) := ⟨b, hb⟩
  refine ⟨L.move (L.updTups l0 _) (fun r hr => ?_) L.inj, L.step (fun a o h nn => ?_) (L.updTups l0 _) fun r hr => .inl ⟨hr, rfl⟩⟩
  · by_cases e : r = .lns n
    · subst e
      refine .inr ⟨_, upd_same, b, hb, ?_⟩
      show _ = thw (if n = n then x else δ.fz n) _
      rw [if_pos rfl]
    · refine .inl ⟨hr, rfl, upd_ne (L.ne hr l0 e), fun o c => ?_⟩
      cases r with
      | lns m =>
        obtain ⟨b', hb', c⟩ := c
        refine ⟨b', hb', ?_⟩
        show o = thw (if m = n then x else δ.fz m) _
        rw [if_neg (fun z => e (by rw [z]))]; exact c
      | _ => exact c
  · rw [upd_ne (Ne.symm (nn (.lns n) l0))]; exact h
end
end Vs
namespace Vs
open PySem L2
section
variable {P : Program} {w : World} {K : PySem.W.Frag} {mg : Str → Option Value} {base : Heap} {T : Cs} {U : Es} {Pt : Addr}
/-! ### fork -/
def spFork (T : Cs) (U : Es) : Sp := fun vs H Q E => ∃ (Ks : List Str) (p : Addr) (S : Sh) (F : Addr → Prop) (n : Int), vs = [.ref p, .int n] ∧ LyAt T H p S F ∧ WF Ks S ∧ n.natAbs < 10 ^ 20 ∧
  (∀ h, aget S.hns n = some h → ∀ H' F', ShAt T H' p (S.fork h.br h.mom) F' → Step H F H' F' → Q (.int S.bm) H') ∧ (aget S.hns n = none → E (.ref U.noHand) none H)
theorem sc_fork : FnScope ["self", "hand", "held", "number"] ["self", "hand"] (defScope s_Shelf_fork) := ⟨rfl, rfl, rfl, by decide +kernel, rfl, by decide +kernel, by decide +kernel⟩
theorem ok_fork {f : Addr} {fd : FuncData} (F : Fun K "fork" "Shelf.fork" s_Shelf_fork f fd) (C : Cf K T) (c1 : Mx P w K mg base (L2N.CX P w) T.S "hand_there" 1 ["self", "hand"] (spHandThere T U))
    (c2 : Kx P w K mg base "Branch" T.B 1 ["self", "beneath", "moment"] (spBranchInit T)) : FnOk P w K mg base (L2N.CX P w) 3 f fd ["self", "hand"] (spFork T U) := by
  obtain ⟨f1, fd1, m1, b1, G1⟩ := c1
  obtain ⟨f2, fd2, g2, m2, b2, G2⟩ := c2
  refine F.okX' sc_fork (fun vs H Q E h => ?_) (fun cdv A outer s H vs Q E hr h => ?_)
  · obtain ⟨Ks, p, S, F, n, rfl, _⟩ := h
    rfl
  · obtain ⟨Ks, p, S, F, n, rfl, ⟨α, δ, J, G, rfl, rfl, L, Z⟩, W, hn, q1, q2⟩ := h
    have hu := hu_of hr
    refine ⟨_, pss_cons (ps_set (i := 2) sc_fork.nd rfl (.inl rfl) (pe_meth (pv 0) C.S m1 G1 (hr.mono (by decide)) b1 .nil (L2N.passes_call (L2N.takes_of rfl rfl rfl rfl) (fun _ _ _ _ h => h)) (pa_cons (pv 1) pa_nil)))
      (pss_cons (ps_set (i := 3) sc_fork.nd rfl (.inl rfl) (pe_fld (pv 0) rfl))
      (pss_cons (ps_dput hu (pe_fld (pv 0) rfl) (pv 3) (pe_make m2 G2 hr rfl g2 b2 .nil pass0 (pa_cons (pe_fld (pv 2) rfl) (pa_cons (pe_fld (pv 2) rfl) pa_nil))) rfl)
      (pss_cons (ps_fldaug (pv 0) pe_int in_add)
      (pss_cons (ps_fld (pv 0) pe_dnewK rfl)
      (pss_one (ps_ret (pv 3))))))), ?_⟩
    refine ⟨_, rfl, _, _, _, rfl, L.sh, fSh_no, _, rfl, S, α, δ, J, G, n, rfl, L, hn, fun h hh => ?_, q2⟩
    refine ⟨_, rfl, _, _, _, _, _, rfl, L.sh, C.S, C.sBm, rfl, ?_⟩
    refine ⟨_, rfl, _, _, _, _, _, rfl, L.hn hh, C.N, C.nBr, rfl, _, rfl, _, _, _, _, _, rfl, L.hn hh, C.N, C.nMom, rfl, fun x dx hx hdx ndx => ?_⟩
    refine ⟨x, dx, some h.br, h.mom, rfl, upd_same, fun l m H1 hl hm nlm k1 h1 h2 h3 => ⟨rfl, ?_⟩⟩
    have free : ∀ a, (upd (upd H dx (.own x)) x (.ins T.B dx [])) a = none → a ≠ x ∧ H a = none := fun a q => by
      have n1 : a ≠ x := fun e => by rw [e, upd_same] at q; cases q
      rw [upd_ne n1] at q
      have n2 : a ≠ dx := fun e => by rw [e, upd_same] at q; cases q
      rw [upd_ne n2] at q
      exact ⟨n1, q⟩
    obtain ⟨nlx, hl0⟩ := free l hl
    obtain ⟨nmx, hm0⟩ := free m hm
    have k0 : ∀ b o, H b = some o → H1 b = some o := fun b o e => k1 b o (by rw [upd_ne (ne_of_none e hx), upd_ne (ne_of_none e hdx)]; exact e) (ne_of_none e hx)
    have e1 : H1 (α .sh) = some (.ins T.S (δ .sh) (fSh S α)) := k0 _ _ L.sh
    refine ⟨_, rfl, _, _, _, _, _, rfl, e1, C.S, C.sBrs, rfl, _, rfl, _, _, rfl, DPut.k (k := Sum.inl S.bm) (k0 _ _ L.brs) (by rw [enc_length]; exact le1000000 (Nat.le_trans W.cap.b (by decide))), ?_⟩
    obtain ⟨L2, st2⟩ := L.newBr (be := some h.br) (mom := h.mom) W.bfresh (Z _) hx hl0 hm0 (Ne.symm nlx) (Ne.symm nmx) nlm k0 h1 h2 h3
    refine ⟨_, rfl, _, _, _, _, _, rfl, L2.sh, C.S, C.sBm, rfl, _, _, rfl, rfl, _, _, L2.sh, by show 6 < 1000; decide, ?_⟩
    obtain ⟨L3, st3⟩ := L2.setSh S.now (S.bm + 1) S.hm
    intro j hj
    refine ⟨_, rfl, _, _, _, _, rfl, (upd_ne (ne_of_none L3.sh hj)).trans L3.sh, C.S, C.sJd, by show 6 < 1000; decide, ?_⟩
    obtain ⟨L4, st4⟩ := L3.void hj
    exact ⟨_, rfl, q1 h hh _ _ ⟨aJd (aBr α S.bm x l m) j, _, [], G, rfl, rfl, L4, RightJ.nil, Z⟩ (st2.trans (st3.trans st4))⟩
/-! ### drop -/
def spDrop (T : Cs) (U : Es) : Sp := fun vs H Q E => ∃ (p : Addr) (S : Sh) (F : Addr → Prop) (n : Int), vs = [.ref p, .int n] ∧ LyAt T H p S F ∧ n.natAbs < 10 ^ 20 ∧
  (∀ b, aget S.brs n = some b → (n = 0 → E (.ref U.noBranch) none H) ∧ (n ≠ 0 → (b.alive = true → ∀ H' F', ShAt T H' p (S.drop n b) F' → Step H F H' F' → Q .non H') ∧ (b.alive = false → E (.ref U.dropped) none H))) ∧ (aget S.brs n = none → E (.ref U.noBranch) none H)
theorem sc_drop : FnScope ["self", "branch", "there"] ["self", "branch"] (defScope s_Shelf_drop) := ⟨rfl, rfl, rfl, by decide +kernel, rfl, by decide +kernel, by decide +kernel⟩
theorem ok_drop {f : Addr} {fd : FuncData} (F : Fun K "drop" "Shelf.drop" s_Shelf_drop f fd) (C : Cf K T) (X : Ex K mg U) (c1 : Mx P w K mg base (L2N.CX P w) T.S "branch_there" 1 ["self", "branch"] (spBranchThere T U)) :
    FnOk P w K mg base (L2N.CX P w) 2 f fd ["self", "branch"] (spDrop T U) := by
  obtain ⟨f1, fd1, m1, b1, G1⟩ := c1
  refine F.okX' sc_drop (fun vs H Q E h => ?_) (fun cdv A outer s H vs Q E hr h => ?_)
  · obtain ⟨p, S, F, n, rfl, _⟩ := h
    rfl
  · obtain ⟨p, S, F, n, rfl, ⟨α, δ, J, G, rfl, rfl, L, Z⟩, hn, q1, q2⟩ := h
    refine ⟨_, pss_cons (ps_set (i := 2) sc_drop.nd rfl (.inl rfl) (pe_meth (pv 0) C.S m1 G1 hr b1 .nil (L2N.passes_call (L2N.takes_of rfl rfl rfl rfl) (fun _ _ _ _ h => h)) (pa_cons (pv 1) pa_nil)))
      (pss_cons (ps_if (pt_cmpR op_eq (pv 1) pe_int (nomark _)) (pss_one (L2N.ps_raise rfl (L2N.takes_of rfl rfl rfl rfl) (pmkN_own PySem.F.excBase_ValueError X.noBranch.x X.noBranch.g X.noBranch.k (raises_own X.noBranch.b X.noBranch.t) rfl (pa_cons pe_str pa_nil)))) pss_nil)
      (pss_cons (ps_if (pt_not (pt_val (pe_fld (pv 2) rfl)))
        (pss_one (L2N.ps_raise rfl (L2N.takes_of rfl rfl rfl rfl) (pmkN_own PySem.F.excBase_ValueError X.dropped.x X.dropped.g X.dropped.k (raises_own X.dropped.b X.dropped.t) rfl (pa_cons (pe_joined (.cons pe_str (.cons (pe_fmt (pv 1)) (.cons pe_str .nil)))) pa_nil)))) pss_nil)
      (pss_cons (ps_fld (pv 2) pe_bl rfl)
      (pss_one (ps_fld (pv 0) pe_dnewK rfl))))), ?_⟩
    refine ⟨_, rfl, _, _, _, rfl, L.sh, fSh_no, _, rfl, S, α, δ, J, G, n, rfl, L, hn, fun b hb => ?_, q2⟩
    obtain ⟨r1, r2⟩ := q1 b hb
    refine ⟨_, rfl, rfl, _, rfl, ?_⟩
    by_cases n0 : n = 0
    · exact ifT (decide_eq_true (by rw [n0])) ⟨by show 1 ≤ sizeLine; decide, r1 n0⟩
    · refine ifF (decide_eq_false (fun z => n0 (V.int.inj z))) ?_
      obtain ⟨r3, r4⟩ := r2 n0
      refine ⟨_, rfl, _, _, _, _, _, rfl, L.br hb, C.B, C.bAl, rfl, _, rfl, ?_⟩
      cases hal : b.alive with
      | false =>
        have f1 := fit1 (b := ("branch " : Str)) (by decide +kernel)
        have f2 := fit2 (b := Str.ofString (toString n)) f1.1 (by have := text_small hn; omega)
        have f3 := fit2 (b := (" was dropped" : Str)) f2.1 (by decide +kernel)
        exact ifT rfl ⟨_, rfl, f1.2, _, rfl, .inr ⟨n, rfl, log2_small hn, _, rfl, f2.2, _, rfl, f3.2, by show 1 ≤ sizeLine; decide, r4 hal⟩⟩
      | true =>
        refine ifF rfl ⟨_, rfl, _, _, _, _, rfl, L.br hb, C.B, C.bAl, by show 5 < 1000; decide, ?_⟩
        obtain ⟨L1, st1⟩ := L.setAlive hb false
        intro j hj
        refine ⟨_, rfl, _, _, _, _, rfl, (upd_ne (ne_of_none L1.sh hj)).trans L1.sh, C.S, C.sJd, by show 6 < 1000; decide, ?_⟩
        obtain ⟨L2, st2⟩ := L1.void hj
        exact r3 hal _ _ ⟨aJd α j, δ, [], G, rfl, rfl, L2, RightJ.nil, Z⟩ (st1.trans st2)
end
end Vs
namespace Vs
open PySem L2
section
variable {P : Program} {w : World} {K : PySem.W.Frag} {mg : Str → Option Value} {base : Heap} {T : Cs} {U : Es} {Pt : Addr}
/-! ### twin -/
def spTwin (T : Cs) (U : Es) : Sp := fun vs H Q E => ∃ (Ks : List Str) (p : Addr) (S : Sh) (F : Addr → Prop) (n : Int), vs = [.ref p, .int n] ∧ LyAt T H p S F ∧ WF Ks S ∧ n.natAbs < 10 ^ 20 ∧
  (∀ h, aget S.hns n = some h → ∀ H' F', ShAt T H' p (S.addHand h.br h.mom) F' → Step H F H' F' → Q (.int S.hm) H') ∧ (aget S.hns n = none → E (.ref U.noHand) none H)
theorem sc_twin : FnScope ["self", "hand", "held"] ["self", "hand"] (defScope s_Shelf_twin) := ⟨rfl, rfl, rfl, by decide +kernel, rfl, by decide +kernel, by decide +kernel⟩
theorem ok_twin {f : Addr} {fd : FuncData} (F : Fun K "twin" "Shelf.twin" s_Shelf_twin f fd) (C : Cf K T) (c1 : Mx P w K mg base (L2N.CX P w) T.S "hand_there" 1 ["self", "hand"] (spHandThere T U))
    (c2 : Mx P w K mg base CX0 T.S "add_hand" 3 ["self", "branch", "moment"] (spAddHand T)) : FnOk P w K mg base (L2N.CX P w) 4 f fd ["self", "hand"] (spTwin T U) := by
  obtain ⟨f1, fd1, m1, b1, G1⟩ := c1
  obtain ⟨f2, fd2, m2, b2, G2⟩ := c2
  refine F.okX' sc_twin (fun vs H Q E h => ?_) (fun cdv A outer s H vs Q E hr h => ?_)
  · obtain ⟨Ks, p, S, F, n, rfl, _⟩ := h
    rfl
  · obtain ⟨Ks, p, S, F, n, rfl, ⟨α, δ, J, G, rfl, rfl, L, Z⟩, W, hn, q1, q2⟩ := h
    refine ⟨_, pss_cons (ps_set (i := 2) sc_twin.nd rfl (.inl rfl) (pe_meth (pv 0) C.S m1 G1 (hr.mono (by decide)) b1 .nil (L2N.passes_call (L2N.takes_of rfl rfl rfl rfl) (fun _ _ _ _ h => h)) (pa_cons (pv 1) pa_nil)))
      (pss_one (ps_ret (pe_meth (pv 0) C.S m2 G2 hr b2 .nil pass0 (pa_cons (pe_fld (pv 2) rfl) (pa_cons (pe_fld (pv 2) rfl) pa_nil))))), ?_⟩
    refine ⟨_, rfl, _, _, _, rfl, L.sh, fSh_no, _, rfl, S, α, δ, J, G, n, rfl, L, hn, fun h hh => ?_, q2⟩
    refine ⟨_, rfl, _, _, _, rfl, L.sh, fSh_no, _, rfl, _, _, _, _, _, rfl, L.hn hh, C.N, C.nBr, rfl, _, rfl, _, _, _, _, _, rfl, L.hn hh, C.N, C.nMom, rfl, ?_⟩
    exact ⟨Ks, α .sh, S, _, h.br, h.mom, rfl, ⟨α, δ, J, G, rfl, rfl, L, Z⟩, W, q1 h hh⟩
end
end Vs
/-! ## dict comprehensions over items, over a list -/
namespace Vs
open PySem L2
abbrev DcTurn (g : TG) (tt : TT) (tk tv : TE) (vs : List Nat) (σ : L2.St) (D : Addr) (x : V) (H : Hp) (N : Hp → Prop) : Prop :=
  g x (wipe σ vs) H fun σ2 H2 => wipe σ2 vs = wipe σ vs ∧ tt σ2 H2 fun b H3 => if b = true then tk σ2 H3 fun y H4 => tv σ2 H4 fun z H5 => ∃ kvs k, y = kV k ∧ H5 D = some (.dK kvs) ∧ kvs.length < sizeLine ∧ N (upd H5 D (.dK (putK kvs k z))) else N H3
theorem dc_items {d : Addr} {o : Obj} {es : List (Key × V)} {g : TG} {tt : TT} {tk tv : TE} {vs : List Nat} {σ : L2.St} {H1 : Hp} {D : Addr} {fin : Hp → Prop} (Pv : Nat → Hp → Prop) (first : Pv 0 (upd H1 D (.dK []))) (still : ∀ i H, Pv i H → H d = some (.frz o (.dK es)))
    (turn : ∀ i k v t H, es[i]? = some (k, v) → Pv i H → H t = none → DcTurn g tt tk tv vs σ D (.ref t) (upd H t (.tup [kV k, v])) (Pv (i + 1))) (last : ∀ H, Pv es.length H → fin H) :
    ∃ W : Nat → Nat → Hp → Prop, (∃ m, W 0 m (upd H1 D (.dK []))) ∧ ∀ i m H, W i m H →
      ((Iti d o es).stop i H ∧ fin H) ∨ ((Iti d o es).go i H ∧ ∃ N : Hp → Prop, (∀ H', N H' → ∃ m', m' < m ∧ W (i + 1) m' H') ∧ ∀ x H', (Iti d o es).yld i H x H' → DcTurn g tt tk tv vs σ D x H' N) := by
  refine ⟨fun i m H => m = es.length - i ∧ i ≤ es.length ∧ Pv i H, ⟨es.length, rfl, Nat.zero_le _, first⟩, fun i m H ⟨em, hi, p⟩ => ?_⟩
  subst em
  rcases Nat.lt_or_ge i es.length with lt | ge
  · refine .inr ⟨⟨still i H p, lt⟩, Pv (i + 1), fun H' q => ⟨es.length - (i + 1), by omega, rfl, lt, q⟩, fun x H' y => ?_⟩
    obtain ⟨t, k, v, e, ex, ht, eH⟩ := y
    subst ex; subst eH
    exact turn i k v t H e p ht
  · obtain rfl : i = es.length := by omega
    exact .inl ⟨⟨still _ H p, ge⟩, last H p⟩
theorem dc_list {K : PySem.W.Frag} {a : Addr} {xs : List V} {g : TG} {tt : TT} {tk tv : TE} {vs : List Nat} {σ : L2.St} {H1 : Hp} {D : Addr} {fin : Hp → Prop} (Pv : Nat → Hp → Prop) (first : Pv 0 (upd H1 D (.dK []))) (still : ∀ i H, Pv i H → SqL K H a xs)
    (turn : ∀ i x H, xs[i]? = some x → Pv i H → DcTurn g tt tk tv vs σ D x H (Pv (i + 1))) (last : ∀ H, Pv xs.length H → fin H) :
    ∃ W : Nat → Nat → Hp → Prop, (∃ m, W 0 m (upd H1 D (.dK []))) ∧ ∀ i m H, W i m H →
      ((Itl K a).stop i H ∧ fin H) ∨ ((Itl K a).go i H ∧ ∃ N : Hp → Prop, (∀ H', N H' → ∃ m', m' < m ∧ W (i + 1) m' H') ∧ ∀ x H', (Itl K a).yld i H x H' → DcTurn g tt tk tv vs σ D x H' N) := by
  refine ⟨fun i m H => m = xs.length - i ∧ i ≤ xs.length ∧ Pv i H, ⟨xs.length, rfl, Nat.zero_le _, first⟩, fun i m H ⟨em, hi, p⟩ => ?_⟩
  subst em
  have sq := still i H p
  rcases Nat.lt_or_ge i xs.length with lt | ge
  · refine .inr ⟨⟨xs, xs[i], sq, List.getElem?_eq_getElem lt⟩, Pv (i + 1), fun H' q => ⟨xs.length - (i + 1), by omega, rfl, lt, q⟩, fun x H' y => ?_⟩
    obtain ⟨eH, y⟩ := y
    subst eH
    exact turn i x _ (y xs sq) p
  · obtain rfl : i = xs.length := by omega
    exact .inl ⟨⟨xs, sq, ge⟩, last H p⟩
end Vs
namespace Vs
open PySem L2
theorem enc_at {κ β : Type} {f : κ → Key} {g : κ → β → V} {l : List (κ × β)} {i : Nat} {k : Key} {v : V} (h : (enc f g l)[i]? = some (k, v)) : ∃ x y, l[i]? = some (x, y) ∧ k = f x ∧ v = g x y := by
  unfold enc at h
  rw [List.getElem?_map] at h
  cases e : l[i]? with
  | none => rw [e] at h; cases h
  | some p => rw [e] at h; cases (Option.some.inj h); exact ⟨p.1, p.2, rfl, rfl, rfl⟩
theorem Sm.unlock {H H' : Hp} {d : Addr} {o : Obj} {u : HO} (h : H d = some u) (nu : NT u) (s : Sm (upd H d (.frz o u)) H') : Sm H (upd H' d u) := by
  have hd : H' d = some (.frz o u) := s.keep d _ upd_same (fun _ z => by cases z)
  refine ⟨fun b x e n => ?_, fun P hP => ?_, fun b ps e => ?_⟩
  · by_cases z : b = d
    · subst z; rw [upd_same, ← e, h]
    · rw [upd_ne z]; exact s.keep b x (by rw [upd_ne z]; exact e) n
  · obtain ⟨ps, e, q⟩ := hP
    have z : P ≠ d := fun z => by rw [z, h] at e; exact nu ps (Option.some.inj e)
    obtain ⟨qs, e2, q2⟩ := s.tab P ⟨ps, by rw [upd_ne z]; exact e, q⟩
    exact ⟨qs, by rw [upd_ne z]; exact e2, q2⟩
  · have z : b ≠ d := fun z => by rw [z, h] at e; exact nu ps (Option.some.inj e)
    obtain ⟨qs, e2⟩ := s.tbl b ps (by rw [upd_ne z]; exact e)
    exact ⟨qs, by rw [upd_ne z]; exact e2⟩
theorem Sm.lockNew {H : Hp} {d p : Addr} {o : Obj} {u v : HO} (h : H d = some u) (hp : H p = none) : Sm (upd H d (.frz o u)) (upd (upd H p v) d (.frz o u)) := by
  have n : p ≠ d := Ne.symm (ne_of_none h hp)
  exact Sm.of fun b x e => by
    by_cases z : b = d
    · rw [z, upd_same] at e ⊢; exact e
    · rw [upd_ne z] at e ⊢
      rw [upd_ne (ne_of_none e hp)]; exact e
theorem Sm.own {H H1 H4 : Hp} (s1 : Sm H H1) {D : Addr} (hD : H1 D = none) (s4 : Sm H H4) {u : HO} (h4 : H4 D = some u) (nu : NT u) (o : HO) : Sm H (upd H4 D o) := by
  refine ⟨fun b x e n => ?_, fun Q hQ => ?_, fun b ps e => ?_⟩
  · rw [upd_ne (ne_of_none (s1.keep b x e n) hD)]; exact s4.keep b x e n
  · obtain ⟨ps, e, t⟩ := s4.tab Q hQ
    refine ⟨ps, ?_, t⟩
    rw [upd_ne (ne_of e h4 (fun z => nu ps z.symm))]; exact e
  · obtain ⟨qs, e'⟩ := s4.tbl b ps e
    exact ⟨qs, by rw [upd_ne (ne_of e' h4 (fun z => nu qs z.symm))]; exact e'⟩
theorem ntD (xs : List (Key × V)) : NT (.dK xs) := fun _ z => by cases z
theorem not_yet {l : List Str} (nd : l.Nodup) (h : l[j]? = some k) : k ∉ l.take j := fun z => by
  have hl := (List.getElem?_eq_some_iff.mp h).1
  have e2 := (List.getElem?_eq_some_iff.mp h).2
  rw [← List.take_append_drop j l, List.drop_eq_getElem_cons hl, e2] at nd
  exact (List.nodup_append.mp nd).2.2 _ z _ List.mem_cons_self rfl
theorem ntL (xs : List V) : NT (.lst xs) := fun _ z => by cases z
end Vs
namespace Vs
open PySem L2 PyProof.Rows
/-! ## all_seen_by_hand, keys -/
theorem Sm.lockBoth {H H1 : Hp} {d : Addr} {o : Obj} {u : HO} (s : Sm H H1) : Sm (upd H d (.frz o u)) (upd H1 d (.frz o u)) := by
  refine ⟨fun b x e n => ?_, fun P hP => ?_, fun b ps e => ?_⟩
  · by_cases z : b = d
    · rw [z, upd_same] at e ⊢; exact e
    · rw [upd_ne z] at e ⊢; exact s.keep b x e n
  · obtain ⟨ps, e, q⟩ := hP
    have z : P ≠ d := fun z => by rw [z, upd_same] at e; cases e
    rw [upd_ne z] at e
    obtain ⟨qs, e2, q2⟩ := s.tab P ⟨ps, e, q⟩
    exact ⟨qs, by rw [upd_ne z]; exact e2, q2⟩
  · have z : b ≠ d := fun z => by rw [z, upd_same] at e; cases e
    rw [upd_ne z] at e
    obtain ⟨qs, e2⟩ := s.tbl b ps e
    exact ⟨qs, by rw [upd_ne z]; exact e2⟩
section
variable {d : Addr} {o : Obj} {es : List (Key × V)}
/-- for k, v in d.items(), d locked -/
theorem for_items {g : TG} {tb : TS} {D : Ends} {σ : L2.St} {H : Hp} (Pv : Nat → L2.St → Hp → Prop) (first : Pv 0 σ H) (still : ∀ i σ H, Pv i σ H → H d = some (.frz o (.dK es)))
    (turn : ∀ i k v t σ H, es[i]? = some (k, v) → Pv i σ H → H t = none → g (.ref t) σ (upd H t (.tup [kV k, v])) fun σ2 H2 => tb { D with nx := Pv (i + 1), ct := Pv (i + 1), bk := D.nx } σ2 H2) (last : ∀ σ H, Pv es.length σ H → D.nx σ H) :
    ∃ W : Nat → Nat → L2.St → Hp → Prop, (∃ m, W 0 m σ H) ∧ ∀ i m σ H, W i m σ H →
      ((Iti d o es).stop i H ∧ D.nx σ H) ∨ ((Iti d o es).go i H ∧ ∃ N : L2.St → Hp → Prop, (∀ σ' H', N σ' H' → ∃ m', m' < m ∧ W (i + 1) m' σ' H') ∧ ∀ x H', (Iti d o es).yld i H x H' → g x σ H' fun σ2 H2 => tb { D with nx := N, ct := N, bk := D.nx } σ2 H2) := by
  refine ⟨fun i m σ H => m = es.length - i ∧ i ≤ es.length ∧ Pv i σ H, ⟨es.length, rfl, Nat.zero_le _, first⟩, fun i m σ H ⟨em, hi, p⟩ => ?_⟩
  subst em
  rcases Nat.lt_or_ge i es.length with lt | ge
  · refine .inr ⟨⟨still i σ H p, lt⟩, Pv (i + 1), fun σ' H' q => ⟨es.length - (i + 1), by omega, rfl, lt, q⟩, fun x H' y => ?_⟩
    obtain ⟨t, k, v, e, ex, ht, eH⟩ := y
    subst ex; subst eH
    exact turn i k v t σ _ e p ht
  · obtain rfl : i = es.length := by omega
    exact .inl ⟨⟨still _ σ H p, ge⟩, last σ H p⟩
/-- {.. for k in d}, d locked -/
theorem dc_keys {g : TG} {tt : TT} {tk tv : TE} {vs : List Nat} {σ : L2.St} {H1 : Hp} {D : Addr} {fin : Hp → Prop} (Pv : Nat → Hp → Prop) (first : Pv 0 (upd H1 D (.dK []))) (still : ∀ i H, Pv i H → H d = some (.frz o (.dK es)))
    (turn : ∀ i k v H, es[i]? = some (k, v) → Pv i H → DcTurn g tt tk tv vs σ D (kV k) H (Pv (i + 1))) (last : ∀ H, Pv es.length H → fin H) :
    ∃ W : Nat → Nat → Hp → Prop, (∃ m, W 0 m (upd H1 D (.dK []))) ∧ ∀ i m H, W i m H →
      ((Itk d o es).stop i H ∧ fin H) ∨ ((Itk d o es).go i H ∧ ∃ N : Hp → Prop, (∀ H', N H' → ∃ m', m' < m ∧ W (i + 1) m' H') ∧ ∀ x H', (Itk d o es).yld i H x H' → DcTurn g tt tk tv vs σ D x H' N) := by
  refine ⟨fun i m H => m = es.length - i ∧ i ≤ es.length ∧ Pv i H, ⟨es.length, rfl, Nat.zero_le _, first⟩, fun i m H ⟨em, hi, p⟩ => ?_⟩
  subst em
  rcases Nat.lt_or_ge i es.length with lt | ge
  · refine .inr ⟨⟨still i H p, lt⟩, Pv (i + 1), fun H' q => ⟨es.length - (i + 1), by omega, rfl, lt, q⟩, fun x H' y => ?_⟩
    obtain ⟨eH, k, v, e, ex⟩ := y
    subst ex; subst eH
    exact turn i k v _ e p
  · obtain rfl : i = es.length := by omega
    exact .inl ⟨⟨still _ H p, ge⟩, last H p⟩
end
/-! ### what is seen of all keys -/
def orE {α : Type} (a b : Option α) : Option α := match a with
  | some v => some v
  | none => b
theorem orE_assoc {α : Type} (a b c : Option α) : orE (orE a b) c = orE a (orE b c) := by cases a <;> rfl
def restR (S : Sh) (k : Str) : Option Int → Int → Option (Option Int)
  | none, _ => none
  | some q, m => (reachS S.brs k q m).map (·.2.2)
def fullS (S : Sh) (h : Hn) (k : Str) : Option (Option Int) := orE (aget h.drafts k) (restR S k (some h.br) h.mom)
theorem look_full (S : Sh) (h : Hn) (k : Str) : lookM S h k = (fullS S h k).bind id := by
  unfold lookM fullS orE restR seesM
  cases aget h.drafts k with
  | some v => rfl
  | none =>
    dsimp only
    cases reachS S.brs k h.br h.mom <;> rfl
theorem rest_step {Ks : List Str} {S : Sh} (W : WF Ks S) (k : Str) {q : Int} {b : Br} (hb : aget S.brs q = some b) (m : Int) : restR S k (some q) m = orE ((newC (b.line k) m).map (·.2)) (restR S k b.ben b.mom) := by
  show (reachS S.brs k q m).map (·.2.2) = _
  rw [reachS_of W k m hb]
  cases newC (b.line k) m with
  | some c => rfl
  | none =>
    show (belowS S k b).map (·.2.2) = restR S k b.ben b.mom
    unfold belowS
    cases b.ben with
    | none => rfl
    | some p => rfl
def rNoN : R2 := fun x y H Q => y = .non ∧ Q (.bl (!decide (x = V.non))) H
theorem fm_in {l : List (Str × Option Int)} {k : Str} (hk : k ∈ (l.filterMap fun q => q.2.map fun v => (q.1, v)).map (·.1)) : k ∈ l.map (·.1) := by
  obtain ⟨p, hp, e⟩ := List.mem_map.mp hk
  obtain ⟨q, hq, eq⟩ := List.mem_filterMap.mp hp
  cases hv : q.2 with
  | none => rw [hv] at eq; cases eq
  | some v =>
    rw [hv] at eq
    rw [← e, ← Option.some.inj eq]; exact List.mem_map_of_mem hq
theorem fm_nd : ∀ {l : List (Str × Option Int)}, (l.map (·.1)).Nodup → ((l.filterMap fun q => q.2.map fun v => (q.1, v)).map (·.1)).Nodup
  | [], _ => List.nodup_nil
  | q :: l, h => by
    obtain ⟨n1, n2⟩ := List.nodup_cons.mp (by rw [List.map_cons] at h; exact h)
    rw [List.filterMap_cons]
    cases hv : q.2 with
    | none => exact fm_nd n2
    | some v =>
      show (q.1 :: _).Nodup
      exact List.nodup_cons.mpr ⟨fun z => n1 (fm_in z), fm_nd n2⟩
abbrev encO (fs : List (Str × Option Int)) : List (Key × V) := enc .inr (fun _ v => optV v) fs
abbrev encI (gs : List (Str × Int)) : List (Key × V) := enc .inr (fun _ v => V.int v) gs
section
variable {P : Program} {w : World} {K : PySem.W.Frag} {mg : Str → Option Value} {base : Heap} {T : Cs} {U : Es} {Pt : Addr}
def spAllSeen (T : Cs) : Sp := fun vs H Q _ => ∃ (Ks : List Str) (S : Sh) (α : Rl → Addr) (δ : Dl) (J : List Str) (G : Jud) (n : Int) (h : Hn), vs = [.ref (α .brs), .ref (α (.hn n))] ∧ Lay T H S α δ J G ∧ δ.Thaw ∧ WF Ks S ∧ aget S.hns n = some h ∧
  ∀ H' D gs, Sm H H' → H D = none → H' D = some (.dK (encI gs)) → (gs.map (·.1)).Nodup → (∀ k ∈ gs.map (·.1), k ∈ Ks) → (∀ k, aget gs k = lookM S h k) → Q (.ref D) H'
abbrev nAll : List Str := ["branches", "hand", "found", "number", "moment", "branch", "key", "line", "place"]
theorem sc_all : FnScope nAll ["branches", "hand"] (defScope s_all_seen_by_hand) := ⟨rfl, rfl, rfl, by decide +kernel, rfl, by decide +kernel, by decide +kernel⟩
theorem ok_allSeen {f : Addr} {fd : FuncData} (F : Fun K "all_seen_by_hand" "all_seen_by_hand" s_all_seen_by_hand f fd) (C : Cf K T) (c3 : Fx P w K mg base CX0 "newest" 1 ["line", "moment"] (spNewest K)) : FnOk P w K mg base CX0 2 f fd ["branches", "hand"] (spAllSeen T) := by
  obtain ⟨f3, fd3, g3, k3, b3, G3⟩ := c3
  refine F.ok sc_all (fun vs H Q E h => ?_) (fun cdv A outer s H vs Q E hr h => ?_)
  · obtain ⟨Ks, S, α, δ, J, G, n, h, rfl, _⟩ := h
    rfl
  · obtain ⟨Ks, S, α, δ, J, G, n, h, rfl, L, Z, W, hh, kq⟩ := h
    have hu := hu_of hr
    refine ⟨_, pss_cons (ps_set (i := 2) sc_all.nd rfl (.inr rfl) (pe_lock (pe_dc (own := [("key", 6)]) (g := gName 6) (tt := tYes) (tk := tVar 6) (tv := tDGet (tFld K (tVar 1) "drafts") (tVar 6)) rfl sc_all.nd (pi_keys (pe_fld (pv 1) rfl))
          (blkOk_by (own := [("key", 6)]) (N := nAll) (sc := defScope s_all_seen_by_hand) (by decide +kernel)) (fun _ _ _ _ _ => pg_name (i := 6) sc_all.nd rfl (.inl rfl)) (fun _ _ _ _ _ => pts_nil)
          (fun _ _ _ _ _ => by exact (pv 6)) (fun _ _ _ _ _ => by exact pe_dget hu (pe_fld (pv 1) rfl) (pv 6) (fun _ _ => rfl)))))
      (pss_cons (ps_set (i := 3) sc_all.nd rfl (.inl rfl) (pe_fld (pv 1) rfl))
      (pss_cons (ps_set (i := 4) sc_all.nd rfl (.inl rfl) (pe_fld (pv 1) rfl))
      (pss_cons (ps_while PassesOwn.never (pt_cmpR op_notN (pv 3) pe_non (nomark _))
        (pss_cons (ps_set (i := 5) sc_all.nd rfl (.inl rfl) (pe_dget hu (pv 0) (pv 3) (fun _ _ => rfl)))
        (pss_cons (ps_lock (ps_for PassesOwn.never rfl (pi_items (pe_fld (pv 5) rfl)) (pg_tup rfl (pgs_cons (pg_name (i := 6) sc_all.nd rfl (.inl rfl)) (pgs_cons (pg_name (i := 7) sc_all.nd rfl (.inl rfl)) pgs_nil)))
          (pss_cons (ps_set (i := 8) sc_all.nd rfl (.inl rfl) (pe_call G3 hr rfl g3 k3 b3 .nil pass0 (pa_cons (pv 7) (pa_cons (pv 4) pa_nil))))
          (pss_one (ps_if (PW.pt (pw_and (pt_cmpR op_ge (pv 8) pe_int (nomark _)) (pw_and1 (pt_cmp (pc_dnotin hu (pv 6) (pv 2))))))
            (pss_one (ps_dput hu (pv 2) (pv 6) (pe_ix ix_tup (pe_ix ix_list (pv 7) (pv 8) (fun _ _ => rfl)) pe_int (fun _ _ => rfl)) rfl)) pss_nil)))))
        (pss_cons (ps_set (i := 3) sc_all.nd rfl (.inl rfl) (pe_fld (pv 5) rfl))
        (pss_one (ps_set (i := 4) sc_all.nd rfl (.inl rfl) (pe_fld (pv 5) rfl)))))))
      (pss_one (ps_ret (pe_lock (pe_dc (own := [("key", 6)]) (g := gName 6) (tt := tTest (tOp rNoN (tDGet (tVar 2) (tVar 6)) (tC .non))) (tk := tVar 6) (tv := tDGet (tVar 2) (tVar 6)) rfl sc_all.nd (pi_keys (pv 2))
          (blkOk_by (own := [("key", 6)]) (N := nAll) (sc := defScope s_all_seen_by_hand) (by decide +kernel)) (fun _ _ _ _ _ => pg_name (i := 6) sc_all.nd rfl (.inl rfl)) (fun _ _ _ _ _ => by exact pts_one (pt_cmpR (r := rNoN) op_notN (pe_dget hu (pv 2) (pv 6) (fun _ _ => rfl)) pe_non (nomark _)))
          (fun _ _ _ _ _ => by exact (pv 6)) (fun _ _ _ _ _ => by exact pe_dget hu (pv 2) (pv 6) (fun _ _ => rfl))))))))), ?_⟩
    have hd0 : H (α (.dr n)) = some (.dK (encO h.drafts)) := L.dr hh
    have ndr := (W.dks n h hh).1
    have inr := (W.dks n h hh).2
    have hn0 := L.hn hh
    have nhd : α (.hn n) ≠ α (.dr n) := L.ne (r := .hn n) (r' := .dr n) ⟨h, hh⟩ ⟨h, hh⟩ (by intro z; cases z)
    have dlen : h.drafts.length ≤ 60 := by
      have := len_le_pool ndr inr
      rw [List.length_map] at this
      exact Nat.le_trans this W.pool
    refine ⟨α (.dr n), _, hd0, trivial, fun od => ?_⟩
    refine ⟨_, rfl, _, _, _, _, _, rfl, by rw [upd_ne nhd]; exact hn0, C.N, C.nDr, rfl, α (.dr n), od, rfl, .inl ⟨_, upd_same, fun D hD => ?_⟩⟩
    have nDd : D ≠ α (.dr n) := fun e => by rw [e, upd_same] at hD; cases hD
    have hD0 : H D = none := by rw [upd_ne nDd] at hD; exact hD
    refine dc_keys (fun j H1 => Sm (upd H (α (.dr n)) (.frz od (.dK (encO h.drafts)))) H1 ∧ H1 D = some (.dK (encO (h.drafts.take j)))) ⟨Sm.new hD, upd_same⟩ (fun j H1 ⟨s1, _⟩ => s1.keep _ _ upd_same (fun _ z => by cases z)) ?_ ?_
    · rintro j kk v H1 hj ⟨s1, h1D⟩
      obtain ⟨k, x, hjk, rfl, rfl⟩ := enc_at hj
      have hjl : j < h.drafts.length := (List.getElem?_eq_some_iff.mp hjk).1
      have h1d : H1 (α (.dr n)) = some (.frz od (.dK (encO h.drafts))) := s1.keep _ _ upd_same (fun _ z => by cases z)
      have h1n : H1 (α (.hn n)) = some (.ins T.N (δ (.hn n)) (fHn n h α)) := s1.keep _ _ (by rw [upd_ne nhd]; exact hn0) (fun _ z => by cases z)
      have dg : DGet H1 (α (.dr n)) (.str k) (some (optV x)) := by
        have : valV (encO h.drafts) (.inr k) = some (optV x) := by
          rw [valV_enc inr_inj, aget_of_mem ndr (List.mem_of_getElem? hjk)]; rfl
        exact .inl ⟨_, .inr k, .inr ⟨od, h1d⟩, rfl, this.symm⟩
      refine ⟨rfl, ?_⟩
      dsimp only [tYes]
      rw [if_pos rfl]
      refine ⟨_, rfl, _, rfl, _, _, _, _, _, rfl, h1n, C.N, C.nDr, rfl, _, rfl, _, _, rfl, dg, _, .inr k, rfl, h1D, ?_, (Sm.refl _).own hD s1 h1D (ntD _) _, ?_⟩
      · rw [enc_length, List.length_take]; exact le1000000 (by omega)
      · rw [upd_same, take_snoc hjk]
        congr 2
        unfold putK
        rw [if_neg]
        · unfold encO enc; rw [List.map_append]; rfl
        · intro z
          obtain ⟨kv, hkv, ek⟩ := List.any_eq_true.mp z
          obtain ⟨q, hq, rfl⟩ := List.mem_map.mp hkv
          have ek : Sum.inr q.1 = (Sum.inr k : Key) := of_decide_eq_true ek
          have ek : q.1 = k := Sum.inr.inj ek
          have nd2 : ((h.drafts.take (j + 1)).map (·.1)).Nodup := by rw [List.map_take]; exact ndr.sublist (List.take_sublist _ _)
          rw [take_snoc hjk, List.map_append] at nd2
          exact (List.nodup_append.mp nd2).2.2 q.1 (List.mem_map_of_mem hq) k (by simp) ek
    · rintro H1 ⟨s1, h1D⟩
      rw [enc_length, List.take_length] at h1D
      have h1d : H1 (α (.dr n)) = some (.frz od (.dK (encO h.drafts))) := s1.keep _ _ upd_same (fun _ z => by cases z)
      have s2 := Sm.unlock hd0 (ntD _) s1
      have h2D : upd H1 (α (.dr n)) (.dK (encO h.drafts)) D = some (.dK (encO h.drafts)) := by rw [upd_ne nDd]; exact h1D
      refine ⟨h1d, ?_⟩
      generalize upd H1 (α (.dr n)) (.dK (encO h.drafts)) = H2 at s2 h2D
      have L2 := L.sm s2
      refine ⟨_, rfl, _, _, _, _, _, rfl, L2.hn hh, C.N, C.nBr, rfl, ?_⟩
      refine ⟨_, rfl, _, _, _, _, _, rfl, L2.hn hh, C.N, C.nMom, rfl, ?_⟩
      refine while_by (fun σ H3 => Sm H H3 ∧ ∃ (fs : List (Str × Option Int)) (num : Option Int) (mo : Int) (x5 x6 x7 x8 : Option V), σ = [some (.ref (α .brs)), some (.ref (α (.hn n))), some (.ref D), some (optV num), some (.int mo), x5, x6, x7, x8] ∧
          H3 D = some (.dK (encO fs)) ∧ (fs.map (·.1)).Nodup ∧ (∀ k ∈ fs.map (·.1), k ∈ Ks) ∧ (∀ q, num = some q → ∃ b, aget S.brs q = some b) ∧ ∀ k, orE (aget fs k) (restR S k num mo) = fullS S h k)
        (fun σ _ => match σ with | [_, _, _, some (.int q), _, _, _, _, _] => q.toNat + 1 | _ => 0)
        ⟨s2, h.drafts, some h.br, h.mom, _, _, _, _, rfl, h2D, ndr, inr, fun q e => by cases e; exact (W.hn n h hh).2.2.1, fun k => rfl⟩ ?_ ?_
      · rintro σ H3 ⟨s3, fs, num, mo, x5, x6, x7, x8, rfl, h3D, ndf, inf, hnum, hfull⟩
        have flen : ∀ {fs : List (Str × Option Int)}, (fs.map (·.1)).Nodup → (∀ k ∈ fs.map (·.1), k ∈ Ks) → fs.length ≤ 60 := fun {fs} a b => by
          have := len_le_pool a b
          rw [List.length_map] at this
          exact Nat.le_trans this W.pool
        cases num with
        | none =>
          refine ⟨_, rfl, rfl, _, rfl, ifF rfl ?_⟩
          have hf : ∀ k, aget fs k = fullS S h k := fun k => by
            have := hfull k
            rw [← this]
            cases aget fs k <;> rfl
          refine ⟨D, _, h3D, trivial, fun od2 => ?_⟩
          refine ⟨_, rfl, D, od2, rfl, .inl ⟨_, upd_same, fun D2 hD2 => ?_⟩⟩
          have nDD : D2 ≠ D := fun e => by rw [e, upd_same] at hD2; cases hD2
          have hD23 : H3 D2 = none := by rw [upd_ne nDD] at hD2; exact hD2
          have gk : ∀ {l : List (Str × Option Int)} {k : Str}, k ∈ (l.filterMap fun q => q.2.map fun v => (q.1, v)).map (·.1) → k ∈ l.map (·.1) := fun {l k} hk => by
            obtain ⟨p, hp, e⟩ := List.mem_map.mp hk
            obtain ⟨q, hq, eq⟩ := List.mem_filterMap.mp hp
            cases hv : q.2 with
            | none => rw [hv] at eq; cases eq
            | some v =>
              rw [hv] at eq
              rw [← e, ← Option.some.inj eq]; exact List.mem_map_of_mem hq
          refine dc_keys (fun j H4 => Sm (upd H3 D (.frz od2 (.dK (encO fs)))) H4 ∧ H4 D2 = some (.dK (encI ((fs.take j).filterMap fun q => q.2.map fun v => (q.1, v))))) ⟨Sm.new hD2, upd_same⟩ (fun j H4 ⟨s4, _⟩ => s4.keep _ _ upd_same (fun _ z => by cases z)) ?_ ?_
          · rintro j kk v H4 hj ⟨s4, h4D⟩
            obtain ⟨k, x, hjk, rfl, rfl⟩ := enc_at hj
            have hjl : j < fs.length := (List.getElem?_eq_some_iff.mp hjk).1
            have h4d : H4 D = some (.frz od2 (.dK (encO fs))) := s4.keep _ _ upd_same (fun _ z => by cases z)
            have dg : DGet H4 D (.str k) (some (optV x)) := by
              have : valV (encO fs) (.inr k) = some (optV x) := by
                rw [valV_enc inr_inj, aget_of_mem ndf (List.mem_of_getElem? hjk)]; rfl
              exact .inl ⟨_, .inr k, .inr ⟨od2, h4d⟩, rfl, this.symm⟩
            refine ⟨rfl, _, rfl, _, rfl, _, _, rfl, dg, rfl, _, rfl, ?_⟩
            rw [take_snoc hjk, List.filterMap_append]
            cases x with
            | none => exact ifF rfl ⟨s4, by show H4 D2 = some (.dK (encI (_ ++ []))); rw [List.append_nil]; exact h4D⟩
            | some v =>
              refine ifT rfl ⟨_, rfl, _, rfl, _, rfl, _, _, rfl, dg, _, .inr k, rfl, h4D, ?_, (Sm.refl _).own hD2 s4 h4D (ntD _) _, ?_⟩
              · rw [enc_length]
                refine le1000000 (Nat.le_trans (List.length_filterMap_le _ _) ?_)
                rw [List.length_take]
                have := flen ndf inf
                omega
              · rw [upd_same]
                congr 2
                unfold putK
                rw [if_neg]
                · unfold encI enc; rw [List.map_append]; rfl
                · intro z
                  obtain ⟨kv, hkv, ek⟩ := List.any_eq_true.mp z
                  obtain ⟨q, hq, rfl⟩ := List.mem_map.mp hkv
                  have ek : Sum.inr q.1 = (Sum.inr k : Key) := of_decide_eq_true ek
                  have ek : q.1 = k := Sum.inr.inj ek
                  have nd2 : ((fs.take (j + 1)).map (·.1)).Nodup := by rw [List.map_take]; exact ndf.sublist (List.take_sublist _ _)
                  rw [take_snoc hjk, List.map_append] at nd2
                  exact (List.nodup_append.mp nd2).2.2 q.1 (gk (List.mem_map_of_mem hq)) k (by simp) ek
          · rintro H4 ⟨s4, h4D⟩
            rw [enc_length, List.take_length] at h4D
            have h4d : H4 D = some (.frz od2 (.dK (encO fs))) := s4.keep _ _ upd_same (fun _ z => by cases z)
            refine ⟨h4d, ?_⟩
            have s5 := Sm.unlock h3D (ntD _) s4
            have h5D : upd H4 D (.dK (encO fs)) D2 = some (.dK (encI (fs.filterMap fun q => q.2.map fun v => (q.1, v)))) := by rw [upd_ne nDD]; exact h4D
            have ndg := fm_nd ndf
            refine kq _ D2 _ (s3.trans s5) (s3.free hD23) h5D ndg (fun k hk => inf k (gk hk)) fun k => ?_
            rw [look_full, ← hf k]
            cases e : aget fs k with
            | none =>
              exact aget_none_of fun z => by
                obtain ⟨x, hx⟩ := aget_of_key (gk z)
                rw [e] at hx; cases hx
            | some x =>
              show _ = x
              cases x with
              | some v => exact aget_of_mem ndg (List.mem_filterMap.mpr ⟨(k, some v), aget_mem e, rfl⟩)
              | none =>
                refine aget_none_of fun z => ?_
                obtain ⟨p, hp, ep⟩ := List.mem_map.mp z
                obtain ⟨q, hq, eq⟩ := List.mem_filterMap.mp hp
                cases hv : q.2 with
                | none => rw [hv] at eq; cases eq
                | some v =>
                  rw [hv] at eq
                  have e1 : q.1 = k := by rw [← ep, ← Option.some.inj eq]
                  have : aget fs k = some (some v) := aget_of_mem ndf (by rw [← e1, ← hv]; exact hq)
                  rw [e] at this; cases this
        | some q =>
          obtain ⟨b, hb⟩ := hnum q rfl
          refine ⟨_, rfl, rfl, _, rfl, ifT rfl ?_⟩
          have L3 := L.sm s3
          refine ⟨_, rfl, _, rfl, _, _, rfl, L3.gBr1 hb, ?_⟩
          have hl0 : H (α (.lns q)) = some (.dK (enc .inr (fun k _ => .ref (α (.ln q k))) b.lines)) := L.lns0 hb (Z q)
          have hl3 : H3 (α (.lns q)) = some (.dK (enc .inr (fun k _ => .ref (α (.ln q k))) b.lines)) := L3.lns0 hb (Z q)
          have nDl : D ≠ α (.lns q) := Ne.symm (L.nofr hD0 (r := .lns q) ⟨b, hb⟩)
          have nbl : α (.br q) ≠ α (.lns q) := L.ne (r := .br q) (r' := .lns q) ⟨b, hb⟩ ⟨b, hb⟩ (by intro z; cases z)
          have ndl := (W.lks q b hb).1
          have inl := (W.lks q b hb).2
          refine ⟨α (.lns q), _, hl3, trivial, fun od => ?_⟩
          obtain ⟨Ll, _⟩ := L.setFz hb (some od)
          change Lay T (upd H (α (.lns q)) (.frz od (.dK (enc .inr (fun k _ => .ref (α (.ln q k))) b.lines)))) S α _ J G at Ll
          have sl : Sm (upd H (α (.lns q)) (.frz od (.dK (enc .inr (fun k _ => .ref (α (.ln q k))) b.lines)))) (upd H3 (α (.lns q)) (.frz od (.dK (enc .inr (fun k _ => .ref (α (.ln q k))) b.lines)))) := s3.lockBoth
          have Dl : upd H (α (.lns q)) (.frz od (.dK (enc .inr (fun k _ => .ref (α (.ln q k))) b.lines))) D = none := by rw [upd_ne nDl]; exact hD0
          have D3 : upd H3 (α (.lns q)) (.frz od (.dK (enc .inr (fun k _ => .ref (α (.ln q k))) b.lines))) D = some (.dK (encO fs)) := by rw [upd_ne nDl]; exact h3D
          have un : ∀ {H' : Hp}, Sm (upd H (α (.lns q)) (.frz od (.dK (enc .inr (fun k _ => .ref (α (.ln q k))) b.lines)))) H' → Sm H (upd H' (α (.lns q)) (.dK (enc .inr (fun k _ => .ref (α (.ln q k))) b.lines))) := fun s => Sm.unlock hl0 (ntD _) s
          have still : ∀ {H' : Hp}, Sm (upd H (α (.lns q)) (.frz od (.dK (enc .inr (fun k _ => .ref (α (.ln q k))) b.lines)))) H' → H' (α (.lns q)) = some (.frz od (.dK (enc .inr (fun k _ => .ref (α (.ln q k))) b.lines))) := fun s => s.keep _ _ upd_same (fun _ z => by cases z)
          have br3 : upd H3 (α (.lns q)) (.frz od (.dK (enc .inr (fun k _ => .ref (α (.ln q k))) b.lines))) (α (.br q)) = some (.ins T.B (δ (.br q)) (fBr q b α)) := by rw [upd_ne nbl]; exact L3.br hb
          generalize upd H3 (α (.lns q)) (.frz od (.dK (enc .inr (fun k _ => .ref (α (.ln q k))) b.lines))) = H4 at sl D3 br3
          generalize upd H (α (.lns q)) (.frz od (.dK (enc .inr (fun k _ => .ref (α (.ln q k))) b.lines))) = Hl at Ll sl Dl un still
          refine ⟨_, rfl, _, _, _, _, _, rfl, br3, C.B, C.bLn, rfl, α (.lns q), od, _, rfl, still sl, ?_⟩
          refine for_items (fun j σ H5 => (∃ x6 x7 x8, σ = [some (.ref (α .brs)), some (.ref (α (.hn n))), some (.ref D), some (.int q), some (.int mo), some (.ref (α (.br q))), x6, x7, x8]) ∧ Sm Hl H5 ∧ ∃ fj : List (Str × Option Int), H5 D = some (.dK (encO fj)) ∧ (fj.map (·.1)).Nodup ∧ (∀ k ∈ fj.map (·.1), k ∈ Ks) ∧
              ∀ k, aget fj k = orE (aget fs k) (if k ∈ (b.lines.map (·.1)).take j then (newC (b.line k) mo).map (·.2) else none))
            ⟨⟨_, _, _, rfl⟩, sl, fs, D3, ndf, inf, fun k => by rw [List.take_zero, if_neg (by simp)]; cases aget fs k <;> rfl⟩ (fun j σ H5 ⟨_, s5, _⟩ => still s5) ?_ ?_
          · rintro j kk v t σ H5 hj ⟨⟨x6, x7, x8, rfl⟩, s5, fj, h5D, ndj, inj, hfj⟩ ht
            obtain ⟨k, l, hjk, rfl, rfl⟩ := enc_at hj
            have hkl : aget b.lines k = some l := aget_of_mem ndl (List.mem_of_getElem? hjk)
            have hline : b.line k = l := by unfold Br.line; rw [hkl]; rfl
            have hkj : (b.lines.map (·.1))[j]? = some k := by rw [List.getElem?_map, hjk]; rfl
            have nin : k ∉ (b.lines.map (·.1)).take j := not_yet ndl hkj
            have kKs : k ∈ Ks := inl k (List.mem_of_getElem? hkj)
            have s6 : Sm H5 (upd H5 t (.tup [.str k, .ref (α (.ln q k))])) := Sm.new ht
            have t6 : upd H5 t (.tup [.str k, .ref (α (.ln q k))]) t = some (.tup [.str k, .ref (α (.ln q k))]) := upd_same
            have h6D := s6.dK h5D
            show gTup _ _ _ _ _ (upd H5 t (.tup [.str k, .ref (α (.ln q k))])) _
            generalize upd H5 t (.tup [.str k, .ref (α (.ln q k))]) = H6 at s6 t6 h6D
            have sl6 := s5.trans s6
            have L6 := Ll.sm sl6
            obtain ⟨rs, hrs, hcs⟩ := L6.ln hb hkl
            have memS : ∀ k', k' ≠ k → (k' ∈ (b.lines.map (·.1)).take (j + 1) ↔ k' ∈ (b.lines.map (·.1)).take j) := fun k' ne => by
              rw [take_snoc hkj, List.mem_append, List.mem_singleton]
              exact ⟨fun z => z.elim id fun y => absurd y ne, .inl⟩
            have memK : k ∈ (b.lines.map (·.1)).take (j + 1) := by rw [take_snoc hkj]; simp
            have fk0 : aget fj k = aget fs k := by rw [hfj k, if_neg nin]; cases aget fs k <;> rfl
            have other : ∀ k', k' ≠ k → aget fj k' = orE (aget fs k') (if k' ∈ (b.lines.map (·.1)).take (j + 1) then (newC (b.line k') mo).map (·.2) else none) := fun k' ne => by
              rw [hfj k']
              by_cases z : k' ∈ (b.lines.map (·.1)).take j
              · rw [if_pos z, if_pos ((memS k' ne).mpr z)]
              · rw [if_neg z, if_neg fun y => z ((memS k' ne).mp y)]
            refine ⟨t, _, rfl, SqT.of t6, rfl, _, _, rfl, _, _, rfl, rfl, ?_⟩
            have R : Rise l := by rw [← hline]; exact W.rise hb k
            refine ⟨_, rfl, _, rfl, α (.ln q k), mo, rs, l, rfl, SqL.of hrs, hcs, R, ?_⟩
            cases hcn : cnt l mo with
            | zero =>
              refine ⟨_, rfl, _, _, rfl, rfl, _, rfl, ifF (by rfl) ?_⟩
              refine ⟨⟨_, _, _, rfl⟩, sl6, fj, h6D, ndj, inj, fun k' => ?_⟩
              by_cases e : k' = k
              · subst e
                rw [fk0, if_pos memK, hline, newC_none.mpr hcn]
                cases aget fs k' <;> rfl
              · exact other k' e
            | succ i =>
              obtain ⟨c, c1, c2, c3⟩ := newC_at R hcn
              obtain ⟨tc, tc1, tc2⟩ := hcs.get c1
              refine ⟨_, rfl, _, _, rfl, rfl, _, rfl, ifT (decide_eq_true (by omega)) ?_⟩
              have dg : DGet H6 D (.str k) ((aget fj k).map optV) := by
                rw [← valV_enc inr_inj fj k (g := fun _ v => optV v)]; exact DGet.k (k := Sum.inr k) h6D
              refine ⟨_, rfl, _, rfl, _, _, rfl, dg, _, rfl, ?_⟩
              cases hfk : aget fj k with
              | some v =>
                refine ifF rfl ⟨⟨_, _, _, rfl⟩, sl6, fj, h6D, ndj, inj, fun k' => ?_⟩
                by_cases e : k' = k
                · subst e
                  rw [hfk, ← fk0, hfk]; rfl
                · exact other k' e
              | none =>
                have nk : k ∉ fj.map (·.1) := fun z => by
                  obtain ⟨x, hx⟩ := aget_of_key z
                  rw [hfk] at hx; cases hx
                refine ifT rfl ⟨_, rfl, _, rfl, α (.ln q k), _, _, _, rfl, rfl, SqL.of hrs, (by rw [show (((i + 1 : Nat) : Int) - 1) = (i : Int) by omega]; exact atI_nat tc1), tc, _, _, _, rfl, rfl, SqT.of tc2, rfl, _, rfl, _, rfl, D, _, rfl, DPut.k (k := .inr k) h6D ?_, ?_⟩
                · rw [enc_length]
                  have := flen ndj inj
                  exact le1000000 (by omega)
                · have ep : putK (encO fj) (.inr k) (optV c.2) = encO (fj ++ [(k, c.2)]) := by
                    unfold putK
                    rw [if_neg]
                    · unfold encO enc; rw [List.map_append]; rfl
                    · intro z
                      obtain ⟨kv, hkv, ek⟩ := List.any_eq_true.mp z
                      obtain ⟨p, hp, rfl⟩ := List.mem_map.mp hkv
                      have ek : Sum.inr p.1 = (Sum.inr k : Key) := of_decide_eq_true ek
                      exact nk (Sum.inr.inj ek ▸ List.mem_map_of_mem hp)
                  rw [ep]
                  refine ⟨⟨_, _, _, rfl⟩, (Sm.refl _).own Dl sl6 h6D (ntD _) _, fj ++ [(k, c.2)], upd_same, ?_, ?_, fun k' => ?_⟩
                  · rw [List.map_append]
                    refine List.nodup_append.mpr ⟨ndj, List.pairwise_singleton _ _, fun x hx y hy e => nk ?_⟩
                    have : y = k := by simpa using hy
                    rw [← this, ← e]; exact hx
                  · intro k' hk'
                    rw [List.map_append] at hk'
                    rcases List.mem_append.mp hk' with y | y
                    · exact inj k' y
                    · have : k' = k := by simpa using y
                      rw [this]; exact kKs
                  · rw [aget_append, aget_cons, aget_nil]
                    by_cases e : k' = k
                    · subst e
                      rw [hfk, if_pos rfl, ← fk0, hfk, if_pos memK, hline, c2]; rfl
                    · rw [← other k' e]
                      show (aget fj k').or (if k = k' then _ else _) = _
                      rw [if_neg (fun y => e y.symm)]
                      cases aget fj k' <;> rfl
          · rintro σ H5 ⟨⟨x6, x7, x8, rfl⟩, s5, fj, h5D, ndj, inj, hfj⟩
            refine ⟨still s5, ?_⟩
            have s6 := un s5
            have h6D : upd H5 (α (.lns q)) (.dK (enc .inr (fun k _ => .ref (α (.ln q k))) b.lines)) D = some (.dK (encO fj)) := by rw [upd_ne nDl]; exact h5D
            generalize upd H5 (α (.lns q)) (.dK (enc .inr (fun k _ => .ref (α (.ln q k))) b.lines)) = H6 at s6 h6D
            have L6 := L.sm s6
            refine ⟨_, rfl, _, _, _, _, _, rfl, L6.br hb, C.B, C.bBen, rfl, ?_⟩
            refine ⟨_, rfl, _, _, _, _, _, rfl, L6.br hb, C.B, C.bMom, rfl, ?_⟩
            refine ⟨⟨s6, fj, b.ben, b.mom, _, _, _, _, rfl, h6D, ndj, inj, fun q' e => (W.ben q b q' hb e).2, fun k => ?_⟩, ?_⟩
            · rw [enc_length, ← List.length_map (f := (·.1)), List.take_length] at hfj
              have hN : aget fj k = orE (aget fs k) ((newC (b.line k) mo).map (·.2)) := by
                rw [hfj k]
                by_cases z : k ∈ b.lines.map (·.1)
                · rw [if_pos z]
                · rw [if_neg z]
                  have : b.line k = [] := by unfold Br.line; rw [aget_none_of z]; rfl
                  rw [this]; rfl
              rw [hN, orE_assoc, ← rest_step W k hb mo]
              exact hfull k
            · cases hq : b.ben with
              | none => exact Nat.succ_pos _
              | some q' =>
                have h1 := (W.ben q b q' hb hq).1
                obtain ⟨c, hc'⟩ := (W.ben q b q' hb hq).2
                have h2 := (W.bnd q' c hc').1
                show q'.toNat + 1 < q.toNat + 1
                omega
      · rintro σ H1 Q1 Q2 hq ⟨v, e, h1, b, h2, h3⟩
        exact ⟨v, e, h1, b, h2, hq _ _ h3⟩
end
end Vs
namespace Vs
open PySem L2 PyProof.Rows
/-! ## keys -/
section
variable {P : Program} {w : World} {K : PySem.W.Frag} {mg : Str → Option Value} {base : Heap} {T : Cs} {U : Es} {Pt : Addr}
def spKeys (T : Cs) (U : Es) : Sp := fun vs H Q E => ∃ (Ks : List Str) (p : Addr) (S : Sh) (F : Addr → Prop) (n : Int), vs = [.ref p, .int n] ∧ LyAt T H p S F ∧ WF Ks S ∧ n.natAbs < 10 ^ 20 ∧
  (∀ h, aget S.hns n = some h → ∀ H' q gs, Sm H H' → H q = none → H' q = some (.lst ((sortK (gs.map (·.1))).map V.str)) → (gs.map (·.1)).Nodup → (∀ k ∈ gs.map (·.1), k ∈ Ks) → (∀ k, aget gs k = lookM S h k) → Q (.ref q) H') ∧ (aget S.hns n = none → E (.ref U.noHand) none H)
theorem sc_keysM : FnScope ["self", "hand"] ["self", "hand"] (defScope s_Shelf_keys) := ⟨rfl, rfl, rfl, by decide +kernel, rfl, by decide +kernel, by decide +kernel⟩
theorem ok_keysM {f : Addr} {fd : FuncData} (F : Fun K "keys" "Shelf.keys" s_Shelf_keys f fd) (B : Bt mg) (C : Cf K T) (c1 : Mx P w K mg base (L2N.CX P w) T.S "hand_there" 1 ["self", "hand"] (spHandThere T U)) (c2 : Fx P w K mg base CX0 "all_seen_by_hand" 2 ["branches", "hand"] (spAllSeen T)) :
    FnOk P w K mg base (L2N.CX P w) 3 f fd ["self", "hand"] (spKeys T U) := by
  obtain ⟨f1, fd1, m1, b1, G1⟩ := c1
  obtain ⟨f2, fd2, g2, k2, b2, G2⟩ := c2
  refine F.okX' sc_keysM (fun vs H Q E h => ?_) (fun cdv A outer s H vs Q E hr h => ?_)
  · obtain ⟨Ks, p, S, F, n, rfl, _⟩ := h
    rfl
  · obtain ⟨Ks, p, S, F, n, rfl, ⟨α, δ, J, G, rfl, rfl, L, Z⟩, W, hn, q1, q2⟩ := h
    refine ⟨_, pss_one (ps_ret (pe_callB (call_sortedD rfl) (by rfl) B.sorted (by decide +kernel) (pa_cons (pe_call G2 hr rfl g2 k2 b2 .nil pass0 (pa_cons (pe_fld (pv 0) rfl) (pa_cons (pe_meth (pv 0) C.S m1 G1 (hr.mono (by decide)) b1 .nil (L2N.passes_call (L2N.takes_of rfl rfl rfl rfl) (fun _ _ _ _ h => h)) (pa_cons (pv 1) pa_nil)) pa_nil))) pa_nil))), ?_⟩
    refine ⟨_, rfl, _, _, _, _, _, rfl, L.sh, C.S, C.sBrs, rfl, _, rfl, _, _, _, rfl, L.sh, fSh_no, _, rfl, S, α, δ, J, G, n, rfl, L, hn, fun h hh => ?_, q2⟩
    refine ⟨Ks, S, α, δ, J, G, n, h, rfl, L, Z, W, hh, fun H1 D gs s1 nD h1D nd ink val => ?_⟩
    have len : (gs.map (·.1)).length < 64 := by
      have := len_le_pool nd ink
      have := W.pool
      omega
    refine ⟨D, _, gs.map (·.1), rfl, .inl h1D, enc_keys _, len, fun ys q perm srt hq => ?_⟩
    obtain rfl := sortedS_eq perm srt
    have s2 : Sm H1 (upd H1 q (.lst ((sortK (gs.map (·.1))).map V.str))) := Sm.new hq
    exact q1 h hh _ q gs (s1.trans s2) (s1.free hq) upd_same nd ink val
end
end Vs
/-! ## sorted(set(l)), l a list of texts -/
namespace Vs
open PySem PySem.Spec PyProof.Rows L2
def txt (e : Int × Value) : Str := match e.2 with
  | .str k _ => k
  | _ => ⟨#[]⟩
/-- an entry of such a set -/
def TxE (P : Program) (w : World) (e : Int × Value) : Prop := ∃ k tk, e.2 = Value.str k tk ∧ e.1 = (strKind P w).hash k
/-- at a: the set of the texts of xs -/
structure SetQ (P : Program) (w : World) (h : Heap) (a : Addr) (xs : List Str) (o : Obj) (es : Array (Int × Value)) (ep : Nat) (t : SetTable) : Prop where
  get : h.get? a = some o
  ex : o.ExactSet
  dt : o.data = .set es ep t
  ok : ∀ e ∈ es.toList, TxE P w e
  nd : (es.toList.map txt).Nodup
  mem : ∀ k, k ∈ xs ↔ k ∈ es.toList.map txt
  few : es.size < scanBound
  fit : t.fits es.size = true
  ris : Ris t.place.toList
  led : w.params.followText "set-order" = true ∨ t.led = true
def SetX (P : Program) (w : World) (h : Heap) (a : Addr) (xs : List Str) : Prop := ∃ o es ep t, SetQ P w h a xs o es ep t
section
variable {P : Program} {w : World} {A : Around} {E : Value → Shared → Prop} {z : Shared} {a : Addr} {xs : List Str} {o : Obj} {es : Array (Int × Value)} {ep : Nat} {t : SetTable}
theorem tx_elems {l : List (Int × Value)} (g : ∀ e ∈ l, TxE P w e) : ElemsOf (strKind P w) l := by
  intro e he
  obtain ⟨k, tk, q1, q2⟩ := g e he
  refine ⟨⟨k, ?_, q2⟩, ?_⟩
  · rw [q1]; exact strKind_is P w k tk
  · rw [q1]; rfl
theorem tx_is {e : Int × Value} (g : TxE P w e) (k : Str) : (strKind P w).is k e.2 = true ↔ txt e = k := by
  obtain ⟨j, tk, q1, _⟩ := g
  unfold txt
  rw [q1]
  show ((j == k) = true) ↔ _
  simp
theorem SetX.at {h h' : Heap} (q : SetX P w h a xs) (k : ∀ ob, h.get? a = some ob → h'.get? a = some ob) : SetX P w h' a xs := by
  obtain ⟨o, es, ep, t, q⟩ := q
  exact ⟨o, es, ep, t, k o q.get, q.ex, q.dt, q.ok, q.nd, q.mem, q.few, q.fit, q.ris, q.led⟩
theorem SetX.congr {h : Heap} {ys : List Str} (q : SetX P w h a xs) (e : ∀ k, k ∈ ys ↔ k ∈ xs) : SetX P w h a ys := by
  obtain ⟨o, es, ep, t, q⟩ := q
  exact ⟨o, es, ep, t, q.get, q.ex, q.dt, q.ok, q.nd, fun k => (e k).trans (q.mem k), q.few, q.fit, q.ris, q.led⟩
/-- the entries es1 and the table t1 are stored, laid anew where they are too many -/
theorem putQ {gv : Bool → Sem Unit} (hg : ∀ (b : Bool) (z1 : Shared) (Q' : Unit → Shared → Prop), Q' () z1 → wpAny (model P w) A (gv b) Q' E z1) (get : z.heap.get? a = some o) (ex : o.ExactSet) (dt : o.data = .set es ep t)
    {es1 : Array (Int × Value)} {t1 : SetTable} {ys : List Str} (ok : ∀ e ∈ es1.toList, TxE P w e) (nd : (es1.toList.map txt).Nodup) (mem : ∀ k, k ∈ ys ↔ k ∈ es1.toList.map txt)
    (few : es1.size < scanBound) (fit : t1.fits es1.size = true) (ris : Ris t1.place.toList) (led : w.params.followText "set-order" = true ∨ t1.led = true) {dm : Bool} {G : Option Bool → Shared → Prop}
    (fin : ∀ h', Heap.SameBut a z.heap h' → SetX P w h' a ys → G (some true) { z with heap := h' }) :
    wpAny (model P w) A (do storeSet a es1 t1; if (!dm && t1.tooFull) = true then do gv (relayAll t1 es1 (SetTable.grown es1.size)).2.2; storeSet a (relayAll t1 es1 (SetTable.grown es1.size)).1 (relayAll t1 es1 (SetTable.grown es1.size)).2.1; pure (some true) else pure (some true)) G E z := by
  refine wpAny_bind (wpAny_storeSet_of get dt ?_ (fits_of_scanBound few))
  have at1 := store_at (es' := es1) (t' := t1) get dt
  have same1 := Heap.SameBut.update z.heap a (Obj.putSet es1 t1)
  by_cases c : (!dm && t1.tooFull) = true
  · rw [if_pos c]
    have p2 := relayAll_perm t1 es1 (SetTable.grown es1.size)
    have f2 := relayAll_fits t1 es1 (SetTable.grown es1.size)
    have r2 := relayAll_ris t1 es1 (SetTable.grown es1.size)
    have l2 := relayAll_led t1 es1 (SetTable.grown es1.size)
    generalize relayAll t1 es1 (SetTable.grown es1.size) = Z at p2 f2 r2 l2 ⊢
    have n2 : Z.1.size = es1.size := by simpa using p2.length_eq
    have few2 : Z.1.size < scanBound := n2 ▸ few
    refine wpAny_bind (hg _ _ _ (wpAny_bind (wpAny_storeSet_of at1 rfl ?_ (fits_of_scanBound few2))))
    refine wpAny_pure (fin _ (same1.trans (Heap.SameBut.update _ a _)) ⟨_, Z.1, _, Z.2.1, store_at (es' := Z.1) (t' := Z.2.1) at1 rfl, ex, rfl, fun e he => ok e (p2.mem_iff.mp he), (p2.map txt).nodup_iff.mpr nd, fun k => (mem k).trans (p2.map txt).mem_iff.symm, few2, f2, r2, ?_⟩)
    rw [l2]; exact led
  · rw [if_neg c]
    exact wpAny_pure (fin _ same1 ⟨_, es1, _, t1, at1, ex, rfl, ok, nd, mem, few, fit, ris, led⟩)
theorem addQ {k : Str} {tk : Tok} {G : Bool → Shared → Prop} (q : SetQ P w z.heap a xs o es ep t) (room : es.size + 1 < scanBound) (fin : ∀ (b : Bool) h' , Heap.SameBut a z.heap h' → (∃ o1 es1 ep1 t1, SetQ P w h' a (k :: xs) o1 es1 ep1 t1 ∧ es1.size ≤ es.size + 1) → G b { z with heap := h' }) :
    wpAny (model P w) A (setAddHashed a (.str k tk) ((strKind P w).hash k)) G E z := by
  have el : ElemsOf (strKind P w) es.toList := tx_elems q.ok
  have sc : (Value.str k tk).scannable = true := rfl
  unfold setAddHashed setAddHashedIn
  refine wpAny_holding (wpAny_bind (wpAny_setState_of q.get q.dt q.fit ?_))
  dsimp only
  rw [byScan_of sc q.few el]
  simp only [↓reduceIte]
  unfold setAddByScan
  refine wpAny_bind (wpAny_bind (wpAny_rule (wpAny_bind (wpAny_setScan_of (strKind_is P w k tk) q.get q.dt q.fit el ?_))))
  cases found : List.findIdx? (fun e => (strKind P w).is k e.2) es.toList with
  | some j =>
    obtain ⟨hj, pj, _⟩ := List.findIdx?_eq_some_iff_getElem.mp found
    have kin : k ∈ xs := (q.mem k).mpr (List.mem_map.mpr ⟨_, List.getElem_mem hj, (tx_is (q.ok _ (List.getElem_mem hj)) k).mp pj⟩)
    refine wpAny_pure (wpAny_pure (fin _ z.heap (Heap.SameBut.refl a z.heap) ⟨o, es, ep, t, ⟨q.get, q.ex, q.dt, q.ok, q.nd, fun i => ?_, q.few, q.fit, q.ris, q.led⟩, Nat.le_succ _⟩))
    rw [List.mem_cons, ← q.mem i]
    exact ⟨fun y => y.elim (fun e => e ▸ kin) id, .inr⟩
  | none =>
    have notin : k ∉ es.toList.map txt := fun y => by
      obtain ⟨e, he, ek⟩ := List.mem_map.mp y
      have c := List.findIdx?_eq_none_iff.mp found e he
      rw [(tx_is (q.ok e he) k).mpr ek] at c
      cases c
    have gives : ∀ (b : Bool) {z1 : Shared} {Q' : Unit → Shared → Prop}, Q' () z1 → wpAny (model P w) A (match b with | true => rule "set.scan.the-table-gave-way" | false => pure ()) Q' E z1 := by
      intro b z1 Q' y
      cases b
      · exact wpAny_pure y
      · exact wpAny_rule y
    have p1 := layNew_perm t es ((strKind P w).hash k) (.str k tk)
    have f1 := layNew_fits t es ((strKind P w).hash k) (.str k tk)
    have r1 := layNew_ris t es ((strKind P w).hash k) (.str k tk) q.ris
    have l1 := layNew_led t es ((strKind P w).hash k) (.str k tk)
    dsimp only
    generalize layNew t es ((strKind P w).hash k) (.str k tk) = Z at p1 f1 r1 l1 ⊢
    obtain ⟨es1, t1, dm, gv⟩ := Z
    dsimp only at p1 f1 r1 l1 ⊢
    rw [Array.toList_push] at p1
    have pc : es1.toList.Perm (((strKind P w).hash k, Value.str k tk) :: es.toList) := p1.trans (List.perm_append_singleton _ _)
    have pk : (es1.toList.map txt).Perm (k :: es.toList.map txt) := pc.map txt
    have ok1 : ∀ e ∈ es1.toList, TxE P w e := fun e he => by
      rcases List.mem_cons.mp (pc.mem_iff.mp he) with y | y
      · subst y; exact ⟨k, tk, rfl, rfl⟩
      · exact q.ok e y
    have nd1 := pk.nodup_iff.mpr (List.nodup_cons.mpr ⟨notin, q.nd⟩)
    have mem1 : ∀ i, i ∈ k :: xs ↔ i ∈ es1.toList.map txt := fun i => by rw [pk.mem_iff, List.mem_cons, List.mem_cons, q.mem i]
    have n1 : es1.size = es.size + 1 := by simpa using pc.length_eq
    have few1 : es1.size < scanBound := by omega
    have led1 : w.params.followText "set-order" = true ∨ t1.led = true := q.led.imp id fun y => by rw [l1]; exact y
    have last : ∀ h', Heap.SameBut a z.heap h' → (∃ o1 es2 ep1 t2, SetQ P w h' a (k :: xs) o1 es2 ep1 t2 ∧ es2.size ≤ es.size + 1) → G true { z with heap := h' } := fun h' s y => fin true h' s y
    have size : ∀ h', SetX P w h' a (k :: xs) → ∃ o1 es2 ep1 t2, SetQ P w h' a (k :: xs) o1 es2 ep1 t2 ∧ es2.size ≤ es.size + 1 := fun h' ⟨o1, es2, ep1, t2, y⟩ => ⟨o1, es2, ep1, t2, y, by
      have pp : (es2.toList.map txt).Perm (es1.toList.map txt) := (List.perm_ext_iff_of_nodup y.nd nd1).mpr fun i => (y.mem i).symm.trans (mem1 i)
      have := pp.length_eq
      simp at this
      omega⟩
    refine wpAny_bind (gives _ ?_)
    split
    · refine wpAny_bind ?_
      rw [hashByValue_scannable 8 sc]
      refine wpAny_pure (putQ (fun b z1 Q' y => ?_) q.get q.ex q.dt ok1 nd1 mem1 few1 ?_ ?_ ?_ fun h' s y => ?_)
      · cases b <;> first | exact wpAny_pure y | exact wpAny_rule y
      · first | (split <;> first | exact f1 | exact SetTable.fits_plain_off f1) | exact f1
      · first | (split <;> exact r1) | exact r1
      · first | (split <;> exact led1) | exact led1
      · exact wpAny_pure (last h' s (size h' y))
    · refine wpAny_bind (wpAny_pure ?_)
      simp only [↓reduceIte]
      refine putQ (fun b z1 Q' y => ?_) q.get q.ex q.dt ok1 nd1 mem1 few1 f1 r1 led1 fun h' s y => ?_
      · cases b <;> first | exact wpAny_pure y | exact wpAny_rule y
      · exact wpAny_pure (last h' s (size h' y))
theorem loopQ {R : Result → Shared → Prop} {it : Addr} {fp wr : List Addr} {Gn : Array GenState → Array GenState → Prop} {n : Nat} {Pv : Nat → Value → Prop} {St : Nat → Shared → Prop}
    (W : WalksS P w A.in1 it fp wr Gn n Pv St) (off : a ∉ fp) (val : ∀ i v, Pv i v → ∃ k tk, xs[i]? = some k ∧ v = .str k tk) (room : n + 1 < scanBound) :
    ∀ (m i : Nat) (z : Shared), n - i = m → i ≤ n → St i z → (∃ o es ep t, SetQ P w z.heap a (xs.take i) o es ep t ∧ es.size ≤ i) →
      (∀ y, Moved (a :: wr) Gn z y → SetX P w y.heap a (xs.take n) → R (.ok (.ret .none)) y) → codeAny (model P w) A (.builtin "set.update.loop" ⟨[.ref a, .ref it], []⟩) R z := by
  have offw : a ∉ wr := fun m => off (W.sub _ m)
  have more : ∀ b ∈ wr, b ∈ a :: wr := fun b m => .tail _ m
  have stay : ∀ {z y : Shared} {ys : List Str} {m : Nat}, (∀ ob, z.heap.get? a = some ob → y.heap.get? a = some ob) → (∃ o es ep t, SetQ P w z.heap a ys o es ep t ∧ es.size ≤ m) → ∃ o es ep t, SetQ P w y.heap a ys o es ep t ∧ es.size ≤ m := fun k ⟨o, es, ep, t, q, l⟩ =>
    ⟨o, es, ep, t, ⟨k o q.get, q.ex, q.dt, q.ok, q.nd, q.mem, q.few, q.fit, q.ris, q.led⟩, l⟩
  intro m
  induction m with
  | zero =>
    intro i z hm hi st q fin
    obtain rfl : i = n := by omega
    refine codeAny_builtin PyProof.Rows.F.entry_set_update_loop ?_
    rw [Around.under_plainId PyProof.Rows.F.plain_set_update_loop _]
    refine wpAny_bind (W.done z _ _ st fun y mv => wpAny_pure (fin y (mv.mono more) ?_))
    obtain ⟨o, es, ep, t, q, _⟩ := stay (fun ob e => mv.heap a ob offw e) q
    exact ⟨o, es, ep, t, q⟩
  | succ m ih =>
    intro i z hm hi st q fin
    have lt : i < n := by omega
    refine codeAny_builtin PyProof.Rows.F.entry_set_update_loop ?_
    rw [Around.under_plainId PyProof.Rows.F.plain_set_update_loop _]
    refine wpAny_bind (W.item i z _ _ lt st fun v y hv st1 mv => ?_)
    obtain ⟨k, tk, ek, rfl⟩ := val i v hv
    obtain ⟨o, es, ep, t, q1, l1⟩ := stay (fun ob e => mv.heap a ob offw e) q
    show wpAny _ A.in1 (holding [Value.str k tk] (setAdd a (.str k tk)) >>= _) _ _ y
    refine wpAny_bind (wpAny_holding ?_)
    unfold setAdd
    refine wpAny_holding (wpAny_bind ((strKind P w).pyHash (k := k) (strKind_is P w k tk) ?_))
    refine addQ (z := { y with toks := y.toks + 1 }) q1 (by omega) fun b h' sb ⟨o2, es2, ep2, t2, q2, l2⟩ => ?_
    have q3 : SetQ P w h' a (xs.take (i + 1)) o2 es2 ep2 t2 := ⟨q2.get, q2.ex, q2.dt, q2.ok, q2.nd, fun j => by
      rw [← q2.mem j, List.take_add_one, ek]
      simp [or_comm], q2.few, q2.fit, q2.ris, q2.led⟩
    refine wpAny_pure ⟨plainId_quiet PyProof.Rows.F.plain_set_update_loop _, ih (i + 1) _ (by omega) lt (W.frame _ y _ _ st1 (Nat.le_succ _) fun c hc ob e => ?_) ⟨o2, es2, ep2, t2, q3, by omega⟩ fun y2 mv2 s2 => ?_⟩
    · rw [sb.2 c (fun e2 : c = a => off (e2 ▸ hc))]; exact e
    · refine fin y2 (Moved.trans W.gtrans ((mv.mono more).then_heap (Nat.le_succ _) fun c ob hc e => ?_) mv2) s2
      rw [sb.2 c (fun e2 : c = a => hc (e2 ▸ List.mem_cons_self))]; exact e
abbrev newSetO (w : World) : Obj := { cls := .type "set", dict := none, data := .set #[] 0 (.fresh 0 0 (!w.params.followText "set-order")) }
theorem freshQ {h : Heap} : ∃ o es ep t, SetQ P w (h.push (newSetO w)) h.objs.size [] o es ep t ∧ es.size ≤ 0 := by
  refine ⟨_, #[], 0, _, ⟨Heap.get?_push_size _ rfl, ⟨rfl, rfl, rfl⟩, rfl, fun e he => ?_, ?_, fun k => ?_, by decide, rfl, .nil, ?_⟩, Nat.le_refl _⟩
  · simp at he
  · simp
  · simp
  · show _ ∨ (!w.params.followText "set-order") = true
    cases w.params.followText "set-order"
    · exact .inr rfl
    · exact .inl rfl
theorem newSet1 (x : Value) {G : Value → Shared → Prop} (fin : G (.ref z.heap.objs.size) { z with heap := z.heap.push (newSetO w) }) :
    codeAny (model P w) A (.call (.builtin "set.__new__") ⟨[.type "set", x], []⟩) (wants G E) z := by
  refine codeAny_of_tree ?_
  show wpAny _ A.in1 (do checkBuiltinCall "set.__new__" ⟨[.type "set", x], []⟩; again (.builtin "set.__new__" ⟨[.type "set", x], []⟩)) _ _ z
  refine wpAny_bind (wpAny_of_eq (PySem.F.newCall_set_1 x) (wpAny_pure ⟨plainId_quiet PySem.F.plain_set_new _, codeAny_builtin PySem.F.entry_set_new ?_⟩))
  rw [Around.under_plainId PySem.F.plain_set_new _]
  unfold Builtin.«set.__new__» Builtin.Frozenset.newClass
  have self := sub_set_self
  obtain ⟨hp, g, d, tk, os⟩ := z
  dsimp only
  wp_walk
  refine wpAny_askSetting (wpAny_pure ?_)
  simp only [newObj]
  exact wpAny_bind (wpAny_alloc (wpAny_pure (wpAny_pure fin)))
set_option maxHeartbeats 8000000 in
/-- set(l) -/
theorem setOfList {l : Addr} {items : Array Value} {G : Value → Shared → Prop} (calm : A.handled = none) (hl : z.heap.IsList l items) (hi : StrsAre items.toList xs) (room : items.size + 1 < scanBound)
    (fin : ∀ (h' : Heap) (tk : Nat), SetX P w h' z.heap.objs.size xs → (∀ b ob, b < z.heap.objs.size → z.heap.get? b = some ob → h'.get? b = some ob) → G (.ref z.heap.objs.size) { z with heap := h', toks := tk }) :
    wpAny (model P w) A (call (.type "set") [.ref l]) G E z := by
  obtain ⟨c, tl, hmro⟩ := PySem.F.called_set.mro
  have made := PySem.F.called_set.made
  have sub := PySem.F.called_set.sub
  refine wpAny_call (codeAny_of_tree ?_)
  show wpAny _ _ (callAny (.type "set") _) _ _ _
  refine wpAny_pure ⟨Code.quiet_builtin _ (by decide +kernel), codeAny_builtin PySem.F.entry_type_call ?_⟩
  rw [Around.under_plain (weight_type_call_type "set" [.ref l] []) rfl]
  have c1 := PySem.F.called_set.notType
  have c2 := PySem.F.called_set.canCreate
  have c3 := PySem.F.typeCall_set_1 (.ref l)
  repeat (any_goals (first | assumption | wp_step))
  refine codeAny_mono (newSet1 (.ref l) (E := E) (G := fun ob z1 => ob = .ref z.heap.objs.size ∧ z1 = { z with heap := z.heap.push (newSetO w) }) ⟨rfl, rfl⟩) fun r z1 done => ?_
  cases r with
  | error e => exact done
  | ok fl =>
    cases fl with
    | ret ob =>
      obtain ⟨rfl, rfl⟩ := done
      have at0 : (z.heap.push (newSetO w)).get? z.heap.objs.size = some (newSetO w) := Heap.get?_push_size _ rfl
      have ty : Shared.TypeIs { z with heap := z.heap.push (newSetO w) } (.ref z.heap.objs.size) "set" := ⟨_, at0, rfl⟩
      have i1 := PySem.F.called_set.init.lookup
      have i2 := PySem.F.called_set.init.bind (.ref z.heap.objs.size)
      repeat (any_goals (first | assumption | wp_step))
      refine codeAny_mono (codeAny_call_builtin (R := wants (fun r z2 => r = .none ∧ ∃ h' tk, z2 = { z with heap := h', toks := tk } ∧ SetX P w h' z.heap.objs.size xs ∧ (∀ b ob, b < z.heap.objs.size → z.heap.get? b = some ob → h'.get? b = some ob)) E) PySem.F.called_set.init.plain PySem.F.entry_set_init (check_set_init_1 ty ?_)) fun r2 z2 done2 => ?_
      · obtain ⟨ol, hol, hcl, nl, hdl⟩ := hl
        obtain ⟨k0, d0, dt0, sl0⟩ := ol
        simp only at hcl hdl
        subst hcl; subst hdl
        have hol' : (z.heap.push (newSetO w)).get? l = some { cls := .type "list", dict := d0, data := .seq items nl, slots := sl0 } := Heap.get?_push_of_some _ hol
        have n1 := PySem.F.sub_list_set
        have n2 := PySem.F.sub_list_frozenset
        have n3 : (Value.type "list" == Value.type "dict") = false := by decide
        have hl1 : (z.heap.push (newSetO w)).IsList l items := ⟨_, hol', rfl, nl, rfl⟩
        unfold Builtin.«set.__init__» noKeywords Builtin.Frozenset.updateFrom
        generalize hPI : pyIter = PI
        wp_walk
        subst hPI
        refine wpAny_pyIter_list hl1 (wpAny_bind (wpAny_runValue ?_))
        have ll : l < z.heap.objs.size := Heap.lt_size hol
        have calm3 : A.in1.in1.in1.handled = none := by simp [calm]
        have sz1 : (z.heap.push (newSetO w)).objs.size = z.heap.objs.size + 1 := Heap.size_push ..
        have neI : l ≠ (z.heap.push (newSetO w)).objs.size := by rw [sz1]; exact Nat.ne_of_lt (Nat.lt_succ_of_lt ll)
        have off : z.heap.objs.size ∉ [(z.heap.push (newSetO w)).objs.size, l] := by
          rw [sz1]
          intro m
          rcases List.mem_cons.mp m with e | m
          · exact Nat.ne_of_lt (Nat.lt_succ_self _) e
          · exact Nat.ne_of_gt ll (List.mem_singleton.mp m)
        have len : xs.length = items.size := by rw [← StrsAre.len_eq hi, Array.length_toList]
        have val : ∀ (i : Nat) (v : Value), items[i]? = some v → ∃ k tk, xs[i]? = some k ∧ v = .str k tk := fun i v hv => by
          have il : i < xs.length := by
            rw [len]
            exact (Array.getElem?_eq_some_iff.mp hv).1
          obtain ⟨tk, e⟩ := SS.strs_at hi i v (by rw [Array.getElem?_toList]; exact hv)
          exact ⟨xs[i], tk, List.getElem?_eq_getElem il, by rw [e, List.getD_eq_getElem?_getD, List.getElem?_eq_getElem il]; rfl⟩
        refine loopQ (xs := xs) ((Walks.list calm3 _ l neI items).toS) off val room (items.size - 0) 0 _ (by omega) (Nat.zero_le _) ⟨⟨_, Heap.get?_push_size _ rfl, rfl, rfl⟩, (hl1.push _)⟩ ?_ ?_
        · obtain ⟨o, es, ep, t, q, l0⟩ := freshQ (P := P) (w := w) (h := z.heap)
          refine ⟨o, es, ep, t, ⟨Heap.get?_push_of_some _ q.get, q.ex, q.dt, q.ok, q.nd, ?_, q.few, q.fit, q.ris, q.led⟩, l0⟩
          rw [List.take_zero]; exact q.mem
        · intro y mv q
          obtain ⟨h', g', d', tk', os'⟩ := y
          have eg : g' = z.gens := mv.gens
          have ed : d' = z.drawn := mv.drawn
          have eo : os' = z.os := mv.os
          subst eg; subst ed; subst eo
          refine wpAny_pure (wpAny_pure ⟨rfl, h', tk', rfl, ?_, fun b ob hb e => ?_⟩)
          · rw [← len, List.take_length] at q; exact q
          · refine mv.heap b ob (fun m => ?_) (Heap.get?_push_of_some _ (Heap.get?_push_of_some _ e))
            rcases List.mem_cons.mp m with e2 | m
            · exact Nat.ne_of_lt hb e2
            · have e2 := List.mem_singleton.mp m
              rw [sz1] at e2
              exact Nat.ne_of_lt (Nat.lt_succ_of_lt hb) e2
      · cases r2 with
        | error e => exact done2
        | ok fl2 =>
          cases fl2 with
          | ret r =>
            obtain ⟨rfl, h', tk, rfl, q1, q2⟩ := done2
            repeat (any_goals (first | assumption | wp_step))
            exact fin _ _ q1 q2
          | _ => exact done2.elim
    | _ => exact done.elim
end
end Vs
namespace Vs
open PySem PySem.Spec PyProof.Rows L2
def tSoSet (K : PySem.W.Frag) (ta : TE) : TE := fun σ H Q => ta σ H fun x H1 => ∃ (l : Addr) (xs : List Str), x = .ref l ∧ SqL K H1 l (xs.map V.str) ∧ xs.length ≤ 4000 ∧ (∀ ds : List Str, ds.Nodup → (∀ k ∈ ds, k ∈ xs) → ds.length < 64) ∧
  ∀ (ys : List Str) (p : Addr), ys.Nodup → (∀ k, k ∈ ys ↔ k ∈ xs) → sortedS ys = true → H1 p = none → Q (.ref p) (upd H1 p (.lst (ys.map V.str)))
section
variable {X : Cx}
theorem pe_soSet {a : Expr} {ta : TE} {p p2 q pos : Pos} (calm : X.calm = true) (hg : Gl X "sorted") (hm : X.mg "sorted" = none) (hg2 : Gl X "set") (hm2 : X.mg "set" = none) (ha : PE X a ta)
    (na : starEach [a] X.env = (false, eval a X.env) :: starEach [] X.env := by rfl) : PE X (.Call (.Name "sorted" p) [.Call (.Name "set" p2) [a] [] q] [] pos) (tSoSet X.K ta) := by
  constructor
  intro pins z σ H Q I pre
  refine wpAny_Call_Name_kw (ld_blt (u := .builtin "sorted") I hg hm (by decide +kernel) ?_)
  refine PyProof.Rows.callWith_builtin1 (PyProof.Rows.args_cons ?_ rfl) rfl rfl
  refine wpAny_Call_Name_kw (ld_blt I hg2 hm2 boot_set ?_)
  refine PyProof.Rows.callWith_type1 (PyProof.Rows.args_cons (thn (ha.run pins z σ H _ I pre) fun v z1 ⟨x, H1, I1, r1, l, xs, ex, sq, few, f64, post⟩ => PyProof.Rows.args_nil ?_) na) na rfl
  subst ex
  cases r1
  obtain ⟨its, rv, pl, hz⟩ := I1.list sq
  have sa : StrsAre its.toArray.toList xs := by simpa using strsAre_of rv
  have n0 : its.toArray.size = xs.length := by rw [← Array.length_toList, StrsAre.len_eq sa]
  refine setOfList (xs := xs) (I1.ok.hd calm) pl.isList sa (by rw [n0]; unfold scanBound; omega) fun h' tk sx keep => ?_
  have I2 : Inv X pins σ H1 { z1 with heap := h', toks := tk } := I1.kept fun b o e => keep b o (Heap.lt_size e) e
  refine PyProof.Rows.args_nil ?_
  obtain ⟨o, es, ep, t, sq⟩ := sx
  refine Calls.call_function_entry kind_sorted plain_sorted entry_sorted (args_sorted1 _) ?_
  unfold Builtin.«sorted»
  refine wpAny_bind (m := checkCount "sorted" 1 1 _) (wpAny_pure ?_)
  refine wpAny_bind (collect_set (s := { z1 with heap := h', toks := tk }) (A := X.A.in1) (I2.ok.hd calm) ⟨o, sq.get, sq.ex.1, sq.dt⟩ sq.fit sq.few sq.ris sq.led fun y vs k1 hz1 g1 o1 pm => ?_)
  have J : Inv X pins σ H1 y := by
    obtain ⟨yh, yg, yd, yt, yo⟩ := y
    cases o1
    exact I2.call (s := { z1 with heap := h', toks := tk }) (ch := []) (Un.kept fun b o e => k1 b o e) (I2.hok.kept fun b o e => k1 b o e) (by rw [show yg = _ from g1]; exact I2.bare) (fun _ m => nomatch m)
  obtain ⟨yh, yg, yd, yt, yo⟩ := y
  have txs : ∀ {l : List Value}, (∀ v ∈ l, ∃ k tk, v = Value.str k tk) → StrsAre l (l.map fun v => txt (0, v)) := by
    intro l
    induction l with
    | nil => intro _; exact .nil
    | cons e l ih =>
      intro g
      obtain ⟨k, tk, rfl⟩ := g e List.mem_cons_self
      exact .cons _ _ (ih fun e h => g e (.tail _ h))
  have hS := txs (l := vs) fun v hv => by
    obtain ⟨e, he, rfl⟩ := List.mem_map.mp (pm.mem_iff.mp hv)
    obtain ⟨k, tk, q1, _⟩ := sq.ok e he
    exact ⟨k, tk, q1⟩
  have pk : (vs.map fun v => txt (0, v)).Perm (es.toList.map txt) := by
    have := pm.map fun v => txt (0, v)
    rw [List.map_map] at this
    exact this
  generalize eks : vs.map (fun v => txt (0, v)) = ks at hS pk
  have nd : ks.Nodup := pk.nodup_iff.mpr sq.nd
  have mem : ∀ k, k ∈ ks ↔ k ∈ xs := fun k => (pk.mem_iff).trans (sq.mem k).symm
  have al : vs.length = ks.length := by rw [← eks, List.length_map]
  have l64 := f64 ks nd fun k h => (mem k).mp h
  refine wpAny_bind (wpAny_newList ?_ (by rw [al, sizeLine_eq]; omega))
  have at0 : (yh.push (seqObj "list" vs.toArray 0)).get? yh.objs.size = some (seqObj "list" vs.toArray 0) := Heap.get?_push_size _ rfl
  show wpAny _ _ _ _ _ { heap := yh.push (seqObj "list" vs.toArray 0), gens := yg, drawn := yd, toks := yt, os := yo }
  refine wpAny_bind (wpAny_holding (wpAny_call_entry slot_list_sort ⟨_, at0, rfl⟩ entry_list_sort
    (list_sort_treeK strKind_oneLt (s := { heap := yh.push (seqObj "list" vs.toArray 0), gens := yg, drawn := yd, toks := yt, os := yo }) at0 hS.keysOf (fun u1 u2 more e => keyKind_strs (by rw [← e]; exact hS)) (by rw [al]; exact l64) fun st2 hp hs => ⟨_, rfl, ?_⟩) (args_list_sort _)))
  obtain ⟨ys, g1, g2, g3⟩ := sorted_out_str hS hp hs
  obtain ⟨e2, at1⟩ := sortedHeap_at (vs := vs) (out := (arrOf st2).map (·.2)) at0
  have fit : (ys.map V.str).length ≤ sizeLine := by
    rw [List.length_map, g2.length_eq]
    exact Nat.le_trans (Nat.le_of_lt l64) (by decide)
  refine wpAny_pure ⟨_, rfl, .ref yh.objs.size, upd H1 yh.objs.size (.lst (ys.map V.str)), J.laid (t' := yt) (fun b u e => ?_) (Nat.le_refl _)
    (show ObjOk X.prog X.w _ _ _ (.lst (ys.map V.str)) from ⟨fit, ((arrOf st2).map (·.2)).toList, e2, vals_of_strs g1, by rw [Array.toArray_toList]; exact at1⟩), rfl, post ys _ (g2.nodup_iff.mpr nd) (fun k => (g2.mem_iff).trans (mem k)) g3 (J.hok.fresh (Nat.le_refl _))⟩
  have lt : b < yh.objs.size := Heap.lt_size e
  rw [sortedHeap_old (Nat.ne_of_lt lt) (by rw [size_push']; exact Nat.lt_succ_of_lt lt)]
  exact Heap.get?_push_of_some _ e
end
end Vs
namespace Vs
open PySem L2 PyProof.Rows
/-! ## differ -/
theorem scal_opt (a b : Option Int) : scal (optV a) (optV b) = true := by cases a <;> cases b <;> rfl
theorem optV_ne (a b : Option Int) : (!decide (optV a = optV b)) = !decide (a = b) := by
  cases a <;> cases b
  · rfl
  · rfl
  · rfl
  · rename_i i j
    by_cases e : i = j
    · subst e; simp
    · rw [show decide (optV (some i) = optV (some j)) = false from decide_eq_false (fun z => e (V.int.inj z)), decide_eq_false (fun z => e (Option.some.inj z))]
section
variable {P : Program} {w : World} {K : PySem.W.Frag} {mg : Str → Option Value} {base : Heap} {T : Cs} {U : Es} {Pt : Addr}
def spDiffer (T : Cs) : Sp := fun vs H Q _ => ∃ (Ks : List Str) (p : Addr) (S : Sh) (F : Addr → Prop) (n m : Int) (h1 h2 : Hn), vs = [.ref p, .int n, .int m] ∧ LyAt T H p S F ∧ WF Ks S ∧ n.natAbs < 10 ^ 20 ∧ m.natAbs < 10 ^ 20 ∧ aget S.hns n = some h1 ∧ aget S.hns m = some h2 ∧
  ∀ (H' : Hp) (q : Addr) (ks : List Str), Sm H H' → H q = none → H' q = some (.lst (ks.map V.str)) → ks.Pairwise (fun a b => leS a b = true) → ks.Nodup → (∀ k ∈ ks, k ∈ Ks) → (∀ k, k ∈ ks ↔ lookM S h1 k ≠ lookM S h2 k) → Q (.ref q) H'
abbrev nDiff : List Str := ["self", "one", "other", "ones", "others", "left", "right", "both", "key"]
theorem sc_diff : FnScope nDiff ["self", "one", "other"] (defScope s_Shelf_differ) := ⟨rfl, rfl, rfl, by decide +kernel, rfl, by decide +kernel, by decide +kernel⟩
theorem ok_differ {f : Addr} {fd : FuncData} (F : Fun K "differ" "Shelf.differ" s_Shelf_differ f fd) (B : Bt mg) (C : Cf K T) (c1 : Mx P w K mg base (L2N.CX P w) T.S "hand_there" 1 ["self", "hand"] (spHandThere T U)) (c2 : Fx P w K mg base CX0 "all_seen_by_hand" 2 ["branches", "hand"] (spAllSeen T)) :
    FnOk P w K mg base (L2N.CX P w) 3 f fd ["self", "one", "other"] (spDiffer T) := by
  obtain ⟨f1, fd1, m1, b1, G1⟩ := c1
  obtain ⟨f2, fd2, g2, k2, b2, G2⟩ := c2
  refine F.okX' sc_diff (fun vs H Q E h => ?_) (fun cdv A outer s H vs Q E hr h => ?_)
  · obtain ⟨Ks, p, S, F, n, m, h1, h2, rfl, _⟩ := h
    rfl
  · obtain ⟨Ks, p, S, F, n, m, h1, h2, rfl, ⟨α, δ, J, G, rfl, rfl, L, Z⟩, W, hn, hm, hh1, hh2, kq⟩ := h
    have hu := hu_of hr
    refine ⟨_, pss_cons (ps_set (i := 3) sc_diff.nd rfl (.inl rfl) (pe_meth (pv 0) C.S m1 G1 (hr.mono (by decide)) b1 .nil (L2N.passes_call (L2N.takes_of rfl rfl rfl rfl) (fun _ _ _ _ h => h)) (pa_cons (pv 1) pa_nil)))
      (pss_cons (ps_set (i := 4) sc_diff.nd rfl (.inl rfl) (pe_meth (pv 0) C.S m1 G1 (hr.mono (by decide)) b1 .nil (L2N.passes_call (L2N.takes_of rfl rfl rfl rfl) (fun _ _ _ _ h => h)) (pa_cons (pv 2) pa_nil)))
      (pss_cons (ps_set (i := 5) sc_diff.nd rfl (.inr rfl) (pe_call G2 hr rfl g2 k2 b2 .nil pass0 (pa_cons (pe_fld (pv 0) rfl) (pa_cons (pv 3) pa_nil))))
      (pss_cons (ps_set (i := 6) sc_diff.nd rfl (.inr rfl) (pe_call G2 hr rfl g2 k2 b2 .nil pass0 (pa_cons (pe_fld (pv 0) rfl) (pa_cons (pv 4) pa_nil))))
      (pss_cons (ps_set (i := 7) sc_diff.nd rfl (.inl rfl) (pe_soSet rfl (by rfl) B.sorted (by rfl) B.set (pe_op op_cat (pe_callTy (call_list_dK rfl) (by rfl) B.list (by decide +kernel) (pa_cons (pv 5) pa_nil)) (pe_callTy (call_list_dK rfl) (by rfl) B.list (by decide +kernel) (pa_cons (pv 6) pa_nil)))))
      (pss_one (ps_ret (pe_lc (own := [("key", 8)]) (g := gName 8) (tt := tTest (tOp rNe (tDGet1 (tVar 5) (tVar 8)) (tDGet1 (tVar 6) (tVar 8)))) (te := tVar 8) (by rfl) sc_diff.nd (pi_list (pv 7))
        (blkOk_by (own := [("key", 8)]) (N := nDiff) (sc := defScope s_Shelf_differ) (by decide +kernel)) (fun _ _ _ _ _ => pg_name (i := 8) sc_diff.nd rfl (.inl rfl))
        (fun _ _ _ _ _ => by exact pts_one (pt_cmpR op_ne (pe_dget1 hu (pv 5) (pv 8) ⟨rfl, rfl, rfl, rfl⟩) (pe_dget1 hu (pv 6) (pv 8) ⟨rfl, rfl, rfl, rfl⟩) (nomark _)))
        (fun _ _ _ _ _ => by exact (pv 8))))))))), ?_⟩
    refine ⟨_, rfl, _, _, _, rfl, L.sh, fSh_no, _, rfl, S, α, δ, J, G, n, rfl, L, hn, fun h hh => ?_, fun z => by rw [hh1] at z; cases z⟩
    refine ⟨_, rfl, _, _, _, rfl, L.sh, fSh_no, _, rfl, S, α, δ, J, G, m, rfl, L, hm, fun h' hh' => ?_, fun z => by rw [hh2] at z; cases z⟩
    refine ⟨_, rfl, _, _, _, _, _, rfl, L.sh, C.S, C.sBrs, rfl, _, rfl, Ks, S, α, δ, J, G, n, h1, rfl, L, Z, W, hh1, fun H1 D1 g1 s1 nD1 hD1 nd1 in1 v1 => ?_⟩
    have L1 := L.sm s1
    refine ⟨_, rfl, _, _, _, _, _, rfl, L1.sh, C.S, C.sBrs, rfl, _, rfl, Ks, S, α, δ, J, G, m, h2, rfl, L1, Z, W, hh2, fun H2 D2 g2 s2 nD2 hD2 nd2 in2 v2 => ?_⟩
    have hD12 := s2.dK hD1
    have len1 : g1.length ≤ 60 := by
      have := len_le_pool nd1 in1
      rw [List.length_map] at this
      exact Nat.le_trans this W.pool
    have len2 : g2.length ≤ 60 := by
      have := len_le_pool nd2 in2
      rw [List.length_map] at this
      exact Nat.le_trans this W.pool
    have ek : ∀ g : List (Str × Int), (encI g).map (fun kv => kV kv.1) = (g.map (·.1)).map V.str := fun g => by
      unfold encI enc; rw [List.map_map, List.map_map]; rfl
    refine ⟨_, rfl, D1, _, rfl, hD12, fun q1 hq1 => ?_⟩
    rw [ek]
    have s3 : Sm H2 (upd H2 q1 (.lst ((g1.map (·.1)).map V.str))) := Sm.new hq1
    have e3 : upd H2 q1 (.lst ((g1.map (·.1)).map V.str)) q1 = some (.lst ((g1.map (·.1)).map V.str)) := upd_same
    generalize upd H2 q1 (.lst ((g1.map (·.1)).map V.str)) = H3 at s3 e3
    refine ⟨_, rfl, D2, _, rfl, s3.dK hD2, fun q2 hq2 => ?_⟩
    rw [ek]
    have s4 : Sm H3 (upd H3 q2 (.lst ((g2.map (·.1)).map V.str))) := Sm.new hq2
    have e4 : upd H3 q2 (.lst ((g2.map (·.1)).map V.str)) q2 = some (.lst ((g2.map (·.1)).map V.str)) := upd_same
    generalize upd H3 q2 (.lst ((g2.map (·.1)).map V.str)) = H4 at s4 e4
    refine ⟨q1, q2, _, _, rfl, rfl, s4.lst e3, e4, by rw [List.length_map, List.length_map, List.length_map, List.length_map]; exact le2000 (by omega), fun l hl => ?_⟩
    rw [← List.map_append]
    have s5 : Sm H4 (upd H4 l (.lst ((g1.map (·.1) ++ g2.map (·.1)).map V.str))) := Sm.new hl
    have e5 : upd H4 l (.lst ((g1.map (·.1) ++ g2.map (·.1)).map V.str)) l = some (.lst ((g1.map (·.1) ++ g2.map (·.1)).map V.str)) := upd_same
    generalize upd H4 l (.lst ((g1.map (·.1) ++ g2.map (·.1)).map V.str)) = H5 at s5 e5
    have inB : ∀ k ∈ g1.map (·.1) ++ g2.map (·.1), k ∈ Ks := fun k hk => (List.mem_append.mp hk).elim (in1 k) (in2 k)
    refine ⟨l, g1.map (·.1) ++ g2.map (·.1), rfl, SqL.of e5, by rw [List.length_append, List.length_map, List.length_map]; omega, fun ds nd sub => ?_, fun ys b ndy mem srt hb => ?_⟩
    · have := len_le_pool nd fun k hk => inB k (sub k hk)
      have := W.pool
      omega
    · have pwy : ys.Pairwise fun a b => leS a b = true := sortedS_pw srt
      have s6 : Sm H5 (upd H5 b (.lst (ys.map V.str))) := Sm.new hb
      have e6 : upd H5 b (.lst (ys.map V.str)) b = some (.lst (ys.map V.str)) := upd_same
      generalize upd H5 b (.lst (ys.map V.str)) = H6 at s6 e6
      have s26 := s3.trans (s4.trans (s5.trans s6))
      have s06 := s1.trans (s2.trans s26)
      have hD16 := s26.dK hD12
      have hD26 := s26.dK hD2
      have leny : ys.length ≤ 60 := by
        have := len_le_pool ndy fun k hk => inB k ((mem k).mp hk)
        exact Nat.le_trans this W.pool
      refine ⟨_, rfl, b, rfl, ⟨_, SqL.of e6⟩, fun D hD => ?_⟩
      have nbD : b ≠ D := ne_of_none e6 hD
      refine lc_list (K := K) (a := b) (xs := ys.map V.str) (fun j H7 => Sm H6 H7 ∧ H7 D = some (.lst (((ys.take j).filter fun k => !decide (lookM S h1 k = lookM S h2 k)).map V.str)))
        ⟨Sm.new hD, upd_same⟩ (fun j H7 _ ⟨h, _⟩ => SqL.of (h.lst e6)) ?_ ?_
      · rintro j x H7 hx ⟨s7, h7⟩
        obtain ⟨k, hk, rfl⟩ : ∃ k, ys[j]? = some k ∧ V.str k = x := by
          rw [List.getElem?_map] at hx
          cases e : ys[j]? with
          | none => rw [e] at hx; cases hx
          | some k => rw [e] at hx; exact ⟨k, rfl, Option.some.inj hx⟩
        have hjl : j < ys.length := (List.getElem?_eq_some_iff.mp hk).1
        have hd1 := s7.dK hD16
        have hd2 := s7.dK hD26
        have dg : ∀ {D : Addr} {g : List (Str × Int)}, H7 D = some (.dK (encI g)) → DGet H7 D (.str k) ((aget g k).map V.int) := fun {D g} hd => by
          rw [← valV_enc inr_inj g k (g := fun _ v => V.int v)]; exact DGet.k (k := Sum.inr k) hd
        have ev : ∀ o : Option Int, (o.map V.int).getD .non = optV o := fun o => by cases o <;> rfl
        refine ⟨rfl, _, rfl, D1, rfl, .inl ⟨_, .inl hd1⟩, _, rfl, _, dg hd1, _, rfl, D2, rfl, .inl ⟨_, .inl hd2⟩, _, rfl, _, dg hd2, ?_⟩
        rw [ev, ev, v1 k, v2 k]
        refine ⟨scal_opt _ _, _, rfl, ?_⟩
        rw [optV_ne, take_snoc hk, List.filter_append]
        have lenF : (((ys.take j).filter fun k => !decide (lookM S h1 k = lookM S h2 k)).map V.str).length < sizeLine := by
          refine le1000000 ?_
          rw [List.length_map]
          refine Nat.le_trans (List.length_filter_le _ _) ?_
          rw [List.length_take]; omega
        by_cases e : lookM S h1 k = lookM S h2 k
        · refine ifF (by rw [decide_eq_true e]; rfl) ⟨s7, ?_⟩
          rw [List.filter_cons, if_neg (by rw [decide_eq_true e]; decide), List.filter_nil, List.append_nil]
          exact h7
        · refine ifT (by rw [decide_eq_false e]; rfl) ⟨_, rfl, _, h7, lenF, (Sm.refl H6).own hD s7 h7 (ntL _) _, ?_⟩
          rw [List.filter_cons, if_pos (by rw [decide_eq_false e]; decide), List.filter_nil, List.map_append, upd_same]; rfl
      · rintro H7 ⟨s7, h7⟩
        rw [List.length_map, List.take_length] at h7
        refine kq H7 D _ (s06.trans s7) (s06.free hD) h7 (pwy.sublist List.filter_sublist) (ndy.sublist List.filter_sublist) (fun k hk => inB k ((mem k).mp (List.mem_filter.mp hk).1)) fun k => ?_
        rw [List.mem_filter]
        constructor
        · rintro ⟨_, e⟩ z
          rw [decide_eq_true z] at e; cases e
        · intro ne
          refine ⟨(mem k).mpr ?_, by rw [decide_eq_false ne]; rfl⟩
          rw [List.mem_append]
          cases e1 : lookM S h1 k with
          | some x => exact .inl (aget_key (by rw [v1 k]; exact e1))
          | none =>
            cases e2 : lookM S h2 k with
            | some x => exact .inr (aget_key (by rw [v2 k]; exact e2))
            | none => rw [e1, e2] at ne; exact absurd rfl ne
end
end Vs
namespace Vs
open PySem L2 PyProof.Rows
/-! ## The law's own defs -/
structure Bt2 (mg : Str → Option Value) : Prop where
  tuple : mg "tuple" = none
  str : mg "str" = none
  bool : mg "bool" = none
/-- the row of numbers that a law draws from -/
def RowAt (H : Hp) (a sc : Addr) : Prop := ∃ (i seed big : Int), H a = some (.lst [.ref sc, .int i, .int seed, .int big]) ∧ 0 ≤ i ∧ 0 ≤ seed ∧ seed < 2147483647 ∧ 0 ≤ big
/-- the script: beside the row, or of the program's own -/
def ScR (K : PySem.W.Frag) (H : Hp) (a sc : Addr) (xs : List V) : Prop := (a ≠ sc ∧ (H sc = some (.lst xs) ∨ ∃ o, H sc = some (.frz o (.lst xs)))) ∨ ∀ H', SqL K H' sc xs
theorem ScR.sq {K : PySem.W.Frag} {H : Hp} {a sc : Addr} {xs : List V} (h : ScR K H a sc xs) : SqL K H sc xs := by
  rcases h with ⟨_, h⟩ | h
  · exact .inl h
  · exact h H
theorem ScR.put {K : PySem.W.Frag} {H : Hp} {a sc : Addr} {xs : List V} (h : ScR K H a sc xs) (o : HO) : ScR K (upd H a o) a sc xs := by
  rcases h with ⟨n, h⟩ | h
  · rcases h with h | ⟨x, h⟩
    · exact .inl ⟨n, .inl (by rw [upd_ne (Ne.symm n)]; exact h)⟩
    · exact .inl ⟨n, .inr ⟨x, by rw [upd_ne (Ne.symm n)]; exact h⟩⟩
  · exact .inr h
theorem sql_upd {K : PySem.W.Frag} {H : Hp} {a sc : Addr} {xs : List V} {o : HO} (n : a ≠ sc) (h : SqL K H sc xs) : SqL K (upd H a o) sc xs := by
  rcases h with (h | ⟨x, h⟩) | h
  · exact .inl (.inl (by rw [upd_ne (Ne.symm n)]; exact h))
  · exact .inl (.inr ⟨x, by rw [upd_ne (Ne.symm n)]; exact h⟩)
  · exact .inr h
section
variable {P : Program} {w : World} {K : PySem.W.Frag} {mg : Str → Option Value} {base : Heap} {T : Cs} {U : Es} {Pt : Addr}
def spTaken (K : PySem.W.Frag) : Sp := fun vs H Q _ => ∃ (a : Addr) (many : Int) (sc : Addr) (ns : List Int), vs = [.ref a, .int many] ∧ RowAt H a sc ∧ ScR K H a sc (ns.map V.int) ∧ 0 < many ∧ many ≤ 1000000000 ∧ ∀ r xs, 0 ≤ r → r < many → RowAt (upd H a (.lst xs)) a sc → Q (.int r) (upd H a (.lst xs))
abbrev nTaken : List Str := ["_law_row", "_law_many", "_law_found", "_law_cell"]
theorem sc_taken : FnScope nTaken ["_law_row", "_law_many"] (defScope s__law_taken) := ⟨rfl, rfl, rfl, by decide +kernel, rfl, by decide +kernel, by decide +kernel⟩
theorem ok_taken {f : Addr} {fd : FuncData} (F : Fun K "_law_taken" "_law_taken" s__law_taken f fd) (B : Bt mg) : FnOk P w K mg base CX0 1 f fd ["_law_row", "_law_many"] (spTaken K) := by
  refine F.ok sc_taken (fun vs H Q E h => ?_) (fun cdv A outer s H vs Q E hr h => ?_)
  · obtain ⟨a, many, sc, ns, rfl, _⟩ := h
    rfl
  · obtain ⟨a, many, sc, ns, rfl, ⟨i, seed, big, ha, h0i, h0s, hss, h0b⟩, hS0, hm0, hm1, kq⟩ := h
    refine ⟨_, pss_cons (ps_if (pt_cmpR op_gt (pe_ix ix_list (pv 0) pe_int (fun _ _ => rfl)) pe_int (nomark _))
        (pss_cons (ps_set (i := 2) sc_taken.nd rfl (.inl rfl) (pe_op op_mod (pe_ix ix_list (pv 0) pe_int (fun _ _ => rfl)) (pv 1)))
        (pss_cons (ps_asg (pe_op op_fdivW (pe_ix ix_list (pv 0) pe_int (fun _ _ => rfl)) (pv 1)) (pg_sub (pv 0) pe_int set_list))
        (pss_one (ps_ret (pv 2))))) pss_nil)
      (pss_cons (ps_asg (pe_op op_add (pe_ix ix_list (pv 0) pe_int (fun _ _ => rfl)) pe_int) (pg_sub (pv 0) pe_int set_list))
      (pss_cons (ps_if (pt_cmpR op_gt (pe_ix ix_list (pv 0) pe_int (fun _ _ => rfl)) (pe_callB call_len_seq (by rfl) B.len PySem.boot_len (pa_cons (pe_ix ix_list (pv 0) pe_int (fun _ _ => rfl)) pa_nil)) (nomark _))
        (pss_cons (ps_asg (pe_op op_mod (pe_op op_add (pe_op op_mul (pe_ix ix_list (pv 0) pe_int (fun _ _ => rfl)) pe_int) pe_int) pe_int) (pg_sub (pv 0) pe_int set_list))
        (pss_one (ps_ret (pe_op op_mod (pe_op op_fdiv (pe_ix ix_list (pv 0) pe_int (fun _ _ => rfl)) pe_int) (pv 1))))) pss_nil)
      (pss_cons (ps_set (i := 3) sc_taken.nd rfl (.inl rfl) (pe_ix ix_list (pe_ix ix_list (pv 0) pe_int (fun _ _ => rfl)) (pe_op op_sub (pe_ix ix_list (pv 0) pe_int (fun _ _ => rfl)) pe_int) (fun _ _ => rfl)))
      (pss_cons (ps_asg (pe_op op_mod (pe_op op_add (pe_op op_add (pe_op op_mul (pe_ix ix_list (pv 0) pe_int (fun _ _ => rfl)) pe_int) (pv 3)) pe_int) pe_int) (pg_sub (pv 0) pe_int set_list))
      (pss_cons (ps_if (pt_cmpR op_ge (pv 3) (pe_op op_pow pe_int pe_int) (nomark _))
        (pss_one (ps_asg (pe_op op_fdivW (pv 3) (pv 1)) (pg_sub (pv 0) pe_int set_list))) pss_nil)
      (pss_one (ps_ret (pe_op op_mod (pv 3) (pv 1))))))))), ?_⟩
    have mod0 : ∀ x : Int, 0 ≤ x % many := fun x => Int.emod_nonneg x (by omega)
    have mod1 : ∀ x : Int, x % many < many := fun x => Int.emod_lt_of_pos x hm0
    have sd0 : ∀ x : Int, 0 ≤ x % 2147483647 := fun x => Int.emod_nonneg x (by decide)
    have sd1 : ∀ x : Int, x % 2147483647 < 2147483647 := fun x => Int.emod_lt_of_pos x (by decide)
    have wd : ∀ x : Int, CDivW x many := fun x => wide_div (b := 63) hm0 (by omega) (by decide) (by decide)
    refine ⟨_, rfl, a, _, _, _, rfl, rfl, SqL.of ha, rfl, _, _, rfl, rfl, _, rfl, ?_⟩
    refine ite2 (fun c => ?_) (fun c => ?_)
    · have c' : 0 < big := by simpa using c
      refine ⟨_, rfl, a, _, _, _, rfl, rfl, SqL.of ha, rfl, _, rfl, _, _, rfl, rfl, hm0, ?_⟩
      refine ⟨_, rfl, a, _, _, _, rfl, rfl, SqL.of ha, rfl, _, rfl, _, _, rfl, rfl, wd big, _, rfl, a, _, _, 3, rfl, rfl, ha, rfl, ?_⟩
      refine ⟨_, rfl, kq _ _ (mod0 _) (mod1 _) ⟨i, seed, big / many, upd_same, h0i, h0s, hss, Int.ediv_nonneg h0b (by omega)⟩⟩
    · refine ⟨_, rfl, a, _, _, _, rfl, rfl, SqL.of ha, rfl, _, _, rfl, rfl, _, rfl, a, _, _, 1, rfl, rfl, ha, rfl, ?_⟩
      have h1 : upd H a (.lst ([V.ref sc, .int i, .int seed, .int big].set 1 (.int (i + 1)))) a = some (.lst [.ref sc, .int (i + 1), .int seed, .int big]) := upd_same
      have hS1 : SqL K (upd H a (.lst ([V.ref sc, .int i, .int seed, .int big].set 1 (.int (i + 1))))) sc (ns.map V.int) := (hS0.put _).sq
      have eU : ∀ o, upd (upd H a (.lst ([V.ref sc, .int i, .int seed, .int big].set 1 (.int (i + 1))))) a o = upd H a o := fun o => upd_upd
      generalize upd H a (.lst ([V.ref sc, .int i, .int seed, .int big].set 1 (.int (i + 1)))) = H1 at h1 hS1 eU
      refine ⟨_, rfl, a, _, _, _, rfl, rfl, SqL.of h1, rfl, _, rfl, a, _, _, _, rfl, rfl, SqL.of h1, rfl, sc, _, rfl, .inl hS1, _, _, rfl, rfl, _, rfl, ?_⟩
      rw [List.length_map]
      refine ite2 (fun c => ?_) (fun c => ?_)
      · refine ⟨_, rfl, a, _, _, _, rfl, rfl, SqL.of h1, rfl, _, _, rfl, rfl, .inl ⟨by omega, by omega⟩, _, _, rfl, rfl, _, _, rfl, rfl, by show (0 : Int) < 2147483647; decide, _, rfl, a, _, _, 2, rfl, rfl, h1, rfl, ?_⟩
        rw [eU]
        refine ⟨_, rfl, a, _, _, _, rfl, rfl, SqL.of upd_same, rfl, _, _, rfl, rfl, ⟨by decide, by decide⟩, _, rfl, _, _, rfl, rfl, hm0, ?_⟩
        exact kq _ _ (mod0 _) (mod1 _) ⟨i + 1, _, big, upd_same, by omega, sd0 _, sd1 _, h0b⟩
      · have c' : i + 1 ≤ ns.length := by simpa using c
        have hil : i.toNat < ns.length := by omega
        have at_ : atI (ns.map V.int) (i + 1 - 1) = some (.int ns[i.toNat]) := by
          rw [show i + 1 - 1 = ((i.toNat : Nat) : Int) by omega]
          exact atI_nat (by rw [List.getElem?_map, List.getElem?_eq_getElem hil]; rfl)
        generalize ns[i.toNat] = cell at at_
        refine ⟨_, rfl, a, _, _, _, rfl, rfl, SqL.of h1, rfl, _, rfl, a, _, _, _, rfl, rfl, SqL.of h1, rfl, _, _, rfl, rfl, sc, _, _, _, rfl, rfl, hS1, at_, ?_⟩
        refine ⟨_, rfl, a, _, _, _, rfl, rfl, SqL.of h1, rfl, _, _, rfl, rfl, .inl ⟨by omega, by omega⟩, _, rfl, _, _, rfl, rfl, _, _, rfl, rfl, _, _, rfl, rfl, by show (0 : Int) < 2147483647; decide, _, rfl, a, _, _, 2, rfl, rfl, h1, rfl, ?_⟩
        rw [eU]
        refine ⟨_, rfl, _, _, rfl, rfl, ⟨by decide, by decide, by decide⟩, _, _, rfl, rfl, _, rfl, ?_⟩
        refine ite2 (fun c2 => ?_) (fun c2 => ?_)
        · have c3 : (0 : Int) ≤ cell := by
            have : (10 : Int) ^ (18 : Int).toNat ≤ cell := by simpa using c2
            have e : (10 : Int) ^ (18 : Int).toNat = 1000000000000000000 := by decide
            omega
          refine ⟨_, rfl, _, rfl, _, _, rfl, rfl, wd cell, _, rfl, a, _, _, 3, rfl, rfl, upd_same, rfl, ?_⟩
          rw [upd_upd]
          refine ⟨_, rfl, _, rfl, _, _, rfl, rfl, hm0, ?_⟩
          exact kq _ _ (mod0 _) (mod1 _) ⟨i + 1, _, cell / many, upd_same, by omega, sd0 _, sd1 _, Int.ediv_nonneg c3 (by omega)⟩
        · refine ⟨_, rfl, _, rfl, _, _, rfl, rfl, hm0, ?_⟩
          exact kq _ _ (mod0 _) (mod1 _) ⟨i + 1, _, big, upd_same, by omega, sd0 _, sd1 _, h0b⟩
end
end Vs
namespace Vs
open PySem L2 PyProof.Rows
/-! ### _law_whole, _law_same -/
def Eq0 (x y : V) : Prop := (x = .non ∧ y = .non) ∨ (∃ i, x = .int i ∧ y = .int i) ∨ ∃ s, x = .str s ∧ y = .str s
/-- the same data, at most n deep -/
def Eqd (H : Hp) : Nat → V → V → Prop
  | 0, x, y => Eq0 x y
  | n + 1, x, y => Eq0 x y ∨ ∃ a b xs ys, x = .ref a ∧ y = .ref b ∧ ((H a = some (.lst xs) ∧ H b = some (.lst ys)) ∨ (H a = some (.tup xs) ∧ H b = some (.tup ys))) ∧ Paired (Eqd H n) xs ys ∧ xs.length ≤ 1000000
theorem Eqd.sm {H H' : Hp} (s : Sm H H') : ∀ {n : Nat} {x y : V}, Eqd H n x y → Eqd H' n x y
  | 0, _, _, h => h
  | n + 1, _, _, .inl h => .inl h
  | n + 1, _, _, .inr ⟨a, b, xs, ys, e1, e2, h, p, l⟩ => by
    refine .inr ⟨a, b, xs, ys, e1, e2, ?_, Paired.mapP p fun _ _ z => Eqd.sm s z, l⟩
    rcases h with ⟨h1, h2⟩ | ⟨h1, h2⟩
    · exact .inl ⟨s.lst h1, s.lst h2⟩
    · exact .inr ⟨s.tups _ _ h1, s.tups _ _ h2⟩
theorem any2 {K : PySem.W.Frag} {t : String} {b c : Bool} (h1 : kitB t "list" = some b) (h2 : kitB t "tuple" = some c) : PySem.W.kitAny K (.type t) [.type "list", .type "tuple"] = some (b || c) := by
  refine kitAny_cons (kit_ty h1) (fun e => kitAny_cons (kit_ty h2) (fun e2 => by rw [e, e2]; rfl) fun e2 => by rw [e2]; simp) fun e => by rw [e]; rfl
section
variable {P : Program} {w : World} {K : PySem.W.Frag} {mg : Str → Option Value} {base : Heap} {T : Cs} {U : Es} {Pt : Addr}
def spWhole : Sp := fun vs H Q _ => ∃ i : Int, vs = [.int i] ∧ Q (.bl true) H
theorem sc_whole : FnScope ["_law_found"] ["_law_found"] (defScope s__law_whole) := ⟨rfl, rfl, rfl, by decide +kernel, rfl, by decide +kernel, by decide +kernel⟩
theorem ok_whole {f : Addr} {fd : FuncData} (F : Fun K "_law_whole" "_law_whole" s__law_whole f fd) (B : Bt mg) (B2 : Bt2 mg) : FnOk P w K mg base CX0 1 f fd ["_law_found"] spWhole := by
  refine F.ok sc_whole (fun vs H Q E h => ?_) (fun cdv A outer s H vs Q E hr h => ?_)
  · obtain ⟨i, rfl, _⟩ := h
    rfl
  · obtain ⟨i, rfl, kq⟩ := h
    refine ⟨_, pss_one (ps_ret (pe_and (pe_callB call_isi (by rfl) B.isinstance (by decide +kernel) (pa_cons (pv 0) (pa_cons (pe_bltn (v := .ty "int") (by rfl) B.int (by decide +kernel) rfl) pa_nil)))
      (pe_one (pe_not (pe_callB call_isi (by rfl) B.isinstance (by decide +kernel) (pa_cons (pv 0) (pa_cons (pe_bltn (v := .ty "bool") (by rfl) B2.bool (by decide +kernel) rfl) pa_nil))))))), ?_⟩
    refine ⟨_, rfl, _, _, _, _, true, rfl, .ty _, .base (.int i), kit_ty (by decide +kernel), true, rfl, ifT rfl ?_⟩
    exact ⟨_, rfl, _, _, _, _, false, rfl, .ty _, .base (.int i), kit_ty (by decide +kernel), false, rfl, kq⟩
def spSame (n : Nat) : Sp := fun vs H Q _ => ∃ x y : V, vs = [x, y] ∧ Eqd H n x y ∧ ∀ H', Sm H H' → Q (.bl true) H'
def spNo : Sp := fun _ _ _ _ => False
abbrev nSame : List Str := ["_law_found", "_law_due", "_law_k"]
theorem sc_same : FnScope nSame ["_law_found", "_law_due"] (defScope s__law_same) := ⟨rfl, rfl, rfl, by decide +kernel, rfl, by decide +kernel, by decide +kernel⟩
theorem Eqd.zero {H : Hp} {n : Nat} {x y : V} (h : Eq0 x y) : Eqd H n x y := by cases n with
  | zero => exact h
  | succ n => exact .inl h
theorem same_step {f : Addr} {fd : FuncData} (F : Fun K "_law_same" "_law_same" s__law_same f fd) (B : Bt mg) (B2 : Bt2 mg) {k : Nat} (hk : 1 ≤ k) (cw : Fx P w K mg base CX0 "_law_whole" 1 ["_law_found"] spWhole)
    (g : mg "_law_same" = some (.ref f)) (kp : PySem.W.keepIn K (.ref f) = true) (bd : Binds K fd ["_law_found", "_law_due"] []) (n : Nat) (rc : Sp) (G : FnOk P w K mg base CX0 k f fd ["_law_found", "_law_due"] rc) (hrc : n = 0 ∨ ∃ m, n = m + 1 ∧ rc = spSame m) :
    FnOk P w K mg base CX0 (k + 1) f fd ["_law_found", "_law_due"] (spSame n) := by
  obtain ⟨f1, fd1, g1, k1, b1, G1⟩ := cw
  refine F.ok sc_same (fun vs H Q E h => ?_) (fun cdv A outer s H vs Q E hr h => ?_)
  · obtain ⟨x, y, rfl, _⟩ := h
    rfl
  · obtain ⟨x, y, rfl, hE, kq⟩ := h
    refine ⟨_, pss_cons (ps_if (pt_cmpR op_isN (pv 1) pe_non (nomark _)) (pss_one (ps_ret (pe_cmpR op_isN (pv 0) pe_non (nomark _)))) pss_nil)
      (pss_cons (ps_if (pt_val (pe_callB call_isiT (by rfl) B.isinstance (by decide +kernel) (pa_cons (pv 1) (pa_cons (pe_tup (pa_cons (pe_bltn (v := .ty "list") (by rfl) B.list (by decide +kernel) rfl) (pa_cons (pe_bltn (v := .ty "tuple") (by rfl) B2.tuple (by decide +kernel) rfl) pa_nil))) pa_nil))))
        (pss_cons (ps_if (PW.pt (pw_or (pt_cmpR op_ne (pe_callB call_isi (by rfl) B.isinstance (by decide +kernel) (pa_cons (pv 1) (pa_cons (pe_bltn (v := .ty "list") (by rfl) B.list (by decide +kernel) rfl) pa_nil))) (pe_callB call_isi (by rfl) B.isinstance (by decide +kernel) (pa_cons (pv 0) (pa_cons (pe_bltn (v := .ty "list") (by rfl) B.list (by decide +kernel) rfl) pa_nil))) (nomark _))
            (pw_or1 (pt_cmpR op_ne (pe_callB call_isi (by rfl) B.isinstance (by decide +kernel) (pa_cons (pv 1) (pa_cons (pe_bltn (v := .ty "tuple") (by rfl) B2.tuple (by decide +kernel) rfl) pa_nil))) (pe_callB call_isi (by rfl) B.isinstance (by decide +kernel) (pa_cons (pv 0) (pa_cons (pe_bltn (v := .ty "tuple") (by rfl) B2.tuple (by decide +kernel) rfl) pa_nil))) (nomark _)))))
          (pss_one (ps_ret pe_bl)) pss_nil)
        (pss_one (ps_ret (pe_and (pe_cmpR op_eq (pe_callB call_len_seq (by rfl) B.len PySem.boot_len (pa_cons (pv 0) pa_nil)) (pe_callB call_len_seq (by rfl) B.len PySem.boot_len (pa_cons (pv 1) pa_nil)) (nomark _))
          (pe_one (pe_callB (cr_all rfl) (by rfl) B.all (by decide +kernel) (pa_cons (pe_lc (own := [("_law_k", 2)]) (g := gName 2) (tt := tYes) (te := tCall rc [] E0 (tCons (tOp (rIx K) (tVar 0) (tVar 2)) (tCons (tOp (rIx K) (tVar 1) (tVar 2)) tNil))) rfl sc_same.nd
            (pi_range1 (by rfl) B.range (pa_cons (pe_callB call_len_seq (by rfl) B.len PySem.boot_len (pa_cons (pv 1) pa_nil)) pa_nil)) (blkOk_by (own := [("_law_k", 2)]) (N := nSame) (sc := defScope s__law_same) (by decide +kernel))
            (fun _ _ _ _ _ => pg_name (i := 2) sc_same.nd rfl (.inl rfl)) (fun _ _ _ _ _ => pts_nil)
            (fun _ _ _ _ _ => by exact pe_call G hr rfl g kp bd .nil pass0 (pa_cons (pe_ix ix_seq (pv 0) (pv 2) (fun _ _ => rfl)) (pa_cons (pe_ix ix_seq (pv 1) (pv 2) (fun _ _ => rfl)) pa_nil)))) pa_nil))))))) pss_nil)
      (pss_cons (ps_if (pt_val (pe_callB call_isi (by rfl) B.isinstance (by decide +kernel) (pa_cons (pv 1) (pa_cons (pe_bltn (v := .ty "str") (by rfl) B2.str (by decide +kernel) rfl) pa_nil))))
        (pss_one (ps_ret (pe_and (pe_callB call_isi (by rfl) B.isinstance (by decide +kernel) (pa_cons (pv 0) (pa_cons (pe_bltn (v := .ty "str") (by rfl) B2.str (by decide +kernel) rfl) pa_nil))) (pe_one (pe_cmpR op_eq (pv 0) (pv 1) (nomark _)))))) pss_nil)
      (pss_one (ps_ret (pe_and (pe_call G1 (hr.mono hk) rfl g1 k1 b1 .nil pass0 (pa_cons (pv 0) pa_nil)) (pe_one (pe_cmpR op_eq (pv 0) (pv 1) (nomark _)))))))), ?_⟩
    have cls2 : Paired ClsV [V.ty "list", V.ty "tuple"] [.type "list", .type "tuple"] := .cons (.ty _) (.cons (.ty _) .nil)
    have scal : Eq0 x y → _ := fun h => h
    have go : Eq0 x y ∨ ∃ m a b xs ys, n = m + 1 ∧ x = .ref a ∧ y = .ref b ∧ ((H a = some (.lst xs) ∧ H b = some (.lst ys)) ∨ (H a = some (.tup xs) ∧ H b = some (.tup ys))) ∧ Paired (Eqd H m) xs ys ∧ xs.length ≤ 1000000 := by
      cases n with
      | zero => exact .inl hE
      | succ m =>
        rcases hE with h | ⟨a, b, xs, ys, h⟩
        · exact .inl h
        · exact .inr ⟨m, a, b, xs, ys, rfl, h⟩
    rcases go with (⟨rfl, rfl⟩ | ⟨i, rfl, rfl⟩ | ⟨z, rfl, rfl⟩) | ⟨m, a, b, xs, ys, rfl, rfl, rfl, hh, hp, hl⟩
    · exact ⟨_, rfl, rfl, _, rfl, ifT rfl ⟨_, rfl, rfl, kq H (Sm.refl H)⟩⟩
    · refine ⟨_, rfl, rfl, _, rfl, ifF rfl ⟨_, rfl, by show 2 ≤ sizeLine; decide, fun tp htp => ?_⟩⟩
      refine ⟨_, tp, _, _, _, false, rfl, upd_same, cls2, .base (.int i), any2 (b := false) (c := false) (by decide +kernel) (by decide +kernel), _, rfl, ifF rfl ?_⟩
      refine ⟨_, rfl, _, _, _, _, false, rfl, .ty _, .base (.int i), kit_ty (by decide +kernel), _, rfl, ifF rfl ?_⟩
      exact ⟨_, rfl, i, rfl, _, rfl, ifT rfl ⟨_, rfl, _, rfl, rfl, vEq (by simp) (kq _ (Sm.new htp))⟩⟩
    · refine ⟨_, rfl, rfl, _, rfl, ifF rfl ⟨_, rfl, by show 2 ≤ sizeLine; decide, fun tp htp => ?_⟩⟩
      refine ⟨_, tp, _, _, _, false, rfl, upd_same, cls2, .base (.str z), any2 (b := false) (c := false) (by decide +kernel) (by decide +kernel), _, rfl, ifF rfl ?_⟩
      refine ⟨_, rfl, _, _, _, _, true, rfl, .ty _, .base (.str z), kit_ty (by decide +kernel), _, rfl, ifT rfl ?_⟩
      refine ⟨_, rfl, _, _, _, _, true, rfl, .ty _, .base (.str z), kit_ty (by decide +kernel), _, rfl, ifT rfl ?_⟩
      exact ⟨_, rfl, _, rfl, rfl, vEq (by simp) (kq _ (Sm.new htp))⟩
    · refine ⟨_, rfl, rfl, _, rfl, ifF rfl ⟨_, rfl, by show 2 ≤ sizeLine; decide, fun tp htp => ?_⟩⟩
      obtain ⟨m', em, er⟩ : ∃ m', m + 1 = m' + 1 ∧ rc = spSame m' := by
        rcases hrc with z | z
        · cases z
        · exact z
      obtain rfl : m = m' := by omega
      have s1 : Sm H (upd H tp (.tup [.ty "list", .ty "tuple"])) := Sm.new htp
      have htup : upd H tp (.tup [.ty "list", .ty "tuple"]) tp = some (.tup [.ty "list", .ty "tuple"]) := upd_same
      have hh1 : (upd H tp (.tup [.ty "list", .ty "tuple"]) a = some (.lst xs) ∧ upd H tp (.tup [.ty "list", .ty "tuple"]) b = some (.lst ys)) ∨ (upd H tp (.tup [.ty "list", .ty "tuple"]) a = some (.tup xs) ∧ upd H tp (.tup [.ty "list", .ty "tuple"]) b = some (.tup ys)) := by
        rcases hh with ⟨h1, h2⟩ | ⟨h1, h2⟩
        · exact .inl ⟨s1.lst h1, s1.lst h2⟩
        · exact .inr ⟨s1.tups _ _ h1, s1.tups _ _ h2⟩
      generalize upd H tp (.tup [.ty "list", .ty "tuple"]) = H1 at s1 htup hh1
      have sq : ∀ {H2 : Hp}, Sm H1 H2 → (SqL K H2 a xs ∨ SqT K H2 a xs) ∧ (SqL K H2 b ys ∨ SqT K H2 b ys) := fun {H2} s => by
        rcases hh1 with ⟨h1, h2⟩ | ⟨h1, h2⟩
        · exact ⟨.inl (SqL.of (s.lst h1)), .inl (SqL.of (s.lst h2))⟩
        · exact ⟨.inr (SqT.of (s.tups _ _ h1)), .inr (SqT.of (s.tups _ _ h2))⟩
      have len : xs.length = ys.length := Paired.length hp
      have ixr : ∀ {H2 : Hp} {c : Addr} {zs : List V} {j : Nat} {v : V} {Q' : VK}, (SqL K H2 c zs ∨ SqT K H2 c zs) → zs[j]? = some v → Q' v H2 → rIx K (.ref c) (.int (0 + (j : Int))) H2 Q' := fun {H2 c zs j v Q'} h e q => by
        rcases h with h | h
        · exact .inl ⟨c, zs, _, v, rfl, rfl, h, by rw [Int.zero_add]; exact atI_nat e, q⟩
        · exact .inr (.inl ⟨c, zs, _, v, rfl, rfl, h, by rw [Int.zero_add]; exact atI_nat e, q⟩)
      obtain ⟨ty, tb1, tb2, tA, tB, k0, k1', k2'⟩ : ∃ (ty : String) (tb1 tb2 : Bool), TyX K H1 (.ref a) (.type ty) ∧ TyX K H1 (.ref b) (.type ty) ∧ PySem.W.kitAny K (.type ty) [.type "list", .type "tuple"] = some true ∧ PySem.W.kitOne K (.type ty) (.type "list") = some tb1 ∧ PySem.W.kitOne K (.type ty) (.type "tuple") = some tb2 := by
        rcases hh1 with ⟨h1, h2⟩ | ⟨h1, h2⟩
        · exact ⟨"list", true, false, .base (.lst h1), .base (.lst h2), any2 (b := true) (c := false) (by decide +kernel) (by decide +kernel), kit_ty (by decide +kernel), kit_ty (by decide +kernel)⟩
        · exact ⟨"tuple", false, true, .base (.tup h1), .base (.tup h2), any2 (b := false) (c := true) (by decide +kernel) (by decide +kernel), kit_ty (by decide +kernel), kit_ty (by decide +kernel)⟩
      refine ⟨_, tp, _, _, _, true, rfl, htup, cls2, tB, k0, _, rfl, ifT rfl ?_⟩
      refine ⟨_, rfl, _, _, _, _, tb1, rfl, .ty _, tB, k1', _, rfl, _, _, _, _, tb1, rfl, .ty _, tA, k1', rfl, _, rfl, ?_⟩
      refine ifF (by simp) ?_
      refine ⟨_, rfl, _, _, _, _, tb2, rfl, .ty _, tB, k2', _, rfl, _, _, _, _, tb2, rfl, .ty _, tA, k2', rfl, _, rfl, ?_⟩
      refine ifF (by simp) ?_
      refine ⟨_, rfl, a, xs, rfl, (sq (Sm.refl H1)).1, _, rfl, b, ys, rfl, (sq (Sm.refl H1)).2, rfl, _, rfl, ?_⟩
      refine ifT (by simp [len]) ?_
      refine ⟨_, rfl, b, ys, rfl, (sq (Sm.refl H1)).2, _, rfl, by omega, by omega, fun D hD => ?_⟩
      rw [show ((ys.length : Nat) : Int).toNat = ys.length from rfl]
      refine lc_range (lo := 0) (n := ys.length) (fun i H2 => Sm H1 H2 ∧ H2 D = some (.lst ((List.replicate i true).map V.bl))) ⟨Sm.new hD, upd_same⟩ ?_ ?_
      · rintro i H2 hi ⟨s2, h2D⟩
        have hxi : xs[i]? = some xs[i] := List.getElem?_eq_getElem (by omega)
        obtain ⟨yi, hyi, hE⟩ := LiI.paired_get hp hxi
        refine ⟨rfl, ?_⟩
        dsimp only [tYes]
        rw [if_pos rfl]
        refine ⟨_, rfl, _, rfl, ixr (sq s2).1 hxi ⟨_, rfl, _, rfl, ixr (sq s2).2 hyi ?_⟩⟩
        rw [er]
        refine ⟨_, _, rfl, Eqd.sm (s1.trans s2) hE, fun H3 s3 => ?_⟩
        have h3D := s3.lst h2D
        refine ⟨_, h3D, le1000000 (by rw [List.length_map, List.length_replicate]; omega), (Sm.refl H1).own hD (s2.trans s3) h3D (ntL _) _, ?_⟩
        rw [List.replicate_succ', List.map_append]
        exact upd_same
      · rintro H2 ⟨s2, h2D⟩
        refine ⟨D, _, rfl, SqL.of h2D, vEq ?_ (kq _ (s1.trans s2))⟩
        congr 1
        symm
        rw [List.all_eq_true]
        intro c hc
        rw [List.eq_of_mem_replicate hc]; rfl
theorem same_no {f : Addr} {fd : FuncData} (F : Fun K "_law_same" "_law_same" s__law_same f fd) (k : Nat) : FnOk P w K mg base CX0 (k + 1) f fd ["_law_found", "_law_due"] spNo :=
  F.ok sc_same (fun vs H Q E h => False.elim h) (fun cdv A outer s H vs Q E hr h => False.elim h)
theorem ok_same {f : Addr} {fd : FuncData} (F : Fun K "_law_same" "_law_same" s__law_same f fd) (B : Bt mg) (B2 : Bt2 mg) (cw : Fx P w K mg base CX0 "_law_whole" 1 ["_law_found"] spWhole)
    (g : mg "_law_same" = some (.ref f)) (kp : PySem.W.keepIn K (.ref f) = true) (bd : Binds K fd ["_law_found", "_law_due"] []) : ∀ n : Nat, FnOk P w K mg base CX0 (n + 2) f fd ["_law_found", "_law_due"] (spSame n)
  | 0 => same_step F B B2 (Nat.le_refl _) cw g kp bd 0 spNo (same_no F 0) (.inl rfl)
  | n + 1 => same_step F B B2 (by omega) cw g kp bd (n + 1) (spSame n) (ok_same F B B2 cw g kp bd n) (.inr ⟨n, rfl, rfl⟩)
end
end Vs
/-! ## a sign times a number -/
namespace Vs
open PySem PySem.Spec PyProof.Rows L2
def rMulC : R2 := fun x y H Q => ∃ (c : Nat) (n : Int), x = .str ⟨#[c]⟩ ∧ y = .int n ∧ 0 ≤ n ∧ n ≤ 100 ∧ Q (.str ⟨(List.replicate n.toNat c).toArray⟩) H
theorem rep_signs (c : Nat) : ∀ (n : Nat) (a : Array Nat), (List.replicate n (#[c] : Array Nat)).foldl (· ++ ·) a = a ++ (List.replicate n c).toArray
  | 0, a => by simp
  | n + 1, a => by
    rw [List.replicate_succ, List.foldl_cons, rep_signs c n, List.replicate_succ]
    exact Array.toList_inj.mp (by simp)
theorem op_mulC {X : Cx} : OpR X (binaryOp .Mult) rMulC := by
  intro pins z σ H x y v u Q I rx ry pre
  obtain ⟨c, n, rfl, rfl, n0, n1, q⟩ := pre
  obtain ⟨t, rfl⟩ := rx
  obtain ⟨t', rfl⟩ := ry
  have ln : (⟨#[c]⟩ : Str).length = 1 := rfl
  refine PySem.P.mul_str (by rw [decide_eq_false (by omega), decide_eq_false (by omega)]; rfl) (fun h1 _ => ?_) (fun _ _ => ?_) ?_
  · rw [ln]
    have : (1 : Int) ≤ (2 ^ 63 - 1) / n := Int.le_ediv_of_mul_le (by omega) (by omega)
    show ¬ ((1 : Int) > _)
    omega
  · rw [ln]
    have : 1 * n.toNat ≤ 100 := by omega
    refine decide_eq_false fun h => ?_
    have := le1000000 (n := 1 * n.toNat) (by omega)
    omega
  · by_cases h1 : n < 1
    · rw [if_pos h1]
      have e : n.toNat = 0 := by omega
      rw [e] at q
      exact ⟨Nat.zero_le _, .str Str.empty, H, I.tok _, ⟨_, rfl⟩, q⟩
    · rw [if_neg h1, ln]
      by_cases h2 : n = 1
      · subst h2
        exact ⟨.str ⟨#[c]⟩, H, I, ⟨_, rfl⟩, q⟩
      · rw [if_neg (by simp [h2]), rep_signs c n.toNat #[]]
        have e : (#[] : Array Nat) ++ (List.replicate n.toNat c).toArray = (List.replicate n.toNat c).toArray := by simp
        rw [e]
        refine ⟨?_, .str ⟨(List.replicate n.toNat c).toArray⟩, H, I.tok _, ⟨_, rfl⟩, q⟩
        show (List.replicate n.toNat c).toArray.size ≤ _
        rw [List.size_toArray, List.length_replicate]
        exact Nat.le_of_lt (le1000000 (by omega))
end Vs
/-! ## _law_pool, _law_model -/
namespace Vs
open PySem L2 PyProof.Rows
/-- all stands but the row -/
def Sr (ro : Addr) (H H' : Hp) : Prop := ∀ a o, H a = some o → a ≠ ro → H' a = some o
theorem Sr.refl (ro : Addr) (H : Hp) : Sr ro H H := fun _ _ h _ => h
theorem Sr.trans {ro : Addr} {H1 H2 H3 : Hp} (a : Sr ro H1 H2) (b : Sr ro H2 H3) : Sr ro H1 H3 := fun c o h n => b c o (a c o h n) n
theorem Sr.row {ro : Addr} {H : Hp} {xs : List V} : Sr ro H (upd H ro (.lst xs)) := fun a o h n => by rw [upd_ne n]; exact h
theorem Sr.new {ro p : Addr} {H : Hp} {o : HO} (h : H p = none) : Sr ro H (upd H p o) := fun a u e _ => by rw [upd_ne (ne_of_none e h)]; exact e
structure PoolOk (Ks : List Str) : Prop where
  nd : Ks.Nodup
  lo : 2 ≤ Ks.length
  hi : Ks.length ≤ 5
  key : ∀ k ∈ Ks, IsKey k
def abc : Str := "abcdefghijklmnopqrstuvwxyz"
theorem abc_at {i : Int} (h0 : 0 ≤ i) (h1 : i < 26) : atI abc.cps.toList i = some (97 + i.toNat) := by
  have all : ∀ j : Fin 26, abc.cps.toList[j.val]? = some (97 + j.val) := by decide +kernel
  have e : i = ((i.toNat : Nat) : Int) := by omega
  rw [e]
  exact atI_nat (all ⟨i.toNat, by omega⟩)
def keyP (n c t : Nat) (j : Nat) : Str := ⟨(List.replicate n c).toArray ++ #[97 + (t + 5 * j) % 26]⟩
theorem cut7 (n c : Nat) (h : n ≤ 7) : cutS ⟨(List.replicate n c).toArray⟩ none (some 7) = ⟨(List.replicate n c).toArray⟩ := by
  unfold cutS
  have ln : (⟨(List.replicate n c).toArray⟩ : Str).length = n := by show (List.replicate n c).toArray.size = n; simp
  rw [HT.sIx_none, show (some (7 : Int)) = some ((7 : Nat) : Int) from rfl, HT.sIx_nat, ln, Nat.min_eq_right h]
  show (⟨(((List.replicate n c).toArray.toList.drop 0).take (n - 0)).toArray⟩ : Str) = _
  rw [List.drop_zero, Nat.sub_zero]
  congr 2
  exact List.take_of_length_le (by simp)
theorem pool_ok (n c t m : Nat) (hn : n ≤ 7) (hc : isLow c = true) (h2 : 2 ≤ m) (h5 : m ≤ 5) : PoolOk ((List.range m).map (keyP n c t)) := by
  refine ⟨?_, by simpa using h2, by simpa using h5, fun k hk => ?_⟩
  · refine List.pairwise_map.mpr (List.Pairwise.imp_of_mem (fun {i j} hi hj ne e => ?_) List.nodup_range)
    have hi := List.mem_range.mp hi
    have hj := List.mem_range.mp hj
    have e1 : (keyP n c t i).cps.toList = (keyP n c t j).cps.toList := by rw [e]
    have e2 : (List.replicate n c) ++ [97 + (t + 5 * i) % 26] = (List.replicate n c) ++ [97 + (t + 5 * j) % 26] := by simpa [keyP] using e1
    have e3 := List.append_cancel_left e2
    have e4 : 97 + (t + 5 * i) % 26 = 97 + (t + 5 * j) % 26 := by simpa using e3
    omega
  · obtain ⟨j, _, rfl⟩ := List.mem_map.mp hk
    have ln : (keyP n c t j).length = n + 1 := by show ((List.replicate n c).toArray ++ #[_]).size = _; simp
    refine ⟨by omega, by omega, ?_⟩
    show ((List.replicate n c).toArray ++ #[97 + (t + 5 * j) % 26]).toList.all isLow = true
    rw [List.all_eq_true]
    intro x hx
    have hx : x ∈ List.replicate n c ++ [97 + (t + 5 * j) % 26] := by simpa using hx
    rcases List.mem_append.mp hx with z | z
    · rw [(List.mem_replicate.mp z).2]; exact hc
    · have : x = 97 + (t + 5 * j) % 26 := by simpa using z
      rw [this]
      exact decide_eq_true (by omega)
section
variable {P : Program} {w : World} {K : PySem.W.Frag} {mg : Str → Option Value} {base : Heap} {T : Cs} {U : Es} {Pt : Addr}
def spPool (K : PySem.W.Frag) : Sp := fun vs H Q _ => ∃ (ro sc : Addr) (ns : List Int), vs = [.ref ro] ∧ RowAt H ro sc ∧ ScR K H ro sc (ns.map V.int) ∧
  ∀ H' q Ks, Sr ro H H' → RowAt H' ro sc → H q = none → H' q = some (.lst (Ks.map V.str)) → PoolOk Ks → Q (.ref q) H'
abbrev nPool : List Str := ["_law_row", "_law_base", "_law_turn", "_law_k"]
theorem sc_pool : FnScope nPool ["_law_row"] (defScope s__law_pool) := ⟨rfl, rfl, rfl, by decide +kernel, rfl, by decide +kernel, by decide +kernel⟩
theorem ScR.sr {H H' : Hp} {ro sc : Addr} {xs : List V} (h : ScR K H ro sc xs) (s : Sr ro H H') : ScR K H' ro sc xs := by
  rcases h with ⟨n, h | ⟨o, h⟩⟩ | h
  · exact .inl ⟨n, .inl (s _ _ h (Ne.symm n))⟩
  · exact .inl ⟨n, .inr ⟨o, s _ _ h (Ne.symm n)⟩⟩
  · exact .inr h
theorem ok_pool {f : Addr} {fd : FuncData} (F : Fun K "_law_pool" "_law_pool" s__law_pool f fd) (B : Bt mg) (ct : Fx P w K mg base CX0 "_law_taken" 1 ["_law_row", "_law_many"] (spTaken K)) : FnOk P w K mg base CX0 2 f fd ["_law_row"] (spPool K) := by
  obtain ⟨ft, fdt, gt, kt, bt, Gt⟩ := ct
  refine F.ok sc_pool (fun vs H Q E h => ?_) (fun cdv A outer s H vs Q E hr h => ?_)
  · obtain ⟨ro, sc, ns, rfl, _⟩ := h
    rfl
  · obtain ⟨ro, sc, ns, rfl, row, scr, kq⟩ := h
    refine ⟨_, pss_cons (ps_set (i := 1) sc_pool.nd rfl (.inr rfl) (pe_op op_mulC (pe_ix ix_str pe_str (pe_call Gt hr rfl gt kt bt .nil pass0 (pa_cons (pv 0) (pa_cons pe_int pa_nil))) (fun _ _ => rfl)) (pe_call Gt hr rfl gt kt bt .nil pass0 (pa_cons (pv 0) (pa_cons pe_int pa_nil)))))
      (pss_cons (ps_set (i := 2) sc_pool.nd rfl (.inr rfl) (pe_call Gt hr rfl gt kt bt .nil pass0 (pa_cons (pv 0) (pa_cons pe_int pa_nil))))
      (pss_one (ps_ret (pe_lc (own := [("_law_k", 3)]) (g := gName 3) (tt := tYes) (by rfl) sc_pool.nd (pi_range1 (by rfl) B.range (pa_cons (pe_op op_add pe_int (pe_call Gt hr rfl gt kt bt .nil pass0 (pa_cons (pv 0) (pa_cons pe_int pa_nil)))) pa_nil))
        (blkOk_by (own := [("_law_k", 3)]) (N := nPool) (sc := defScope s__law_pool) (by decide +kernel)) (fun _ _ _ _ _ => pg_name (i := 3) sc_pool.nd rfl (.inl rfl)) (fun _ _ _ _ _ => pts_nil)
        (fun _ _ _ _ _ => pe_op op_add_str (pe_slice sl_str (pv 1) po_none (po_some pe_int)) (pe_ix ix_str pe_str (pe_op op_mod (pe_op op_add (pv 2) (pe_op op_mul pe_int (pv 3))) pe_int) (fun _ _ => rfl))))))), ?_⟩
    refine ⟨_, rfl, ro, 26, sc, ns, rfl, row, scr, by decide, by decide, fun c ys c0 c1 r1 => ?_⟩
    have s1 : Sr ro H (upd H ro (.lst ys)) := Sr.row
    generalize upd H ro (.lst ys) = H1 at r1 s1
    refine ⟨_, _, _, rfl, rfl, by decide +kernel, abc_at c0 c1, ?_⟩
    refine ⟨_, rfl, ro, 8, sc, ns, rfl, r1, scr.sr s1, by decide, by decide, fun n ys n0 n1 r2 => ?_⟩
    have s2 : Sr ro H (upd H1 ro (.lst ys)) := s1.trans Sr.row
    generalize upd H1 ro (.lst ys) = H2 at r2 s2
    refine ⟨_, _, rfl, rfl, n0, by omega, ?_⟩
    refine ⟨_, rfl, ro, 26, sc, ns, rfl, r2, scr.sr s2, by decide, by decide, fun t ys t0 t1 r3 => ?_⟩
    have s3 : Sr ro H (upd H2 ro (.lst ys)) := s2.trans Sr.row
    generalize upd H2 ro (.lst ys) = H3 at r3 s3
    refine ⟨_, rfl, ro, 4, sc, ns, rfl, r3, scr.sr s3, by decide, by decide, fun m ys m0 m1 r4 => ?_⟩
    have s4 : Sr ro H (upd H3 ro (.lst ys)) := s3.trans Sr.row
    generalize upd H3 ro (.lst ys) = H4 at r4 s4
    refine ⟨_, _, rfl, rfl, _, rfl, by omega, by omega, fun D hD => ?_⟩
    have hD0 : H D = none := by
      cases e : H D with
      | none => rfl
      | some o =>
        by_cases z : D = ro
        · obtain ⟨i, sd, bg, h1, _⟩ := r4
          rw [z, h1] at hD; cases hD
        · rw [s4 D o e z] at hD; cases hD
    have nDr : ro ≠ D := by
      obtain ⟨i, sd, bg, h1, _⟩ := r4
      exact ne_of_none h1 hD
    refine lc_range (lo := 0) (n := (2 + m).toNat) (fun i H5 => Sr ro H H5 ∧ RowAt H5 ro sc ∧ H5 D = some (.lst (((List.range i).map (keyP n.toNat (97 + c.toNat) t.toNat)).map V.str)))
      ⟨s4.trans (Sr.new hD), by obtain ⟨i, sd, bg, h1, h2⟩ := r4; exact ⟨i, sd, bg, by rw [upd_ne nDr]; exact h1, h2⟩, upd_same⟩ ?_ ?_
    · rintro i H5 hi ⟨s5, r5, h5⟩
      refine ⟨rfl, ?_⟩
      dsimp only [tYes]
      rw [if_pos rfl]
      have ln : (⟨(List.replicate n.toNat (97 + c.toNat)).toArray⟩ : Str).length = n.toNat := by show (List.replicate n.toNat (97 + c.toNat)).toArray.size = _; simp
      have im : (t + 5 * (0 + (i : Int))) % 26 = (((t.toNat + 5 * i) % 26 : Nat) : Int) := by omega
      have at_ : atI abc.cps.toList ((t + 5 * (0 + (i : Int))) % 26) = some (97 + (t.toNat + 5 * i) % 26) := by
        rw [im]
        have := abc_at (i := (((t.toNat + 5 * i) % 26 : Nat) : Int)) (by omega) (by omega)
        rw [Int.toNat_natCast] at this; exact this
      refine ⟨_, rfl, _, rfl, _, rfl, Nat.le_of_lt (le1000000 (by rw [ln]; omega)), ?_⟩
      rw [cut7 _ _ (by omega)]
      refine ⟨_, rfl, _, rfl, _, _, rfl, rfl, .inl ⟨by decide, by decide⟩, _, _, rfl, rfl, _, _, rfl, rfl, (by show (0 : Int) < 26; decide), _, _, _, rfl, rfl, by decide +kernel, at_, _, _, rfl, rfl, Nat.le_of_lt (le1000000 (by rw [ln]; show n.toNat + 1 ≤ _; omega)), _, h5, ?_, ?_, ?_, ?_⟩
      · refine le1000000 ?_
        rw [List.length_map, List.length_map, List.length_range]; omega
      · intro a o e na
        rw [upd_ne (ne_of_none e hD0)]; exact s5 a o e na
      · obtain ⟨x, sd, bg, h1, h2⟩ := r5
        exact ⟨x, sd, bg, by rw [upd_ne nDr]; exact h1, h2⟩
      · rw [upd_same, List.range_succ, List.map_append, List.map_append]
        rfl
    · rintro H5 ⟨s5, r5, h5⟩
      exact kq H5 D _ s5 r5 hD0 h5 (pool_ok n.toNat (97 + c.toNat) t.toNat _ (by omega) (decide_eq_true (by omega)) (by omega) (by omega))
end
end Vs
/-! ## list(reversed(xs)) -/
namespace Vs
open PySem PySem.Spec PyProof.Rows L2
section
variable {prog : Program} {w : World} {A : Around} {E : Value → Shared → Prop} {s : Shared} {it l : Addr} {items : Array Value}
/-- what the list has behind it -/
def Revd (items : Array Value) : Nat → Value → Prop := fun i v => items[items.size - 1 - i]? = some v
theorem extend_rev {R : Result → Shared → Prop} (hh : A.handled = none) (hit : s.heap.IsRevIter it l ((items.size : Int) - 1)) (hl : s.heap.IsList l items) (ne : l ≠ it) (hn : items.size ≤ sizeLine) (S : Addr) (nI : S ≠ it) (nL : S ≠ l) (res : Value) (c0 : Nat)
    (hS : s.heap.get? S = some { cls := .type "list", data := .seq #[] c0 })
    (hR : ∀ g tk acc c, (∀ b o, b ≠ S → b ≠ it → s.heap.get? b = some o → g.get? b = some o) → g.get? S = some { cls := .type "list", dict := none, data := .seq acc c, slots := #[] } → ItemsOf (Revd items) acc items.size → R (.ok (.ret res)) { s with heap := g, toks := tk }) :
    wpAny (model prog w) A.in1 (Builtin.List.listExtendWith (.ref S) (.ref it) res)
      (fun fin s' => match fin with | .done f => R (.ok f) s' | .again c' => c'.quiet = true ∧ codeAny (model prog w) A c' R s') (fun e s' => R (.error e) s') s := by
  have W := (Walks.listRev (prog := prog) (w := w) (A := A.in1) hh it l ne items).toS
  have nf : S ∉ [it, l] := by simp only [List.mem_cons, List.not_mem_nil, or_false, not_or]; exact ⟨nI, nL⟩
  have hT : s.TypeIs (.ref it) "list_reverseiterator" := hit.typeIs
  have h1 : Builtin.List.listSameRef (.ref S) (.ref it) = false := by simp [Builtin.List.listSameRef, nI]
  unfold Builtin.List.listExtendWith
  refine wpAny_bind (wpAny_typeOf hT ?_)
  rw [if_neg (by rw [h1]; decide)]
  refine wpAny_bind (wpAny_pyIter_revIter hit ?_)
  refine wpAny_bind (wpAny_holding ?_)
  unfold Builtin.List.listLengthHint
  refine wpAny_bind (wpAny_specialOf hT RT.nolen_lri ?_)
  show wpAny _ A.in1 (specialOf (Value.ref it) (Str.ofString "__length_hint__") >>= _) _ _ _
  refine wpAny_bind (wpAny_specialOf hT RT.hint_lri ?_)
  generalize hid : ("list_reverseiterator.__length_hint__" : String) = id0
  wp_delta
  rw [show splitId id0 = some ("list_reverseiterator", "__length_hint__") from by subst hid; decide +kernel]
  subst hid
  refine wpAny_bind (wpAny_isInstance (b := true) hT (by rw [isSubtype_type]; kernel_rfl) ?_)
  refine wpAny_pure ?_
  rw [if_neg (by decide)]
  have e0 : ((items.size : Nat) : Int) - 1 - ((0 : Nat) : Int) = (items.size : Int) - 1 := by omega
  refine wpAny_pure ⟨plainId_quiet F.plain_extend_loop _, codeAny_extend_loopS W hn S nf res items.size 0 _ _ _ rfl (Nat.zero_le _) ⟨Nat.zero_le _, by rw [e0]; exact hit, hl⟩ hS (ItemsOf.nil _) fun s' acc c hm hS' got => ?_⟩
  rw [Moved.eq_with hm]
  refine hR s'.heap s'.toks acc c (fun b o nS nIt e => hm.heap b o (fun hb => ?_) e) hS' got
  rcases List.mem_cons.mp hb with z | z
  · exact nS z
  · exact nIt (List.mem_singleton.mp z)
theorem init_rev {R : Result → Shared → Prop} (hh : A.handled = none) (hit : s.heap.IsRevIter it l ((items.size : Int) - 1)) (hl : s.heap.IsList l items) (ne : l ≠ it) (hn : items.size ≤ sizeLine) (S : Addr) (nI : S ≠ it) (nL : S ≠ l)
    (hS : s.heap.get? S = some { cls := .type "list", data := .seq #[] })
    (hR : ∀ g tk acc c, (∀ b o, b ≠ S → b ≠ it → s.heap.get? b = some o → g.get? b = some o) → g.get? S = some { cls := .type "list", dict := none, data := .seq acc c, slots := #[] } → ItemsOf (Revd items) acc items.size → R (.ok (.ret .none)) { s with heap := g, toks := tk }) :
    wpAny (model prog w) A.in1 (Builtin.«list.__init__» ⟨[.ref S, .ref it], []⟩)
      (fun fin s' => match fin with | .done f => R (.ok f) s' | .again c' => c'.quiet = true ∧ codeAny (model prog w) A c' R s') (fun e s' => R (.error e) s') s := by
  show wpAny _ _ (do let old ← Builtin.List.listItems (.ref S); Builtin.List.listUpdate (.ref S) (fun _ => #[]); letGo old.toList.reverse; Builtin.List.listExtendWith (.ref S) (.ref it) .none) _ _ s
  refine wpAny_bind ?_
  unfold Builtin.List.listItems
  refine wpAny_bind (wpAny_seqItems hS rfl (wpAny_pure ?_))
  show wpAny _ _ (updateSeq S (fun _ => #[]) >>= fun _ => letGo (#[] : Array Value).toList.reverse >>= fun _ => Builtin.List.listExtendWith (.ref S) (.ref it) .none) _ _ s
  refine wpAny_bind (wpAny_updateSeq hS rfl ?_)
  have hS2 := Heap.get?_update_self (Obj.mapSeq (fun _ => (#[] : Array Value))) hS rfl
  have oth : ∀ b o, b ≠ S → s.heap.get? b = some o → (s.heap.update S (Obj.mapSeq (fun _ => (#[] : Array Value)))).get? b = some o :=
    fun b o hb e => (Heap.get?_update_other _ _ (Ne.symm hb)).trans e
  refine wpAny_bind (wpAny_letGo ?_)
  exact extend_rev hh (hit.at fun o e => oth it o nI.symm e) (hl.at fun o e => oth l o nL.symm e) ne hn S nI nL .none _ hS2 fun g tk acc c k z got => hR g tk acc c (fun b o nS nIt e => k b o nS nIt (oth b o nS e)) z got
theorem call_listRev {Q : Value → Shared → Prop} (hh : A.handled = none) (hit : s.heap.IsRevIter it l ((items.size : Int) - 1)) (hl : s.heap.IsList l items) (ne : l ≠ it) (hn : items.size ≤ sizeLine)
    (hQ : ∀ g tk acc c, (∀ b o, b ≠ it → s.heap.get? b = some o → g.get? b = some o) → g.get? s.heap.objs.size = some { cls := .type "list", dict := none, data := .seq acc c, slots := #[] } → ItemsOf (Revd items) acc items.size → Q (.ref s.heap.objs.size) { s with heap := g, toks := tk }) :
    wpAny (model prog w) A (call (.type "list") [.ref it]) Q E s := by
  refine callType_codes (Q₁ := fun obj s₁ => obj = .ref s.heap.objs.size ∧ s₁ = { s with heap := s.heap.push { cls := .type "list", data := .seq #[] } }) PySem.F.called_list (PySem.F.typeCall_list_1 _) PySem.F.entry_list_init
    (code_list_new _ ⟨rfl, rfl⟩) fun obj s₁ h₁ => ?_
  obtain ⟨rfl, rfl⟩ := h₁
  have hS : (s.heap.push { cls := .type "list", data := .seq #[] }).get? s.heap.objs.size = some { cls := .type "list", data := .seq #[] } := Heap.get?_push_size _ rfl
  obtain ⟨oi, hoi, _⟩ := id hit
  obtain ⟨ol, hol, _⟩ := id hl
  have nI : s.heap.objs.size ≠ it := Nat.ne_of_gt (Heap.lt_size hoi)
  have nL : s.heap.objs.size ≠ l := Nat.ne_of_gt (Heap.lt_size hol)
  refine ⟨⟨_, hS, rfl⟩, PySem.F.args_list_init_2 _ _, init_rev (A := A.in1) hh (hit.at fun o e => Heap.get?_push_of_some _ e) (hl.push _) ne hn _ nI nL hS fun g tk acc c k z got => ?_⟩
  exact ⟨rfl, hQ g tk acc c (fun b o nb e => k b o (Nat.ne_of_lt (Heap.lt_size e)) nb (Heap.get?_push_of_some _ e)) z got⟩
end
section
variable {X : Cx}
def tListRev (K : PySem.W.Frag) (te : TE) : TE := fun σ H Q => te σ H fun v H1 => ∃ (a : Addr) (xs : List V), v = .ref a ∧ SqL K H1 a xs ∧ ∀ q, H1 q = none → Q (.ref q) (upd H1 q (.lst xs.reverse))
theorem pe_listRev {e : Expr} {te : TE} {p p2 pos pos2 : Pos} (hc : X.calm = true) (hg : Gl X "list") (hm : X.mg "list" = none) (hb : bootBuiltins "list" = some (.type "list")) (hg2 : Gl X "reversed") (hm2 : X.mg "reversed" = none) (he : PE X e te)
    (hs : starEach [e] X.env = (false, eval e X.env) :: starEach [] X.env := by rfl)
    (hs2 : starEach [.Call (.Name "reversed" p2) [e] [] pos2] X.env = (false, eval (.Call (.Name "reversed" p2) [e] [] pos2) X.env) :: starEach [] X.env := by rfl) :
    PE X (.Call (.Name "list" p) [.Call (.Name "reversed" p2) [e] [] pos2] [] pos) (tListRev X.K te) := by
  constructor
  intro pins s σ H Q I h
  refine Call_ (ld_blt I hg hm hb (PyProof.Rows.callWith_type1 (args_cons (Call_ (ld_blt I hg2 hm2 PyProof.Rows.boot_reversed (PyProof.Rows.callWith_type1 (args_cons (thn (he.run pins s σ H _ I h) fun u s1 ⟨v, H1, I1, r1, q1⟩ => args_nil ?_) hs) hs rfl))) hs2) hs2 rfl))
  obtain ⟨a, xs, ev, hq, q⟩ := q1
  subst ev
  obtain rfl : u = Value.ref a := r1
  obtain ⟨its, rv, pl, hz⟩ := I1.list hq
  refine call_reversed_list pl.isList (args_nil ?_)
  have k0 : ∀ b o, s1.heap.get? b = some o → (s1.heap.push (revObj a ((its.toArray.size : Int) - 1))).get? b = some o := fun b o e => Heap.get?_push_of_some _ e
  have I2 : Inv X pins σ H1 { s1 with heap := s1.heap.push (revObj a ((its.toArray.size : Int) - 1)) } := I1.kept (t' := s1.toks) k0
  have hl := pl.isList
  obtain ⟨ol, hol, _⟩ := id hl
  have hne : a ≠ s1.heap.objs.size := Nat.ne_of_lt (Heap.lt_size hol)
  have hn : its.toArray.size ≤ sizeLine := by rw [List.size_toArray, ← rv.length]; exact hz
  refine call_listRev (s := { s1 with heap := s1.heap.push (revObj a ((its.toArray.size : Int) - 1)) }) (I1.ok.hd hc) ⟨_, Heap.get?_push_size _ rfl, rfl, rfl⟩ (hl.push _) hne hn fun g tk acc c hk hD hi => ?_
  have kept : ∀ b o, s1.heap.get? b = some o → g.get? b = some o := fun b o e => hk b o (Nat.ne_of_lt (Heap.lt_size e)) (k0 b o e)
  have fr : s1.heap.objs.size ≤ (s1.heap.push (revObj a ((its.toArray.size : Int) - 1))).objs.size := by
    show _ ≤ (s1.heap.objs.push _).size
    rw [Array.size_push]; omega
  exact ⟨.ref _, upd H1 _ (.lst xs.reverse), I1.laid (t' := tk) kept fr (show ObjOk X.prog X.w _ _ _ (.lst xs.reverse) from ⟨by rw [List.length_reverse]; exact hz, acc.toList, c, RT.vals_rev rv hi, by rw [Array.toArray_toList]; exact hD⟩), rfl,
    q _ (I1.hok.fresh fr)⟩
end
end Vs
/-! ## generators where an exception is handled -/
namespace Vs
open PySem PySem.Spec PyProof.Rows L2 GxR HotX
/-- the exception at x1, as it stands: an object with no context of its own -/
structure Plain1 (o : Obj) : Prop where
  ex : ∃ vs : Array Value, o.data = .fields vs ∧ vs[2]? = some .none
section
variable {prog : Program} {w : World} {A : Around} {s : Shared}
theorem Plain1.hot {o : Obj} {x1 : Addr} (p : Plain1 o) (hd : A.handled = some (.ref x1)) {h : Heap} (g : h.get? x1 = some o) : HotAt A x1 h := let ⟨vs, a, b⟩ := p.ex; ⟨hd, o, vs, g, a, b⟩
/-- what StopIteration is made of, and that it is caught by whoever looks for it -/
theorem stop_hot {α : Type} {x1 : Addr} {o1 : Obj} {Q : α → Shared → Prop} {E : Value → Shared → Prop} (p : Plain1 o1) (hd : A.handled = some (.ref x1)) (g : s.heap.get? x1 = some o1)
    (k : ∀ (e : Addr) (h' : Heap), (∀ b o, s.heap.get? b = some o → h'.get? b = some o) → ({ s with heap := h' } : Shared).TypeIs (.ref e) "StopIteration" → E (.ref e) { s with heap := h' }) :
    wpAny (model prog w) A ((newExc (.type "StopIteration") [] >>= fun v => raiseNew v) : Sem α) Q E s := by
  refine wpAny_bind ?_
  simp only [newExc, newTuple]
  refine wpAny_bind (wpAny_newObj_type (wpAny_bind (m := firstArgMember _ _) (wpAny_of_eq (a := Value.none) (by first | rfl | (simp only [firstArgMember]; rfl)) (wpAny_newObj_type ?_ (by size_fits)))) (by size_fits))
  have up : ∀ b o, s.heap.get? b = some o → ∀ o2 o3 : Obj, ((s.heap.push o2).push o3).get? b = some o := fun b o e o2 o3 => Heap.get?_push_of_some _ (Heap.get?_push_of_some _ e)
  have g2 := up x1 o1 g
  refine raiseNew_hot (p.hot hd (g2 _ _)) (Nat.ne_of_lt (Heap.lt_size (Heap.get?_push_of_some _ g))) (Heap.get?_push_size _ rfl) rfl (by first | (simp; done) | (simp; omega) | (simp only [Array.size_append]; simp; omega)) (k _ _ (fun b o e => ?_) ⟨_, Heap.get?_update_self _ (Heap.get?_push_size _ rfl) rfl, rfl⟩)
  rw [Heap.get?_update_other _ _ (Nat.ne_of_gt (Heap.lt_size (Heap.get?_push_of_some _ e)))]
  exact up b o e _ _
/-- the same, with more behind it -/
theorem stop_hot2 {α β : Type} {f : β → Sem α} {x1 : Addr} {o1 : Obj} {Q : α → Shared → Prop} {E : Value → Shared → Prop} (p : Plain1 o1) (hd : A.handled = some (.ref x1)) (g : s.heap.get? x1 = some o1)
    (k : ∀ (e : Addr) (h' : Heap), (∀ b o, s.heap.get? b = some o → h'.get? b = some o) → ({ s with heap := h' } : Shared).TypeIs (.ref e) "StopIteration" → E (.ref e) { s with heap := h' }) :
    wpAny (model prog w) A ((newExc (.type "StopIteration") [] >>= fun v => raiseNew v >>= f) : Sem α) Q E s := by
  refine wpAny_bind ?_
  simp only [newExc, newTuple]
  refine wpAny_bind (wpAny_newObj_type (wpAny_bind (m := firstArgMember _ _) (wpAny_of_eq (a := Value.none) (by first | rfl | (simp only [firstArgMember]; rfl)) (wpAny_newObj_type ?_ (by size_fits)))) (by size_fits))
  have up : ∀ b o, s.heap.get? b = some o → ∀ o2 o3 : Obj, ((s.heap.push o2).push o3).get? b = some o := fun b o e o2 o3 => Heap.get?_push_of_some _ (Heap.get?_push_of_some _ e)
  have g2 := up x1 o1 g
  refine wpAny_bind (raiseNew_hot (p.hot hd (g2 _ _)) (Nat.ne_of_lt (Heap.lt_size (Heap.get?_push_of_some _ g))) (Heap.get?_push_size _ rfl) rfl (by first | (simp; done) | (simp; omega) | (simp only [Array.size_append]; simp; omega)) (k _ _ (fun b o e => ?_) ⟨_, Heap.get?_update_self _ (Heap.get?_push_size _ rfl) rfl, rfl⟩))
  rw [Heap.get?_update_other _ _ (Nat.ne_of_gt (Heap.lt_size (Heap.get?_push_of_some _ e)))]
  exact up b o e _ _
/-! ### the signs of a text -/
theorem ascii_end_hot {it x1 : Addr} {o1 : Obj} {x : Str} {t : Tok} {i : Nat} {Q : Option Value → Shared → Prop} {E : Value → Shared → Prop} (p : Plain1 o1) (hd : A.handled = some (.ref x1)) (ne : x1 ≠ it) (g : s.heap.get? x1 = some o1)
    (st : s.heap.IsStrIter it "str_ascii_iterator" x t i) (out : x.cps[i]? = none) (k : ∀ h', Heap.ExtBut it s.heap h' → Q none { s with heap := h' }) : wpAny (model prog w) A (pyNext (.ref it)) Q E s := by
  obtain ⟨o, at_, cl, dt⟩ := id st
  unfold pyNext
  refine wpAny_bind (wpAny_attempt (wpAny_callSpecial?_slot (name := Str.ofString "__next__") st.typeIs PySem.F.slot_str_ascii_iterator_next (wpAny_call_entry PySem.F.slot_str_ascii_iterator_next st.typeIs PySem.F.entry_str_ascii_iterator_next ?_ (PySem.F.args_str_ascii_iterator_next_1 _))))
  show wpAny _ A.in1 (field (.ref it) 0 >>= _) _ _ s
  refine wpAny_bind (wpAny_field at_ dt (x := .str x t) rfl (show wpAny _ A.in1 (field (.ref it) 1 >>= _) _ _ s from wpAny_bind (wpAny_field at_ dt (x := .int i 0) rfl ?_)))
  simp only [Int.toNat_natCast, out]
  have g2 : (s.heap.update it (Obj.mapFields (·.setIfInBounds 0 .none))).get? x1 = some o1 := by rw [Heap.get?_update_other _ _ (Ne.symm ne)]; exact g
  have e2 : Heap.ExtBut it s.heap (s.heap.update it (Obj.mapFields (·.setIfInBounds 0 .none))) := (Heap.SameBut.update ..).extBut
  refine wpAny_bind (wpAny_rule (wpAny_bind (wpAny_setField at_ dt (by simp) (wpAny_bind (wpAny_letGo (stop_hot (A := A.in1) p hd g2 fun e h' up ty => ?_))))))
  refine wpAny_bind (wpAny_isInstance (T := "StopIteration") (b := true) ty isSubtype_stop (wpAny_pure (k h' fun b o3 nb e3 => up b o3 (e2 b o3 nb e3))))
theorem wide_end_hot {it x1 : Addr} {o1 : Obj} {x : Str} {t : Tok} {i : Nat} {Q : Option Value → Shared → Prop} {E : Value → Shared → Prop} (p : Plain1 o1) (hd : A.handled = some (.ref x1)) (ne : x1 ≠ it) (g : s.heap.get? x1 = some o1)
    (st : s.heap.IsStrIter it "str_iterator" x t i) (out : x.cps[i]? = none) (k : ∀ h', Heap.ExtBut it s.heap h' → Q none { s with heap := h' }) : wpAny (model prog w) A (pyNext (.ref it)) Q E s := by
  obtain ⟨o, at_, cl, dt⟩ := id st
  unfold pyNext
  refine wpAny_bind (wpAny_attempt (wpAny_callSpecial?_slot (name := Str.ofString "__next__") st.typeIs PySem.F.slot_str_iterator_next (wpAny_call_entry PySem.F.slot_str_iterator_next st.typeIs PySem.F.entry_str_iterator_next ?_ (PySem.F.args_str_iterator_next_1 _))))
  show wpAny _ A.in1 (field (.ref it) 0 >>= _) _ _ s
  refine wpAny_bind (wpAny_field at_ dt (x := .str x t) rfl (show wpAny _ A.in1 (field (.ref it) 1 >>= _) _ _ s from wpAny_bind (wpAny_field at_ dt (x := .int i 0) rfl ?_)))
  simp only [Int.toNat_natCast, out]
  have g2 : (s.heap.update it (Obj.mapFields (·.setIfInBounds 0 .none))).get? x1 = some o1 := by rw [Heap.get?_update_other _ _ (Ne.symm ne)]; exact g
  have e2 : Heap.ExtBut it s.heap (s.heap.update it (Obj.mapFields (·.setIfInBounds 0 .none))) := (Heap.SameBut.update ..).extBut
  refine wpAny_bind (wpAny_rule (wpAny_bind (wpAny_setField at_ dt (by simp) (wpAny_bind (wpAny_letGo (stop_hot (A := A.in1) p hd g2 fun e h' up ty => ?_))))))
  refine wpAny_bind (wpAny_isInstance (T := "StopIteration") (b := true) ty isSubtype_stop (wpAny_pure (k h' fun b o3 nb e3 => up b o3 (e2 b o3 nb e3))))
theorem ascii_hot {x1 : Addr} {o1 : Obj} (p : Plain1 o1) (hd : A.handled = some (.ref x1)) (I : Addr) (ne : x1 ≠ I) (x : Str) (t : Tok) : Walks prog w A I [I, x1] [I] x.cps.size (SignAt x) (fun i h => h.IsStrIter I "str_ascii_iterator" x t i ∧ h.get? x1 = some o1) where
  sub := fun b hb => by rw [List.mem_singleton.mp hb]; simp
  frame := fun i h h' st hk => ⟨let ⟨o, ho, r⟩ := st.1; ⟨o, hk I (by simp) o ho, r⟩, hk x1 (by simp) _ st.2⟩
  item := fun i s Q E hi st hQ => wpAny_pyNext_ascii_item st.1 (c := x.cps[i]) (by simp [hi]) fun h' st2 sb =>
    hQ _ h' (s.toks + 1) ⟨_, _, by simp [hi], rfl⟩ ⟨st2, sb.extBut x1 _ ne st.2⟩ fun b o hb e => sb.extBut b o (fun z => hb (by simp [z])) e
  done := fun s Q E st hQ => ascii_end_hot p hd ne st.2 st.1 (by simp) fun h' ex => hQ h' s.toks fun b o hb e => ex b o (fun z => hb (by simp [z])) e
  self := fun i s Q E st hQ => wpAny_pyIter_striter_ascii st.1 hQ
theorem wide_hot {x1 : Addr} {o1 : Obj} (p : Plain1 o1) (hd : A.handled = some (.ref x1)) (I : Addr) (ne : x1 ≠ I) (x : Str) (t : Tok) : Walks prog w A I [I, x1] [I] x.cps.size (SignAt x) (fun i h => h.IsStrIter I "str_iterator" x t i ∧ h.get? x1 = some o1) where
  sub := fun b hb => by rw [List.mem_singleton.mp hb]; simp
  frame := fun i h h' st hk => ⟨let ⟨o, ho, r⟩ := st.1; ⟨o, hk I (by simp) o ho, r⟩, hk x1 (by simp) _ st.2⟩
  item := fun i s Q E hi st hQ => wpAny_pyNext_wide_item st.1 (c := x.cps[i]) (by simp [hi]) fun h' st2 sb =>
    hQ _ h' (s.toks + 1) ⟨_, _, by simp [hi], rfl⟩ ⟨st2, sb.extBut x1 _ ne st.2⟩ fun b o hb e => sb.extBut b o (fun z => hb (by simp [z])) e
  done := fun s Q E st hQ => wide_end_hot p hd ne st.2 st.1 (by simp) fun h' ex => hQ h' s.toks fun b o hb e => ex b o (fun z => hb (by simp [z])) e
  self := fun i s Q E st hQ => wpAny_pyIter_striter_wide st.1 hQ
theorem iter_str_hot {x1 : Addr} {o1 : Obj} {E : Value → Shared → Prop} {x : Str} {t : Tok} {Q : Value → Shared → Prop} (p : Plain1 o1) (g : s.heap.get? x1 = some o1)
    (k : ∀ (o : Obj) (St : Nat → Heap → Prop), (∀ A' : Around, A'.handled = some (.ref x1) → Walks prog w A' s.heap.objs.size [s.heap.objs.size, x1] [s.heap.objs.size] x.cps.size (SignAt x) St) → St 0 (s.heap.push o) →
      Q (.ref s.heap.objs.size) { s with heap := s.heap.push o }) : wpAny (model prog w) A (pyIter (.str x t)) Q E s := by
  have ne : x1 ≠ s.heap.objs.size := Nat.ne_of_lt (Heap.lt_size g)
  cases ha : x.cps.all (· < 128)
  · exact wpAny_pyIter_wide ha (k _ _ (fun A' hA => wide_hot p hA _ ne x t) ⟨⟨_, Heap.get?_push_size _ rfl, rfl, rfl⟩, Heap.get?_push_of_some _ g⟩)
  · exact wpAny_pyIter_ascii ha (k _ _ (fun A' hA => ascii_hot p hA _ ne x t) ⟨⟨_, Heap.get?_push_size _ rfl, rfl, rfl⟩, Heap.get?_push_of_some _ g⟩)
end
end Vs
/-! ## a generator's body, whatever is handled around it -/
namespace Vs
open PySem PySem.Spec PyProof.Rows L2 GxR HotX
/-- the element, where v is handled -/
def EltQ (prog : Program) (w : World) (v : Option Value) (ce : Env) (x : Str) (elt : Expr) (fp wr : List Addr) (P : Nat → Value → Prop) (F : Nat → Value → Prop) (h0 : Heap) : Prop :=
  ∀ (B : Around) (R : Value → Shared → Prop) (i : Nat) (u : Value) (z : Shared) (m : Str → Option Value), B.handled = v → P i u → z.heap.Ns ce.locals m → m x = some u → (∀ b ∈ fp, b ∉ wr → ∀ o, h0.get? b = some o → z.heap.get? b = some o) →
    wpAny (model prog w) B (eval elt ce) (fun y z' => F i y ∧ Keeps z z') R z
abbrev yes : Nat → Bool := fun _ => true
abbrev EndG (C : Addr) (wr : List Addr) : GenEnd := fun n a r b => r = .ok .next ∧ (n = 0 ∧ GenSince C wr a b)
section
variable {prog : Program} {w : World} {A : Around} {v : Option Value} {elt iter : Expr} {x : Str} {px gpos : Pos} {scope : Scope} {I : Addr} {fp wr : List Addr} {n : Nat} {P F : Nat → Value → Prop} {St : Nat → Heap → Prop} {ce : Env} {h0 : Heap}
theorem turns_v (hv : A.handled = v) (W : ∀ B : Around, B.handled = v → Walks prog w B I fp wr n P St) (kx : ce.kindOf x = some .local) (kc : (ce.scope.kind == .class || (ce.scope.kind == .module && ce.locals != ce.globals)) = false)
    (co : ce.scope.isCoroutine = false) (out : ce.locals ∉ fp) (el : EltQ prog w v ce x elt fp wr P F h0) :
    ∀ (k i : Nat) (a z : Shared) (m : Str → Option Value), n - i = k → i ≤ n → St i z.heap → z.heap.Ns ce.locals m → GenSince ce.locals wr a z → (∀ b ∈ fp, b ∉ wr → ∀ o, h0.get? b = some o → z.heap.get? b = some o) →
      Seg (model prog w) A (EndG ce.locals wr) (genProto ce.locals fp wr yes n F) (passing yes n i).length a (.compLoop (.GeneratorExp elt [⟨.Name x px, iter, [], 0⟩] scope gpos) 0 (.ref I) .none ce)
        ((model prog w).den (.compLoop (.GeneratorExp elt [⟨.Name x px, iter, [], 0⟩] scope gpos) 0 (.ref I) .none ce)) [] z := by
  have hv' : (A.over (.compLoop (.GeneratorExp elt [⟨.Name x px, iter, [], 0⟩] scope gpos) 0 (.ref I) .none ce) []).handled = v := hv
  have outw : ce.locals ∉ wr := fun q => out ((W A hv).sub _ q)
  intro k
  induction k with
  | zero =>
    intro i a z m hk le st ns since kept
    obtain rfl : i = n := by omega
    show Seg _ A _ _ _ a _ ((compTurn (.GeneratorExp elt [⟨.Name x px, iter, [], 0⟩] scope gpos) 0 (.ref I) .none ce).onRaise (leaving ce)) [] z
    rw [compTurn_gen, Sem.onRaise_eq_wrap]
    refine seg_bind_wrap (wpAny_standAt (seg_bind_wrap ((W _ hv').done z _ _ st fun h' tk hk' => seg_end (.ok .next) ⟨rfl, by rw [passing_end]; rfl, since.step fun b o _ nw e => hk' b o nw e⟩)))
  | succ k ih =>
    intro i a z m hk le st ns since kept
    have lt : i < n := by omega
    show Seg _ A _ _ _ a _ ((compTurn (.GeneratorExp elt [⟨.Name x px, iter, [], 0⟩] scope gpos) 0 (.ref I) .none ce).onRaise (leaving ce)) [] z
    rw [compTurn_gen, Sem.onRaise_eq_wrap]
    refine seg_bind_wrap (wpAny_standAt (seg_bind_wrap ((W _ hv').item i z _ _ lt st fun u h1 t1 pu st1 k1 => ?_)))
    refine seg_bind_wrap (wpAny_of_eq (rfl : letOwnedTupleGo (.Name x px) (.ref I) u = pure ()) (seg_bind_wrap (wpAny_assign_Name (wpAny_storeName_local kx (ns.at' fun o e => k1 _ o outw e) (fun h2 ns2 sb2 => ?_) kc))))
    have up2 : ∀ b o, b ≠ ce.locals → b ∉ wr → z.heap.get? b = some o → h2.get? b = some o := fun b o nc nw e => sb2.extBut b o nc (k1 b o nw e)
    have st2 : St (i + 1) h2 := (W A hv).frame _ _ _ st1 fun b hb o e => sb2.extBut b o (fun q => out (q ▸ hb)) e
    have kept2 : ∀ b ∈ fp, b ∉ wr → ∀ o, h0.get? b = some o → h2.get? b = some o := fun b hb nw o e => up2 b o (fun q => out (q ▸ hb)) nw (kept b hb nw o e)
    refine seg_bind_wrap (wpAny_of_eq (a := true) List.forIn_nil ?_)
    rw [passing_true (pz := yes) lt rfl, List.length_cons, if_pos rfl]
    have out1 : ∀ y, yieldOut ce y = yieldValue y := fun y => by simp only [yieldOut, co, Bool.false_eq_true, if_false]
    simp only [out1]
    rw [Sem.bind_eq_wrap', Sem.bind_eq_wrap', Sem.wrap_wrap, Sem.wrap_wrap]
    refine seg_wrap (wpAny_mono (el _ _ i u _ _ hv' pu ns2 (by simp) kept2) (fun y z4 h4 => ?_) fun _ _ e => e)
    obtain ⟨fy, h4, tk4, rfl, k4⟩ := h4
    refine seg_at (seg_yield rfl rfl rfl ⟨⟨i, passing_here (pz := yes) lt rfl, fy⟩, (since.step (h' := h2) (tk := t1 + 1) up2).step fun b o _ _ e => k4 b o e, fun z5 al => seg_again rfl ?_⟩)
    exact ih (i + 1) z5 z5 _ (by omega) lt ((W A hv).frame _ _ _ st2 fun b hb o e => al b (List.mem_cons_of_mem _ hb) o (k4 b o e)) ((ns2.keeps k4).at' fun o e => al _ List.mem_cons_self o e) (GenSince.refl _ _ _)
      fun b hb nw o e => al b (List.mem_cons_of_mem _ hb) o (k4 b o (kept2 b hb nw o e))
/-- from its start -/
theorem start_v (hv : A.handled = v) (W : ∀ B : Around, B.handled = v → Walks prog w B I fp wr n P St) (kx : ce.kindOf x = some .local) (kc : (ce.scope.kind == .class || (ce.scope.kind == .module && ce.locals != ce.globals)) = false)
    (co : ce.scope.isCoroutine = false) (out : ce.locals ∉ fp) (el : EltQ prog w v ce x elt fp wr P F h0) (a z : Shared) (m : Str → Option Value) (st : St 0 z.heap) (ns : z.heap.Ns ce.locals m) (since : GenSince ce.locals wr a z) (kept : ∀ b ∈ fp, b ∉ wr → ∀ o, h0.get? b = some o → z.heap.get? b = some o) :
    Seg (model prog w) A (EndG ce.locals wr) (genProto ce.locals fp wr yes n F) (passing yes n 0).length a (.compStart (.GeneratorExp elt [⟨.Name x px, iter, [], 0⟩] scope gpos) 0 (.ref I) .none ce)
      ((model prog w).den (.compStart (.GeneratorExp elt [⟨.Name x px, iter, [], 0⟩] scope gpos) 0 (.ref I) .none ce)) [] z := by
  have hv' : (A.over (.compStart (.GeneratorExp elt [⟨.Name x px, iter, [], 0⟩] scope gpos) 0 (.ref I) .none ce) []).handled = v := hv
  have body := turns_v (iter := iter) (px := px) (scope := scope) (gpos := gpos) hv W kx kc co out el n 0 a z m (Nat.sub_zero _) (Nat.zero_le _) st ns since kept
  show Seg _ A _ _ _ a _ ((compStart (.GeneratorExp elt [⟨.Name x px, iter, [], 0⟩] scope gpos) 0 (.ref I) .none ce).onRaise (leaving ce)) [] z
  unfold compStart
  rw [Sem.onRaise_eq_wrap]
  show Seg _ A _ _ _ a _ ((ask >>= _).wrap _ _ _ _) [] z
  refine seg_bind_wrap (wpAny_askSetting ?_)
  have self : wpAny (model prog w) (A.over (.compStart (.GeneratorExp elt [⟨.Name x px, iter, [], 0⟩] scope gpos) 0 (.ref I) .none ce) []) (pyIter (.ref I)) (fun u z2 => u = .ref I ∧ z2 = z) (fun _ _ => False) z := (W _ hv').self 0 z _ _ st ⟨rfl, rfl⟩
  split
  · exact seg_again rfl body
  · first
      | exact seg_bind_wrap (wpAny_rule (seg_bind_wrap (wpAny_standAt (seg_bind_wrap ((W _ hv').self 0 z _ _ st (seg_again rfl body))))))
      | (refine seg_bind_wrap (wpAny_rule ?_); show Seg _ A _ _ _ a _ ((standAt iter.pos >>= _).wrap _ _ _ _) [] z; exact seg_bind_wrap (wpAny_standAt (seg_bind_wrap ((W _ hv').self 0 z _ _ st (seg_again rfl body)))))
theorem fresh_v {b : Addr} {g : Nat} (hv : A.handled = v) (W : ∀ B : Around, B.handled = v → Walks prog w B I fp wr n P St) (kx : ce.kindOf x = some .local) (kc : (ce.scope.kind == .class || (ce.scope.kind == .module && ce.locals != ce.globals)) = false)
    (co : ce.scope.isCoroutine = false) (out : ce.locals ∉ fp) {z : Shared} {m : Str → Option Value} (el : EltQ prog w v ce x elt fp wr P F z.heap) (ig : z.heap.IsGen b g)
    (gs : z.gens[g]? = some (.fresh (.compStart (.GeneratorExp elt [⟨.Name x px, iter, [], 0⟩] scope gpos) 0 (.ref I) .none ce))) (st : St 0 z.heap) (ns : z.heap.Ns ce.locals m) (nl : z.heap.NoLimit) : GenAt prog w A b g ce.locals fp wr yes n F 0 z :=
  ⟨ig, nl, _, gs, fun z2 al => ⟨rfl, start_v (A := A.in1) (h0 := z.heap) hv W kx kc co out el z2 z2 m ((W A hv).frame _ _ _ st fun b hb o e => al b (List.mem_cons_of_mem _ hb) o e) (ns.at' fun o e => al _ List.mem_cons_self o e) (GenSince.refl _ _ _)
    fun b hb _ o e => al b (List.mem_cons_of_mem _ hb) o e⟩⟩
end
end Vs
/-! ## a generator is asked, where an exception is handled -/
namespace Vs
open PySem PySem.Spec PyProof.Rows L2 GxR HotX
section
variable {prog : Program} {w : World} {A : Around} {s : Shared} {x1 : Addr} {o1 : Obj}
theorem ask_hot {a : Addr} {g n : Nat} {gs : GenState} {J : Nat → Shared → Shared → Prop} {Y : Protocol} {Q : Option Value → Shared → Prop} {E : Value → Shared → Prop} (p : Plain1 o1) (hd : A.handled = some (.ref x1)) (nl : s.heap.NoLimit) (room : A.depth < recursionLimit)
    (ig : s.heap.IsGen a g) (at_ : s.gens[g]? = some gs) (goes : gs.Goes (model prog w) A.in1 (fun n a r b => r = .ok .next ∧ J n a b) Y n (.send .none) (s.setGen g .running))
    (some_ : ∀ u z gs', gs'.bare = true → Y (n - 1) (s.setGen g .running) u z (fun r z2 => match n with
        | 0 => False
        | m + 1 => gs'.Goes (model prog w) A.in1 (fun n a r b => r = .ok .next ∧ J n a b) Y m r z2) → Q (some u) (z.setGen g gs'))
    (none_ : ∀ z, J n (s.setGen g .running) z → z.heap.get? x1 = some o1 ∧ ∀ h', (∀ b o, z.heap.get? b = some o → h'.get? b = some o) → Q none { z.setGen g .finished with heap := h' }) :
    wpAny (model prog w) A (pyNext (.ref a)) Q E s := by
  unfold pyNext
  refine wpAny_bind (wpAny_attempt (wpAny_callSpecial?_slot (name := Str.ofString "__next__") ig.typeIs slot_gen_next (wpAny_call_entry slot_gen_next ig.typeIs entry_gen_next ?_ (args_gen_next _))))
  show wpAny _ A.in1 (Builtin.Generator.genWake (.ref a) (.send .none)) _ _ s
  unfold Builtin.Generator.genWake
  refine wpAny_bind (wpAny_holding (wpAny_genNumber ig (wpAny_bind (wpAny_genState at_ ?_))))
  cases gs with
  | running => exact goes.elim
  | finished => exact goes.elim
  | _ =>
    refine wpAny_bind (wpAny_roomToWake nl room (show wpAny _ A.in1 (.resume g (.send .none) [] _) _ _ s from wpAny_resumeQ at_ goes (fun r z hz => ?_) fun u z gs' hb hz => wpAny_pure ⟨u, rfl, wpAny_pure (some_ u z gs' hb hz)⟩))
    obtain ⟨rfl, j⟩ := hz
    obtain ⟨g1, k⟩ := none_ z j
    show wpAny _ A.in1 (newExc (.type "StopIteration") [] >>= _) _ _ _
    refine stop_hot2 (A := A.in1) (s := z.setGen g .finished) p hd g1 fun e h' up ty => ?_
    refine wpAny_bind (wpAny_isInstance (T := "StopIteration") (b := true) ty isSubtype_stop (wpAny_pure (k h' up)))
/-- the generator, walked -/
theorem walk_hot (p : Plain1 o1) (hd : A.handled = some (.ref x1)) (a : Addr) (g : Nat) (C : Addr) (fp wr : List Addr) (n : Nat) (F : Nat → Value → Prop) (aC : a ≠ C) (af : a ∉ fp) (sub : ∀ b ∈ wr, b ∈ fp) (room : A.depth < recursionLimit) (cs : cStatics ∈ fp) (csC : cStatics ≠ C) (csw : cStatics ∉ wr)
    (xf : x1 ∈ fp) (xC : x1 ≠ C) (xw : x1 ∉ wr) :
    WalksS prog w A a (a :: C :: fp) (C :: wr) (GenOnlyQ g) (passing yes n 0).length (fun j y => ∃ i, (passing yes n 0)[j]? = some i ∧ F i y) (fun j z => GenAt prog w A a g C fp wr yes n F j z ∧ z.heap.get? x1 = some o1) where
  sub := fun b hb => by
    rcases List.mem_cons.mp hb with e | hb
    · rw [e]; simp
    · exact .tail _ (.tail _ (sub b hb))
  grefl := fun _ => .inl rfl
  gtrans := fun _ _ _ y z => y.trans z
  frame := fun j z h' tk st _ kp =>
    ⟨⟨let ⟨o, nm, qn, ho, r⟩ := st.1.1; ⟨o, nm, qn, kp a (.head _) o ho, r⟩, let ⟨mc, q1, q2⟩ := st.1.2.1; ⟨mc, q1.at' fun o e => kp cStatics (.tail _ (.tail _ cs)) o e, q2⟩,
      let ⟨gs, q1, q2⟩ := st.1.2.2; ⟨gs, q1, fun z2 al => q2 z2 fun b hb o e => al b hb o (kp b (.tail _ hb) o e)⟩⟩, kp x1 (.tail _ (.tail _ xf)) _ st.2⟩
  item := fun j z Q E lt st k => by
    obtain ⟨⟨ig, nl, gs, q1, q2⟩, gx⟩ := st
    obtain ⟨m, hm⟩ : ∃ m, (passing yes n 0).length - j = m + 1 := ⟨(passing yes n 0).length - j - 1, by omega⟩
    rw [hm] at q2
    refine wpAny_with_toks (Nat.le_refl z.toks) (ask_hot (J := fun n a b => n = 0 ∧ GenSince C wr a b) p hd nl room ig q1 (q2 _ fun _ _ _ e => e) (fun u z1 gs' hb hz => ?_) fun z1 hp => absurd hp.1 (Nat.succ_ne_zero m))
    obtain ⟨⟨i, hi, fu⟩, ⟨h1, t1, rfl, k1⟩, again⟩ := hz
    rw [show (passing yes n 0).length - 1 - (m + 1 - 1) = j by omega] at hi
    have aw : a ∉ wr := fun q => af (sub a q)
    intro tk
    refine k u _ ⟨i, hi, fu⟩ ⟨⟨let ⟨o, nm, qn, ho, r⟩ := ig; ⟨o, nm, qn, k1 a o aC aw ho, r⟩, let ⟨mc, q1, q2⟩ := nl; ⟨mc, q1.at' fun o e => k1 cStatics o csC csw e, q2⟩, gs', setGen_self (gs := .running) (setGen_self q1), fun z2 al => ?_⟩, k1 x1 _ xC xw gx⟩
      ⟨fun b o nb e => k1 b o (fun q => nb (q ▸ .head _)) (fun q => nb (.tail _ q)) e, GenOnlyQ.of ((GenOnly.setGen z g .running).trans (GenOnly.setGen _ g gs')) (setGen_self (gs := .running) (setGen_self q1)) hb, rfl, rfl, tk⟩
    rw [show (passing yes n 0).length - (j + 1) = m by omega]
    exact again z2 al
  done := fun z Q E st k => by
    obtain ⟨⟨ig, nl, gs, q1, q2⟩, gx⟩ := st
    rw [Nat.sub_self] at q2
    refine wpAny_with_toks (Nat.le_refl z.toks) (ask_hot (J := fun n a b => n = 0 ∧ GenSince C wr a b) p hd nl room ig q1 (q2 _ fun _ _ _ e => e) (fun u z1 gs' _ hz => False.elim (hz.2.2 z1 fun _ _ _ e => e)) fun z1 hp => ?_)
    obtain ⟨_, h1, t1, rfl, k1⟩ := hp
    refine ⟨k1 x1 _ xC xw gx, fun h' up tk => ?_⟩
    exact k _ ⟨fun b o nb e => up b o (k1 b o (fun q => nb (q ▸ .head _)) (fun q => nb (.tail _ q)) e), GenOnlyQ.of ((GenOnly.setGen z g .running).trans (GenOnly.setGen _ g .finished)) (setGen_self (gs := .running) (setGen_self q1)) rfl, rfl, rfl, tk⟩
  self := fun _ z Q E st k => wpAny_pyIter_gen st.1.1 k
end
end Vs
/-! ## all(x in NAME for x in text), where an exception is handled -/
namespace Vs
open PySem PySem.Spec PyProof.Rows L2 GxR HotX
section
variable {X : Cx} {pins : List (Addr × Obj)} {σ : L2.St} {H : Hp} {s : Shared}
theorem gen_hot {c P : Addr} {elt iter : Expr} {x : Str} {px gpos : Pos} {scope : Scope} {pb : Nat → Bool} {te : TE} {k : Nat} {Y : Value → Shared → Prop} {R : Str → Hp → Prop}
    (room : L2H.RoomH k X.A) (hc : L2H.HotC X) (tb : TabB X.base X.mg c P) (code : X.env.code = .ref c) (gs : GenS X.env scope x) (it : PE X iter te) (el : EltM X.prog X.w X.mg scope x elt pb)
    (fold : ∀ v, genFold iter X.env v = pure v) (I : Inv X pins σ H s) (pre : te σ H fun v H1 => ∃ a : Str, v = .str a ∧ TabG H1 P ∧ R a H1)
    (post : ∀ a H1 g z, R a H1 → Ready X pins σ H1 P a pb g z → Y (.ref g) z) :
    wpAny (model X.prog X.w) X.A (eval (.GeneratorExp elt [⟨.Name x px, iter, [], 0⟩] scope gpos) X.env) Y X.xe s := by
  obtain ⟨⟨x1, o1⟩, ⟨hd, vs1, d1, c1⟩, inP⟩ := hc
  have pl1 : Plain1 o1 := ⟨vs1, d1, c1⟩
  refine wpAny_GeneratorExp_make gs.co (closure_ok gs.free) gs.cell gs.dot gs.kind (by have d := room.dp; omega) ?_ fold
  refine thn (it.run pins s σ H _ I pre) fun xv z1 ⟨v, H1, J1, rv, q⟩ => ?_
  obtain ⟨a, rfl, ⟨ps, tP, tO⟩, q⟩ := q
  obtain ⟨tk0, rfl⟩ := _root_.id rv
  have gx : z1.heap.get? x1 = some o1 := (J1.pin (x1, o1) (List.mem_append_left _ inP)).1
  refine iter_str_hot pl1 gx fun ob Stt Wk st0 => ?_
  have p1 : z1.heap.get? P = some { cls := .none, data := .fields ps } := J1.hok P _ tP
  have pl : P < z1.heap.objs.size := Heap.lt_size p1
  have p2 : (z1.heap.push ob).get? P = some { cls := .none, data := .fields ps } := Heap.get?_push_of_some _ p1
  have hd2 : PySem.W.CodeHd (z1.heap.push ob) c P := tb.code.keeps fun b u e => Heap.get?_push_of_some _ (J1.bk b u e)
  have nl : (z1.heap.push ob).NoLimit := J1.nolimit.push ob
  have gl : mainGlobals < z1.heap.objs.size := let ⟨_, _, _, e, _⟩ := J1.mod.glob.keeps J1.bk; Heap.lt_size e
  refine ⟨nl, ?_⟩
  have first : wpAny (model X.prog X.w) X.A (genexprCode X.env gpos (X.env.qual ++ Str.ofString "<genexpr>") scope) (fun _ z => ∃ (h3 : Heap) (tk : Nat) (qs : Array Value), z = { z1 with heap := h3, toks := tk } ∧
      Heap.ExtBut P (z1.heap.push ob) h3 ∧ (z1.heap.push ob).objs.size ≤ h3.objs.size ∧ h3.get? P = some { cls := .none, data := .fields qs } ∧ (∃ more, qs = ps ++ more) ∧ TriplesOk qs.toList) X.xe { z1 with heap := z1.heap.push ob } := by
    cases hf : codeAmong gpos ps.toList with
    | none =>
      refine wpAny_genexprCodeX code (hd2.code p2 tO) (hd2.tab p2) hf fun c' h' tk ext ge lt co _ tab' _ => ?_
      obtain ⟨_, _, _, _, _, _, _, _, _, _, _, _, _, _, _, _, _, _, _, tr, _⟩ := co
      exact ⟨h', tk, _, rfl, ext, Nat.le_trans ge (Nat.le_of_lt lt), tab'.2, ⟨_, rfl⟩, tr⟩
    | some cv => exact wpAny_genexprCode_hit code (hd2.code p2 tO) hf ⟨z1.heap.push ob, z1.toks, ps, rfl, Heap.ExtBut.refl _ _, Nat.le_refl _, p2, ⟨#[], by simp⟩, tO⟩
  refine wpAny_mono first (fun cv z3 hz => ?_) fun _ _ e => e
  obtain ⟨h3, tk, qs, rfl, ext, big, p3, grown, tO3⟩ := hz
  obtain ⟨bm, ob', b1, b2, b3, b4, b5, b6, b7, b8⟩ := tb.bm
  have cP : cStatics ≠ P := fun e => by
    obtain ⟨_, ns, _⟩ := J1.nolimit
    obtain ⟨o', es, ep, h1, h2, _⟩ := ns
    rw [e, p1] at h1
    cases h1; cases h2
  have cl : cStatics < z1.heap.objs.size := let ⟨_, ns, _⟩ := J1.nolimit; ns.lt
  have kp : ∀ b u, b ≠ P → z1.heap.get? b = some u → h3.get? b = some u := fun b u nb e => ext b u nb (Heap.get?_push_of_some _ e)
  have mgl : h3.Ns mainGlobals X.mg := ns_at (J1.mod.glob.keeps J1.bk) fun o e => kp _ _ tb.gP e
  have sp : (z1.heap.push ob).objs.size = z1.heap.objs.size + 1 := Heap.size_push ..
  refine wpAny_builtinsFor (m := X.mg) (by rw [J1.ok.glob]; exact mgl) b1 b2 (kp _ _ b4 (J1.bk _ _ b5)) b6 b7 b8 ?_
  intro h' hn' hs'
  have nlP : h3.NoLimit := nl.extBut ext cP
  have xn : H1 x1 = none := (J1.pin (x1, o1) (List.mem_append_left _ inP)).2.1
  have xP : x1 ≠ P := fun e => by rw [e, tP] at xn; cases xn
  have big2 : z1.heap.objs.size + 1 ≤ h3.objs.size := sp ▸ big
  have in3 : ∀ b : Addr, b < z1.heap.objs.size → b < h3.objs.size := fun b hb => Nat.lt_of_lt_of_le hb (Nat.le_trans (Nat.le_succ _) big2)
  have xlt : x1 < z1.heap.objs.size := Heap.lt_size gx
  have gx3 : h3.get? x1 = some o1 := kp _ _ xP gx
  have hsz : h'.objs.size = h3.objs.size + 1 := by rw [hs'.1, Heap.size_push]
  have keep' : ∀ b o, h3.get? b = some o → h'.get? b = some o := fun b o e => hs'.extBut b o (Nat.ne_of_lt (Heap.lt_size e)) (Heap.get?_push_of_some _ e)
  generalize hOG : ({ cls := .type "generator", data := .fields #[.int z1.gens.size 0, .str "<genexpr>" (tk + 1), .str (X.env.qual ++ "<genexpr>") (tk + 1 + 1)] } : Obj) = OG
  have k5 : ∀ b o, h3.get? b = some o → (h'.push OG).get? b = some o := fun b o e => Heap.get?_push_of_some _ (keep' b o e)
  have csl : cStatics < h3.objs.size := in3 _ cl
  have csI : cStatics ∉ [z1.heap.objs.size] := fun z => by
    have hz : @Eq Nat cStatics z1.heap.objs.size := by simpa using z
    exact Nat.ne_of_lt cl hz
  have xI : x1 ∉ [z1.heap.objs.size] := fun z => by
    have hz : @Eq Nat x1 z1.heap.objs.size := by simpa using z
    exact Nat.ne_of_lt xlt hz
  have sub1 : ∀ b ∈ [z1.heap.objs.size], b ∈ List.range h3.objs.size := fun b hb => by
    rw [List.mem_singleton.mp hb]; exact List.mem_range.mpr big2
  have room1 : X.A.in1.depth < recursionLimit := by have d := room.dp; show X.A.depth < _; omega
  have W5 := walk_hot (prog := X.prog) (w := X.w) (A := X.A.in1) pl1 hd h'.objs.size z1.gens.size h3.objs.size (List.range h3.objs.size) [z1.heap.objs.size] a.cps.size (fun i y => ∃ d, a.cps[i]? = some d ∧ y = .bool (pb d))
    (by rw [hsz]; exact Nat.succ_ne_self _) (fun hm => by have := List.mem_range.mp hm; omega) sub1 room1 (List.mem_range.mpr csl) (Nat.ne_of_lt csl) csI (List.mem_range.mpr (in3 _ xlt)) (Nat.ne_of_lt (in3 _ xlt)) xI
  have g3 : mainGlobals < h3.objs.size := in3 _ gl
  have eq5 : EltQ X.prog X.w (some (.ref x1)) (genEnv scope (cloFrom X.env.cells scope.names []) h3.objs.size cv builtinsNs X.env) x elt (List.range h3.objs.size) [z1.heap.objs.size] (SignAt a) (fun i y => ∃ d, a.cps[i]? = some d ∧ y = .bool (pb d)) (h'.push OG) := by
    intro B R i u z m _ pu hn hm hk
    obtain ⟨d, u, e, rfl⟩ := pu
    have gz : z.heap.Ns mainGlobals X.mg := ns_at mgl fun o e' => hk mainGlobals (List.mem_range.mpr g3) (fun z' => by
      have hz : @Eq Nat mainGlobals z1.heap.objs.size := by simpa using z'
      exact Nat.ne_of_lt gl hz) o (k5 _ _ e')
    exact wpAny_mono (el _ B R d u z m rfl (by show X.env.globals = _; exact J1.ok.glob) gz hn hm) (fun y z' r => ⟨⟨d, e, r.1⟩, r.2⟩) fun _ _ e' => e'
  have st5 : Stt 0 (h'.push OG) := (Wk X.A hd).frame _ _ _ st0 fun b hb o e => k5 b o (ext b o (fun z => by
      rcases List.mem_cons.mp hb with e1 | e1
      · exact Nat.ne_of_lt pl (z.symm.trans e1)
      · exact xP ((List.mem_singleton.mp e1).symm.trans z)) e)
  have fr := fresh_v (prog := X.prog) (w := X.w) (A := X.A.in1) (v := some (.ref x1)) (elt := elt) (iter := iter) (x := x) (px := px) (gpos := gpos) (scope := scope) (I := z1.heap.objs.size) (fp := List.range h3.objs.size) (wr := [z1.heap.objs.size]) (n := a.cps.size)
    (P := SignAt a) (F := fun i y => ∃ d, a.cps[i]? = some d ∧ y = .bool (pb d)) (St := Stt) (ce := genEnv scope (cloFrom X.env.cells scope.names []) h3.objs.size cv builtinsNs X.env) (b := h'.objs.size) (g := z1.gens.size) hd
    (fun A' hA => (Wk A' hA).mono_fp fun b hb => by
      rcases List.mem_cons.mp hb with e | hb
      · rw [e]; exact List.mem_range.mpr big2
      · rw [List.mem_singleton.mp hb]; exact List.mem_range.mpr (in3 _ xlt))
    gs.loc (by simp [genEnv, gs.kind]) gs.co (fun hm => Nat.lt_irrefl _ (List.mem_range.mp hm))
    (z := { z1 with heap := h'.push OG, gens := z1.gens.push (.fresh (.compStart (.GeneratorExp elt [⟨.Name x px, iter, [], 0⟩] scope gpos) 0 (.ref z1.heap.objs.size) .none (genEnv scope (cloFrom X.env.cells scope.names []) h3.objs.size cv builtinsNs X.env))), toks := tk + 1 + 1 + 1 })
    (m := fun y => if y = ".0" then some (.ref z1.heap.objs.size) else none) eq5
    ⟨_, _, _, Heap.get?_push_size _ (by rw [← hOG]; rfl), by rw [← hOG], by rw [← hOG], by rw [← hOG]⟩ (Array.getElem?_push_size ..) st5 (hn'.push _) (nlP.keeps k5)
  simp only [GxR.passing_true, List.length_range] at W5
  refine post a H1 _ _ q ⟨_, _, _, _, _, W5, ⟨fr, k5 _ _ gx3⟩, ?_, fun z' mv => ?_⟩
  · intro j y sj Qj Ej hy hQ
    obtain ⟨i, hi, d, e, rfl⟩ := hy
    obtain ⟨_, ej⟩ := List.getElem?_eq_some_iff.mp hi
    rw [List.getElem_range] at ej
    subst ej
    have e9 : a.cps.toList[j]? = some d := by rw [Array.getElem?_toList]; exact e
    have hQ2 : Qj (trF pb a.cps.toList j) sj := hQ
    rw [trF_some e9] at hQ2
    exact wpAny_truthy_bool hQ2
  · obtain ⟨more, em⟩ := grown
    have off : ∀ b u, z1.heap.get? b = some u → b ∉ h3.objs.size :: [z1.heap.objs.size] := fun b u e hb => by
      have l1 := Heap.lt_size e
      have hbz : @Eq Nat b h3.objs.size ∨ @Eq Nat b z1.heap.objs.size := by simpa using hb
      rcases hbz with z | z
      · exact Nat.lt_irrefl _ (Nat.lt_of_lt_of_le (z ▸ l1) (Nat.le_trans (Nat.le_succ _) big2))
      · exact Nat.lt_irrefl _ (z ▸ l1)
    have J := inv_tab (more := more) (h' := z'.heap) (g' := z'.gens) (d' := z'.drawn) (t' := z'.toks) J1 tP (fun b u nb e => mv.heap b u (off b u e) (k5 b u (kp b u nb e)))
      (by rw [← em]; exact mv.heap P _ (off P _ p1) (k5 P _ p3)) (AllBare.movedS (J1.bare.push rfl) mv)
    rw [sh_eta z1 z' mv.os] at J
    exact ⟨upd H1 P (.tbl (ps ++ more)), ⟨⟨ps ++ more, upd_same, by rw [← em]; exact tO3⟩, fun b nb => upd_ne nb⟩, J⟩
theorem pe_allH {c P : Addr} {elt iter : Expr} {x : Str} {px p pos gpos : Pos} {scope : Scope} {pb : Nat → Bool} {te : TE} {k : Nat}
    (room : L2H.RoomH k X.A) (hc : L2H.HotC X) (hg : Gl X "all") (hm : X.mg "all" = none) (hb : bootBuiltins "all" = some (.builtin "all")) (tb : TabB X.base X.mg c P) (code : X.env.code = .ref c) (gs : GenS X.env scope x) (it : PE X iter te)
    (el : EltM X.prog X.w X.mg scope x elt pb) (fold : ∀ v, genFold iter X.env v = pure v)
    (he : starEach [.GeneratorExp elt [⟨.Name x px, iter, [], 0⟩] scope gpos] X.env = (false, eval (.GeneratorExp elt [⟨.Name x px, iter, [], 0⟩] scope gpos) X.env) :: starEach [] X.env := by rfl) :
    PE X (.Call (.Name "all" p) [.GeneratorExp elt [⟨.Name x px, iter, [], 0⟩] scope gpos] [] pos) (tAllS P pb te) := by
  constructor
  intro pins s σ H Q I pre
  refine wpAny_Call_Name_kw (ld_blt I hg hm hb (PyProof.Rows.callWith_builtin1 ?_ he (by rfl)))
  rw [he]
  refine Calls.spliced_cons (gen_hot (R := fun a H1 => ∀ H2, Tabbed P H1 H2 → Q (.bl (a.cps.toList.all pb)) H2) room hc tb code gs it el fold I pre fun a H1 g z hR ready => Calls.spliced_nil ?_)
  obtain ⟨fp, wr, G, F, Stt, Wk, st, tr, go⟩ := ready
  refine call_all_walkS (Wk.self 0 _ _ _ st ⟨g, fp, wr, G, _, F, Stt, _, rfl, Wk, st, tr, fun z' mv => ?_⟩)
  obtain ⟨H2, hT, J⟩ := go z' mv
  exact ⟨.bl _, H2, J, rfl, by rw [all_signs a pb]; exact hR H2 hT⟩
end
end Vs
/-! ## defs that are called where an exception is handled -/
namespace Vs
open PySem PySem.Spec PyProof.Rows L2 L2H
/-- what is never reached -/
theorem ps_dead {X : Cx} {st : Stmt} : PS X st (fun _ _ _ => False) := ⟨fun _ _ _ _ _ _ no => no.elim⟩
section
variable {P : Program} {w : World} {K : PySem.W.Frag} {mg : Str → Option Value} {base : Heap} {dn qn : Str} {df : Stmt} {f c : Addr} {fd : FuncData} {N pr : List Str} {lv : Nat} {sp : Sp} {CT : CXT}
theorem _root_.L2.Fun.okH (F : Fun K dn qn df f fd) (S : FnScope N pr (defScope df)) (ln : ∀ vs H Q E, sp vs H Q E → vs.length = pr.length)
    (bd : ∀ (cv : Value) (A : Around) (out : List Env) (s : Shared) (H : Hp) (vs : List V) (Q : VK) (E : XK) (p : Addr × Obj), Hot1 A p → RoomH lv (A.deeper (envOfC qn (defScope df) s.heap.objs.size f cv)) → sp vs H Q E →
      ∃ t, PSs (cxH CT P w K mg base N qn (defScope df) f cv A out s H E p) (defBody df) t ∧ t { nx := fun _ G => Q .non G, rt := Q } (start N vs) H) : FnH P w K mg base CT (lv + 1) f fd pr sp := by
  obtain ⟨oc, od, kV, doc, pm, an, cv, ct, sl, rfl, lk, cd⟩ := F.ex
  exact fn_ofH lk cd S ln fun A out s H vs Q E p h1 hr h => bd cv A out s H vs Q E p h1 hr h
theorem FunC.okH (F : FunC K dn qn df f fd c) (S : FnScope N pr (defScope df)) (ln : ∀ vs H Q E, sp vs H Q E → vs.length = pr.length)
    (bd : ∀ (A : Around) (out : List Env) (s : Shared) (H : Hp) (vs : List V) (Q : VK) (E : XK) (p : Addr × Obj), Hot1 A p → RoomH lv (A.deeper (envOfC qn (defScope df) s.heap.objs.size f (.ref c))) → sp vs H Q E →
      ∃ t, PSs (cxH CT P w K mg base N qn (defScope df) f (.ref c) A out s H E p) (defBody df) t ∧ t { nx := fun _ G => Q .non G, rt := Q } (start N vs) H) : FnH P w K mg base CT (lv + 1) f fd pr sp := by
  obtain ⟨oc, od, kV, doc, pm, an, ct, sl, rfl, lk, cd⟩ := F.ex
  exact fn_ofH lk cd S ln fun A out s H vs Q E p h1 hr h => bd A out s H vs Q E p h1 hr h
/-- the context of such a body bears the exception -/
theorem hotC_cxH {qn : Str} {sc : Scope} {cv : Value} {A : Around} {out : List Env} {s : Shared} {H : Hp} {E : XK} {p : Addr × Obj} (h : Hot1 A p) : HotC (cxH CT P w K mg base N qn sc f cv A out s H E p) := ⟨p, h, List.mem_cons_self⟩
end
end Vs
/-! ## defs that are called where an exception is handled, and that speak of it -/
namespace Vs
open PySem PySem.Spec PyProof.Rows L2 L2H
abbrev SpP := Addr × Obj → Sp
structure FnP (P : Program) (w : World) (K : PySem.W.Frag) (mg : Str → Option Value) (base : Heap) (CT : CXT) (lv : Nat) (f : Addr) (fd : FuncData) (pr : List Str) (sp : SpP) : Prop where
  ln : ∀ p vs H Q E, sp p vs H Q E → vs.length = pr.length
  go : ∀ (A : Around) (out : List Env) (z : Shared) (H : Hp) (ar : Args) (us : List Value) (vs : List V) (Q : VK) (E : XK) (p : Addr × Obj), sp p vs H Q E → Vals vs us → BindsTo z fd ar (pr.zip us) → Env0 P w K mg base A out z H → PinOk out H z p → Hot1 A p → RoomH lv A →
    codeAny (model P w) A (.call (.ref f) ar) (CR CT out P w H z Q E) z
section
variable {P : Program} {w : World} {K : PySem.W.Frag} {mg : Str → Option Value} {base : Heap} {dn qn : Str} {df : Stmt} {f : Addr} {fd : FuncData} {N pr : List Str} {lv : Nat} {sp : SpP} {CT : CXT}
theorem _root_.L2.Fun.okP (F : Fun K dn qn df f fd) (S : FnScope N pr (defScope df)) (ln : ∀ p vs H Q E, sp p vs H Q E → vs.length = pr.length)
    (bd : ∀ (cv : Value) (A : Around) (out : List Env) (z : Shared) (H : Hp) (vs : List V) (Q : VK) (E : XK) (p : Addr × Obj), Hot1 A p → RoomH lv (A.deeper (envOfC qn (defScope df) z.heap.objs.size f cv)) → sp p vs H Q E →
      ∃ t, PSs (cxH CT P w K mg base N qn (defScope df) f cv A out z H E p) (defBody df) t ∧ t { nx := fun _ G => Q .non G, rt := Q } (start N vs) H) : FnP P w K mg base CT (lv + 1) f fd pr sp := by
  obtain ⟨oc, od, kV, doc, pm, an, cv, ct, sl, rfl, lk, cd⟩ := F.ex
  refine ⟨ln, fun A out z H ar us vs Q E p h rv bt e0 pin h1 rm => ?_⟩
  have still : ∀ b o, base.get? b = some o → z.heap.get? b = some o := fun b o e => (e0.bs b o e).1
  have kin : K.In z.heap := e0.mod.kin.keeps still
  have kd : ∀ y ∈ pr.zip us, (defScope df).names.lookup y.1 = some .local ∨ ((defScope df).names.lookup y.1 = some .cell ∧ ((cellsFrom (z.heap.objs.size + 1) (defScope df).names []).lookup y.1).isSome = true) := by
    rintro ⟨n, v⟩ m
    rcases S.par n (List.of_mem_zip m).1 with y | y
    · exact .inl y
    · exact .inr ⟨y, PySem.W.cellsFrom_some _ _ _ (.inl y)⟩
  refine codeAny_call_function rm.depth (kin _ _ lk) rfl S.co S.gen rfl (PySem.W.codeRec_of kin cd) (bt _ _ _ _ (wpAny_newFunctionEnv_cells S.kind kd ?_))
  rintro env rfl z1 x
  refine ⟨(e0.mod.nolimit.keeps still).keeps x.toInCall.keep, codeAny_func ?_⟩
  obtain ⟨t, ht, hq⟩ := bd cv A out z H vs Q E p h1 (rm.deeper _) h
  refine wpAny_mono (ht.run [] z1 (L2.start N vs) H _ (inv_startH S pin e0 (ln _ _ _ _ _ h) rv x) hq) ?_ (fun _ _ y => y)
  intro fl z2 y
  cases fl with
  | ret u => exact let ⟨v, _, G, J, r, q⟩ := y; ⟨v, G, J.os, J.bare, J.base, J.hok, r, q⟩
  | next => exact let ⟨_, G, J, q⟩ := y; ⟨.non, G, J.os, J.bare, J.base, J.hok, rfl, q⟩
  | brk => exact let ⟨_, _, _, q⟩ := y; q.elim
  | cont => exact let ⟨_, _, _, q⟩ := y; q.elim
end
section
variable {X : Cx} {CT : CXT} {lv : Nat} {f : Addr} {fd : FuncData} {pr : List Str} {sp : SpP} {E : L2.St → XK} {nm : Str} {w1 w2 : Pos} {a0 : Expr} {ar : List Expr} {tr : TA} {p : Addr × Obj}
theorem pe_callP (F : FnP X.prog X.w X.K X.mg X.base CT lv f fd pr sp) (rm : RoomH lv X.A) (h1 : Hot1 X.A p) (hp : p ∈ X.pn) (gl : Gl X nm) (g1 : X.mg nm = some (.ref f)) (kp : PySem.W.keepIn X.K (.ref f) = true) (bd : Binds X.K fd pr []) (px : ∀ σ, PassesAt CT X σ (E σ))
    (pa : PA X (a0 :: ar) tr) (nd : (nm == ("__debug__" : Str)) = false := by decide) (s1 : starEach (a0 :: ar) X.env = (false, eval a0 X.env) :: starEach ar X.env := by rfl) (s2 : (backTo w2 (starEach ar X.env)).any (·.1) = false := by rfl) :
    PE X (.Call (.Name nm w1) (a0 :: ar) [] w2) (tCallS (sp p) E tr) := by
  refine ⟨fun ps z σ H Q I pre => wpAny_Call_Name_kw (ld_glob I gl g1 (PySem.W.callWith_K (h₀ := X.base) I.ok.mod.kin kp (thn (pa.run w2 ps z σ H _ I pre) ?_) s1 s2) nd)⟩
  rintro us z1 ⟨vs, G, J, r, q⟩
  refine ⟨J.kIn, ?_⟩
  have ln : us.length = pr.length := by rw [← r.length]; exact F.ln _ _ _ _ _ q
  have b := bd z1 us J.kIn (by rw [List.append_nil]; exact ln)
  rw [List.append_nil] at b
  obtain ⟨k1, k2, k3, k4, k5⟩ := J.pin p (List.mem_append_left _ hp)
  refine wpAny_call (codeAny_mono (F.go X.A X.stack z1 G ⟨us, []⟩ us vs Q (E σ) p q r b J.env0 ⟨k1, k2, fun m => (List.mem_cons.mp (J.stkSub p.1 m)).elim k3 k4, k5⟩ h1 rm) ?_)
  intro res z2 y
  cases res with
  | error e => exact px σ ps G z1 e z2 J y
  | ok fl => cases fl with
    | ret u => exact J.after y
    | next => exact y.elim
    | brk => exact y.elim
    | cont => exact y.elim
end
end Vs
/-! ## isinstance of the exception that is handled -/
namespace Vs
open PySem PySem.Spec PyProof.Rows L2 L2H
section
variable {X : Cx} {p : Addr × Obj} {D : Addr}
theorem inst_of {h : Heap} (hp : h.get? p.1 = some p.2) (hz : Zc (.ref D) none p.2) (hf : ∃ vs, p.2.data = .fields vs) : PySem.W.InstAt h p.1 p.2 D none := by
  obtain ⟨a, oc, od, dt, sl⟩ := p
  obtain ⟨e1, e2⟩ := hz
  obtain ⟨vs, e3⟩ := hf
  dsimp only at e1 e2 e3 hp
  subst e1 e2 e3
  exact ⟨hp, rfl, rfl, trivial⟩
theorem call_isP (hp : p ∈ X.pn) (c : ExcC X.K D) (hz : Zc (.ref D) none p.2) (hf : ∃ vs, p.2.data = .fields vs) : CallR X (.builtin "isinstance") (rIsE X.K D p.1) := by
  intro ps z τ G xs us Q J r h
  obtain ⟨y, cv, b, rfl, one, e, q⟩ := h
  obtain ⟨u1, u2, rfl, r1, r2⟩ := vals2 r
  cases (show u1 = Value.ref p.1 from r1)
  cases one _ r2
  have I := inst_of (J.pin p (List.mem_append_left _ hp)).1 hz hf
  refine PySem.W.kia_one (PySem.W.handS_kitx_exc c.hg c.hk c.hs c.hd c.ha c.hn c.ht c.hm) J.kIn I e (fun y => nomatch y) fun tk => ?_
  exact ⟨.bl b, G, J.kept (t' := tk) fun _ _ y => y, rfl, q⟩
end
end Vs
/-! ## isinstance of an exception whose object has a dict -/
namespace Vs
open PySem PySem.Spec PySem.Calls PySem.W
section
variable {pg : Program} {w : World} {A : Around} {E : Value → Shared → Prop} {Q : Option Value → Shared → Prop} {z : Shared} {K : Frag} {x D : Addr} {ox : Obj} {od : Option Obj}
theorem find_class (c : L2.ExcC K D) : findObj K D od "__class__" = some (.bind (.builtin "getset_descriptor.__get__") (.builtin "object.__class__")) := by
  obtain ⟨cd, hc, _⟩ := any_some c.hd
  unfold findObj
  rw [hc, Option.bind_some, c.ha, Option.bind_some]
  simp [c.hn, c.ht]
theorem class_asked (c : L2.ExcC K D) (X : K.In z.heap) (I : InstAt z.heap x ox D od) (h : Q (some (.ref D)) { z with toks := z.toks + 1 }) : wpAny (model pg w) A (getAttr? (.ref x) "__class__") Q E z := by
  obtain ⟨hp, g, d, t, os⟩ := z
  have ty := I.type (M := model pg w)
  have ga := looks_findIn (M := model pg w) X c.hg
  have gt := looks_findIn (M := model pg w) X c.hk
  have fd := looks_find (M := model pg w) X I (find_class c)
  have sb : Looks (model pg w) hp (isInstance (.ref x) (.type "BaseException")) true := ty.andThen (looks_subIn X c.hs)
  have n0 : (false && onTheHeap (Value.builtin "BaseException.__getattribute__")) = false := rfl
  have n2 : (Value.builtin "BaseException.__getattribute__" == Value.builtin "object.__getattribute__") = false := by decide +kernel
  have n1 : (onTheHeap (Value.ref D) && Value.builtin "BaseException.__getattribute__" == Value.builtin "object.__getattribute__") = false := by
    rw [n2]
    rfl
  unfold getAttr? getAttrBy? getAttrBy
  refine wpAny_bind (wpAny_mkText (wpAny_bind (wpAny_attempt (wpAny_holding (wpAny_bind (ty.at (wpAny_bind (ga.at ?_))))))))
  show wpAny _ _ (ite ((onTheHeap (Value.ref D) && Value.builtin "BaseException.__getattribute__" == Value.builtin "object.__getattribute__") = true) _ _) _ _ _
  rw [n1, if_neg Bool.false_ne_true]
  unfold getAttrByItsOwn hookBefore
  refine wpAny_bind ?_
  rw [if_pos (by rfl : onTheHeap (Value.ref D) = true)]
  refine gt.at (wpAny_bind (wpAny_attempt (wpAny_holding ?_)))
  unfold callGetattribute
  rw [n0, if_neg Bool.false_ne_true]
  unfold boundAndCalled
  rw [PySem.F.excAttr_ValueError.ga.bind (.ref x)]
  refine wpAny_bind (wpAny_pure ?_)
  show wpAny _ _ (call (.builtin "BaseException.__getattribute__") [.ref x, .str "__class__" t]) _ _ _
  refine wpAny_call (codeAny_call_builtin PySem.F.excAttr_ValueError.ga.plain PySem.F.entry_bexc_ga ?_)
  refine @check_slot (model pg w) _ _ ⟨hp, g, d, t + 1, os⟩ "BaseException.__getattribute__" "BaseException" "__getattribute__" (.ref x) [.str "__class__" t] [] _ (by decide +kernel) (by decide +kernel) sb (PySem.F.args_bexc_ga (.ref x) (.str "__class__" t)) ?_
  unfold Builtin.«object.__getattribute__»
  refine wpAny_bind (wpAny_of_eq (a := ((Value.ref x : Value), [Value.str "__class__" t])) (by first | rfl | (simp only [slotArgs]; rfl)) ?_)
  refine wpAny_bind (wpAny_pure (wpAny_bind (ty.at (wpAny_bind (fd.at ?_)))))
  show wpAny _ _ (holding [Value.builtin "object.__class__"] (call (.builtin "getset_descriptor.__get__") [.builtin "object.__class__", .ref x, .ref D]) >>= ret) _ _ _
  refine wpAny_bind (wpAny_holding (wpAny_call (class_get (s := ⟨hp, g, d, t + 1, os⟩) (ox := ox) (od := od) X I c.hm (wpAny_pure ?_))))
  show wpAny _ _ (handedOut (.ref D)) _ _ _
  rw [handedOut_of (v := .ref D) rfl]
  first
    | exact wpAny_pure (wpAny_pure h)
    | exact wpAny_pure h
    | exact wpAny_pure (wpAny_bind (wpAny_pure (wpAny_pure h)))
end
end Vs
namespace Vs
open PySem PySem.Spec PySem.W
theorem kitx_any {K : Frag} {x D : Addr} {ox : Obj} (c : L2.ExcC K D) : KitX K (.ref x) (.ref D) (fun h => ∃ od, InstAt h x ox D od) := by
  obtain ⟨cd, hc, _⟩ := any_some c.hd
  have at1 : ∃ a b s, K.lookup D = some ⟨a, b, .cls cd, s⟩ := by
    unfold clsIn at hc
    split at hc
    · rename_i a b k s e
      cases hc
      exact ⟨a, b, s, e⟩
    · cases hc
  obtain ⟨oa, ob, os, lk⟩ := at1
  refine ⟨?_, ?_, ?_, ?_⟩
  · rintro M h X ⟨od, I⟩
    exact I.type
  · intro M h X _ A Q E s k q
    unfold isType loadHead
    exact wpAny_bind (wpAny_loadPart (k _ _ (X _ _ lk)) (wpAny_pure q))
  · intro h tp dd its n sl X e
    refine Bool.eq_false_iff.mpr fun q => ?_
    obtain rfl : D = tp := Value.ref.inj (beq_iff_eq.mp q)
    have z := (X _ _ lk).symm.trans e
    cases z
  · rintro pg w A E Q s X ⟨od, I⟩ h
    exact class_asked c X I h
end Vs
namespace Vs
open PySem PySem.Spec PyProof.Rows L2 L2H
section
variable {X : Cx} {p : Addr × Obj} {D : Addr} {d : Option Addr}
/-- isinstance(e, c), e handled here, its dict (if any) as an exception's dict -/
def rIsP (K : PySem.W.Frag) (D a : Addr) (d : Option Addr) : List V → Hp → VK → Prop := fun xs H Q => (∀ b, d = some b → ∃ fs, H b = some (.xd fs)) ∧ rIsE K D a xs H Q
def rTsP (K : PySem.W.Frag) (D a : Addr) (d : Option Addr) : List V → Hp → VK → Prop := fun xs H Q => (∀ b, d = some b → ∃ fs, H b = some (.xd fs)) ∧
  ∃ (tp : Addr) (cs : List V) (us : List Value) (b : Bool), xs = [.ref a, .ref tp] ∧ H tp = some (.tup cs) ∧ Paired ClsV cs us ∧ PySem.W.kitAny K (.ref D) us = some b ∧ Q (.bl b) H
theorem inst_any {ps : List (Addr × Obj)} {z : Shared} {τ : L2.St} {G : Hp} (J : Inv X ps τ G z) (hp : p ∈ X.pn) (hz : Zc (.ref D) d p.2) (hf : ∃ vs, p.2.data = .fields vs) (hd : ∀ b, d = some b → ∃ fs, G b = some (.xd fs)) : ∃ od, PySem.W.InstAt z.heap p.1 p.2 D od := by
  have at1 := (J.pin p (List.mem_append_left _ hp)).1
  obtain ⟨a, oc, ob, dt, sl⟩ := p
  obtain ⟨e1, e2⟩ := hz
  obtain ⟨vs, e3⟩ := hf
  dsimp only at e1 e2 e3 at1
  subst e1 e2 e3
  cases ob with
  | none => exact ⟨none, at1, rfl, rfl, trivial⟩
  | some b =>
    obtain ⟨fs, e⟩ := hd b rfl
    obtain ⟨mA, ⟨o, es, ep, e4, _⟩, _⟩ := (show ObjOk _ _ G z.heap b (.xd fs) from J.hok b _ e)
    exact ⟨some o, at1, rfl, rfl, e4⟩
theorem call_isQ (hp : p ∈ X.pn) (c : ExcC X.K D) (hz : Zc (.ref D) d p.2) (hf : ∃ vs, p.2.data = .fields vs) : CallR X (.builtin "isinstance") (rIsP X.K D p.1 d) := by
  intro ps z τ G xs us Q J r h
  obtain ⟨hd, y, cv, b, rfl, one, e, q⟩ := h
  obtain ⟨u1, u2, rfl, r1, r2⟩ := vals2 r
  cases (show u1 = Value.ref p.1 from r1)
  cases one _ r2
  refine PySem.W.kia_one (kitx_any (x := p.1) (ox := p.2) c) J.kIn (inst_any J hp hz hf hd) e (fun y => nomatch y) fun tk => ?_
  exact ⟨.bl b, G, J.kept (t' := tk) fun _ _ y => y, rfl, q⟩
theorem call_isQT (hp : p ∈ X.pn) (c : ExcC X.K D) (hz : Zc (.ref D) d p.2) (hf : ∃ vs, p.2.data = .fields vs) : CallR X (.builtin "isinstance") (rTsP X.K D p.1 d) := by
  intro ps z τ G xs us Q J r h
  obtain ⟨hd, tp, cs, ws, b, rfl, ht, kc, kt, q⟩ := h
  obtain ⟨u1, u2, rfl, r1, r2⟩ := vals2 r
  cases (show u1 = Value.ref p.1 from r1)
  cases (show u2 = Value.ref tp from r2)
  obtain ⟨_, its, rv, o, o1, o2, n, o3⟩ := (show ObjOk _ _ G z.heap tp (.tup cs) from J.hok tp _ ht)
  have eqs := ClsV.all kc rv
  subst eqs
  obtain ⟨oc, od, dt, sl⟩ := o
  simp only at o2 o3
  subst o2 o3
  refine PySem.W.kia_tup (kitx_any (x := p.1) (ox := p.2) c) J.kIn (inst_any J hp hz hf hd) o1 kt (fun y => nomatch y) fun tk => ?_
  exact ⟨.bl b, G, J.kept (t' := tk) fun _ _ y => y, rfl, q⟩
end
end Vs
/-! ## list.count, flat items -/
namespace Vs
open PySem PySem.Spec PyProof.Rows L2
section
variable {X : Cx}
def rCountF (K : PySem.W.Frag) : V → List V → Hp → VK → Prop := fun x xs H Q => ∃ (a : Addr) (ys : List V) (y : V), x = .ref a ∧ xs = [y] ∧ SqL K H a ys ∧ flatV y = true ∧ ys.all flatV = true ∧ Q (.int ((ys.countP fun z => eqV z y : Nat) : Int)) H
theorem countF_eq {y : V} {ys : List V} {its : List Value} (rv : Vals ys its) (fl : ys.all flatV = true) : its.countP (eqU y) = ys.countP fun z => eqV z y := by
  induction rv with
  | nil => rfl
  | cons r t ih =>
    rw [List.all_cons, Bool.and_eq_true] at fl
    rw [List.countP_cons, List.countP_cons, ih fl.2, eqU_of r fl.1]
theorem mt_countF : MtR X "list.count" (rCountF X.K) := by
  intro pins z τ G x xs v us Q I rx rxs h
  obtain ⟨a, ys, y, rfl, rfl, hs, fy, fys, q⟩ := h
  cases rx
  obtain ⟨u, rfl, ry⟩ := rxs.one
  obtain ⟨its, rv, ⟨⟨cls, dd, data, sl⟩, n, ho, hc, hdn, hd⟩, hlen⟩ := I.list hs
  simp only at hc hd
  subst hc hd
  refine call_meets PySem.F.slot_list_count ⟨_, ho, rfl⟩ PySem.F.entry_list_count (PySem.F.args_list_count_2 _ _) (SeqAt.list_countAt a its.toArray n dd sl u (eqU y)) ⟨ho, ?_, ?_⟩
  · intro t m
    exact mem_eqAt ry fy rv fys t (by simpa using m)
  · refine ⟨.int ((ys.countP fun z => eqV z y : Nat) : Int), G, I.tok _, ⟨z.toks, ?_⟩, q⟩
    show Value.int ((its.toArray.toList.countP (eqU y) : Nat) : Int) z.toks = _
    rw [show its.toArray.toList = its from by simp, countF_eq rv fys]
end
end Vs
/-! ## _law_word -/
namespace Vs
open PySem L2 L2H
abbrev nWord : List Str := ["_law_e", "_law_kinds"]
theorem sc_word : FnScope nWord ["_law_e"] (defScope s__law_word) := ⟨rfl, rfl, rfl, by decide +kernel, rfl, by decide +kernel, by decide +kernel⟩
/-- the class D is the i-th kind -/
structure WordF (K : PySem.W.Frag) (U : Es) (bt D : Addr) (i : Nat) : Prop where
  ec : ExcC K D
  k0 : PySem.W.kitOne K (.ref D) (.ref U.noHand) = some (i == 0)
  k1 : PySem.W.kitOne K (.ref D) (.ref U.noBranch) = some (i == 1)
  k2 : PySem.W.kitOne K (.ref D) (.ref U.dropped) = some (i == 2)
  k3 : PySem.W.kitOne K (.ref D) (.ref U.clash) = some (i == 3)
  k4 : PySem.W.kitAny K (.ref D) [.ref U.badKey, .ref bt, .ref U.noCell] = some (i == 4)
  ve : PySem.W.kitOne K (.ref D) (.type "ValueError") = some true
  lt : i < 5
def wordS (i : Nat) : Str := (["hand", "branch", "dropped", "clash", "other"] : List Str).getD i "other"
def spWord (K : PySem.W.Frag) (U : Es) (bt : Addr) : SpP := fun p vs H Q _ => ∃ (D : Addr) (d : Option Addr) (i : Nat), vs = [.ref p.1] ∧ WordF K U bt D i ∧ Zc (.ref D) d p.2 ∧ (∃ fs, p.2.data = .fields fs) ∧ (∀ b, d = some b → ∃ fs, H b = some (.xd fs)) ∧ ∀ H', Sm H H' → Q (.str (wordS i)) H'
section
variable {P : Program} {w : World} {K : PySem.W.Frag} {mg : Str → Option Value} {base : Heap} {T : Cs} {U : Es} {Pt : Addr}
theorem ok_word {f bt : Addr} {fd : FuncData} (F : Fun K "_law_word" "_law_word" s__law_word f fd) (B : Bt mg) (X : Ex K mg U) (gn : mg "NoCell" = some (.ref U.noCell)) (gc : mg "Clash" = some (.ref U.clash)) (gb : mg "BadText" = some (.ref bt)) (gv : mg "ValueError" = none) :
    FnP P w K mg base CX0 1 f fd ["_law_e"] (spWord K U bt) := by
  refine F.okP sc_word (fun p vs H Q E h => ?_) (fun cdv A outer s H vs Q E p h1 hr h => ?_)
  · obtain ⟨D, d, i, rfl, _⟩ := h
    rfl
  · obtain ⟨D, d, i, rfl, W, hz, hf, hd, kq⟩ := h
    have hp : p ∈ (cxH CX0 P w K mg base nWord "_law_word" (defScope s__law_word) f cdv A outer s H E p).pn := List.mem_cons_self
    refine ⟨_, pss_cons (ps_set (i := 1) sc_word.nd rfl (.inl rfl) (pe_lst (pa_cons (pe_callB (call_isQ hp W.ec hz hf) (by rfl) B.isinstance (by decide +kernel) (pa_cons (pv 0) (pa_cons (pe_glob (v := .ref U.noHand) rfl X.noHand.g rfl) pa_nil)))
        (pa_cons (pe_callB (call_isQ hp W.ec hz hf) (by rfl) B.isinstance (by decide +kernel) (pa_cons (pv 0) (pa_cons (pe_glob (v := .ref U.noBranch) rfl X.noBranch.g rfl) pa_nil)))
        (pa_cons (pe_callB (call_isQ hp W.ec hz hf) (by rfl) B.isinstance (by decide +kernel) (pa_cons (pv 0) (pa_cons (pe_glob (v := .ref U.dropped) rfl X.dropped.g rfl) pa_nil)))
        (pa_cons (pe_callB (call_isQ hp W.ec hz hf) (by rfl) B.isinstance (by decide +kernel) (pa_cons (pv 0) (pa_cons (pe_glob (v := .ref U.clash) rfl gc rfl) pa_nil))) pa_nil))))))
      (pss_cons (ps_expr (pe_bm PySem.F.plainAttrs_list PySem.F.slot_list_append PySem.F.type_list_append mt_append (pv 1) (pa_cons (pe_callB (call_isQT hp W.ec hz hf) (by rfl) B.isinstance (by decide +kernel) (pa_cons (pv 0)
        (pa_cons (pe_tup (pa_cons (pe_glob (v := .ref U.badKey) rfl X.badKey.g rfl) (pa_cons (pe_glob (v := .ref bt) rfl gb rfl) (pa_cons (pe_glob (v := .ref U.noCell) rfl gn rfl) pa_nil)))) pa_nil))) pa_nil)))
      (pss_cons (ps_if (PW.pt (pw_or (pt_not (pt_val (pe_callB (call_isQ hp W.ec hz hf) (by rfl) B.isinstance (by decide +kernel) (pa_cons (pv 0) (pa_cons (pe_bltn (v := .ty "ValueError") (by rfl) gv (by decide +kernel) rfl) pa_nil)))))
          (pw_or1 (pt_cmpR op_ne (pe_bm PySem.F.plainAttrs_list PySem.F.slot_list_count PySem.F.type_list_count mt_countF (pv 1) (pa_cons pe_bl pa_nil)) pe_int (nomark _))))) (pss_one (ps_ret pe_str)) pss_nil)
      (pss_one (ps_ret (pe_ix ix_list (pe_lst (pa_cons pe_str (pa_cons pe_str (pa_cons pe_str (pa_cons pe_str (pa_cons pe_str pa_nil)))))) (pe_bm PySem.F.plainAttrs_list PySem.F.slot_list_index PySem.F.type_list_index mt_index (pv 1) (pa_cons pe_bl pa_nil)) (fun _ _ => rfl)))))), ?_⟩
    refine ⟨_, rfl, hd, _, _, _, rfl, fun u hu => hu, W.k0, ?_⟩
    refine ⟨_, rfl, hd, _, _, _, rfl, fun u hu => hu, W.k1, ?_⟩
    refine ⟨_, rfl, hd, _, _, _, rfl, fun u hu => hu, W.k2, ?_⟩
    refine ⟨_, rfl, hd, _, _, _, rfl, fun u hu => hu, W.k3, ?_⟩
    refine ⟨by show 4 ≤ sizeLine; decide, fun a ha => ?_⟩
    have s1 : Sm H (upd H a (.lst [.bl (i == 0), .bl (i == 1), .bl (i == 2), .bl (i == 3)])) := Sm.new ha
    have e1 : upd H a (.lst [.bl (i == 0), .bl (i == 1), .bl (i == 2), .bl (i == 3)]) a = some (.lst [.bl (i == 0), .bl (i == 1), .bl (i == 2), .bl (i == 3)]) := upd_same
    have d1 : ∀ b, d = some b → ∃ fs, upd H a (.lst [.bl (i == 0), .bl (i == 1), .bl (i == 2), .bl (i == 3)]) b = some (.xd fs) := fun b e => by
      obtain ⟨fs, h⟩ := hd b e
      exact ⟨fs, by rw [upd_ne (ne_of_none h ha)]; exact h⟩
    refine ⟨_, rfl, .inl ⟨rfl, _, SqL.of e1⟩, ?_⟩
    generalize upd H a (.lst [.bl (i == 0), .bl (i == 1), .bl (i == 2), .bl (i == 3)]) = H1 at s1 e1 d1
    refine ⟨_, rfl, by show 3 ≤ sizeLine; decide, fun t ht => ?_⟩
    have s2 : Sm H (upd H1 t (.tup [.ref U.badKey, .ref bt, .ref U.noCell])) := s1.trans (Sm.new ht)
    have e2 : upd H1 t (.tup [.ref U.badKey, .ref bt, .ref U.noCell]) a = some (.lst [.bl (i == 0), .bl (i == 1), .bl (i == 2), .bl (i == 3)]) := by rw [upd_ne (ne_of_none e1 ht)]; exact e1
    have t2 : upd H1 t (.tup [.ref U.badKey, .ref bt, .ref U.noCell]) t = some (.tup [.ref U.badKey, .ref bt, .ref U.noCell]) := upd_same
    have d2 : ∀ b, d = some b → ∃ fs, upd H1 t (.tup [.ref U.badKey, .ref bt, .ref U.noCell]) b = some (.xd fs) := fun b e => by
      obtain ⟨fs, h⟩ := d1 b e
      exact ⟨fs, by rw [upd_ne (ne_of_none h ht)]; exact h⟩
    generalize upd H1 t (.tup [.ref U.badKey, .ref bt, .ref U.noCell]) = H2 at s2 e2 t2 d2
    refine ⟨d2, t, _, _, _, rfl, t2, .cons (.own _) (.cons (.own _) (.cons (.own _) .nil)), W.k4, ?_⟩
    refine ⟨a, _, _, rfl, rfl, e2, by show 4 < sizeLine; decide, ?_⟩
    have s3 : Sm H (upd H2 a (.lst ([.bl (i == 0), .bl (i == 1), .bl (i == 2), .bl (i == 3)] ++ [.bl (i == 4)]))) := Sm.own (Sm.refl H) ha s2 e2 (fun _ z => by cases z) _
    have e3 : upd H2 a (.lst ([.bl (i == 0), .bl (i == 1), .bl (i == 2), .bl (i == 3)] ++ [.bl (i == 4)])) a = some (.lst [.bl (i == 0), .bl (i == 1), .bl (i == 2), .bl (i == 3), .bl (i == 4)]) := upd_same
    have d3 : ∀ b, d = some b → ∃ fs, upd H2 a (.lst ([.bl (i == 0), .bl (i == 1), .bl (i == 2), .bl (i == 3)] ++ [.bl (i == 4)])) b = some (.xd fs) := fun b e => by
      obtain ⟨fs, h⟩ := d2 b e
      exact ⟨fs, by rw [upd_ne (ne_of h e2 (fun z => by cases z))]; exact h⟩
    generalize upd H2 a (.lst ([.bl (i == 0), .bl (i == 1), .bl (i == 2), .bl (i == 3)] ++ [.bl (i == 4)])) = H3 at s3 e3 d3
    refine ⟨_, rfl, d3, _, _, true, rfl, fun u hu => hu, W.ve, ?_⟩
    refine ⟨_, rfl, ifF rfl ?_⟩
    refine ⟨_, rfl, .inl ⟨rfl, _, SqL.of e3⟩, ?_⟩
    refine ⟨a, _, _, rfl, rfl, SqL.of e3, rfl, rfl, ?_⟩
    have c1 : ([.bl (i == 0), .bl (i == 1), .bl (i == 2), .bl (i == 3), .bl (i == 4)] : List V).countP (fun z => eqV z (.bl true)) = 1 := by
      have := W.lt
      rcases (by omega : i = 0 ∨ i = 1 ∨ i = 2 ∨ i = 3 ∨ i = 4) with z | z | z | z | z <;> subst z <;> decide
    rw [c1]
    refine ⟨rfl, _, rfl, ifF (by rw [dec_int]; rfl) ?_⟩
    refine ⟨by show 5 ≤ sizeLine; decide, fun q hq => ?_⟩
    have s4 : Sm H (upd H3 q (.lst [.str "hand", .str "branch", .str "dropped", .str "clash", .str "other"])) := s3.trans (Sm.new hq)
    have q4 : upd H3 q (.lst [.str "hand", .str "branch", .str "dropped", .str "clash", .str "other"]) q = some (.lst [.str "hand", .str "branch", .str "dropped", .str "clash", .str "other"]) := upd_same
    have e4 : upd H3 q (.lst [.str "hand", .str "branch", .str "dropped", .str "clash", .str "other"]) a = some (.lst [.bl (i == 0), .bl (i == 1), .bl (i == 2), .bl (i == 3), .bl (i == 4)]) := by rw [upd_ne (ne_of_none e3 hq)]; exact e3
    generalize upd H3 q (.lst [.str "hand", .str "branch", .str "dropped", .str "clash", .str "other"]) = H4 at s4 q4 e4
    refine ⟨_, rfl, .inl ⟨rfl, _, SqL.of e4⟩, ?_⟩
    refine ⟨a, _, _, i, .bl true, rfl, rfl, SqL.of e4, rfl, rfl, ?_, rfl, ?_, ?_⟩
    · have := W.lt
      rcases (by omega : i = 0 ∨ i = 1 ∨ i = 2 ∨ i = 3 ∨ i = 4) with z | z | z | z | z <;> subst z <;> rfl
    · intro m z' hm hz'
      have := W.lt
      rcases (by omega : i = 0 ∨ i = 1 ∨ i = 2 ∨ i = 3 ∨ i = 4) with z | z | z | z | z <;> subst z <;> (rcases (by omega : m = 0 ∨ m = 1 ∨ m = 2 ∨ m = 3) with y | y | y | y <;> subst y <;> first | omega | (cases hz'; rfl))
    refine ⟨q, _, _, .str (wordS i), rfl, rfl, SqL.of q4, atI_nat ?_, kq H4 s4⟩
    have := W.lt
    rcases (by omega : i = 0 ∨ i = 1 ∨ i = 2 ∨ i = 3 ∨ i = 4) with z | z | z | z | z <;> subst z <;> rfl
end
end Vs
/-! ## defs of the shelf, where an exception is handled -/
namespace Vs
open PySem L2 L2H
theorem hu_ofH {k : Nat} {A : Around} {env : Env} (h : RoomH k (A.deeper env)) : (A.deeper env).units + 1 < cLine := by
  have := h.un
  omega
section
variable {P : Program} {w : World} {K : PySem.W.Frag} {mg : Str → Option Value} {base : Heap} {T : Cs} {U : Es} {Pt : Addr}
theorem hot_newest {f : Addr} {fd : FuncData} (F : Fun K "newest" "newest" s_newest f fd) (B : Bt mg) : FnH P w K mg base CX0 1 f fd ["line", "moment"] (spNewest K) := by
  refine F.okH sc_newest (fun vs H Q E h => ?_) (fun cdv A outer s H vs Q E p h1 hr h => ?_)
  · obtain ⟨a, m, rs, l, rfl, _⟩ := h
    rfl
  · obtain ⟨a, m, rs, l, rfl, hS, hC, hR, k⟩ := h
    refine ⟨_, pss_cons (ps_set (i := 2) sc_newest.nd rfl (.inl rfl) pe_int)
      (pss_cons (ps_set (i := 3) sc_newest.nd rfl (.inl rfl) (pe_callB call_len_seq (by rfl) B.len PySem.boot_len (pa_cons (pv 0) pa_nil)))
      (pss_cons (ps_while (passes_of rfl) (pt_cmpR op_lt (pv 2) (pv 3) (nomark _))
        (pss_cons (ps_set (i := 4) sc_newest.nd rfl (.inl rfl) (pe_op op_fdiv (pe_op op_add (pv 2) (pv 3)) pe_int))
        (pss_one (ps_if (pt_cmpR op_le (pe_ix ix_tup (pe_ix ix_list (pv 0) (pv 4) (fun _ _ => rfl)) pe_int (fun _ _ => rfl)) (pv 1) (nomark _))
          (pss_one (ps_set (i := 2) sc_newest.nd rfl (.inl rfl) (pe_op op_add (pv 4) pe_int)))
          (pss_one (ps_set (i := 3) sc_newest.nd rfl (.inl rfl) (pv 4)))))))
      (pss_one (ps_ret (pe_op op_sub (pv 2) pe_int))))), ?_⟩
    refine ⟨_, rfl, a, _, rfl, .inl hS, ?_⟩
    have hlen := hC.length
    refine while_by (fun σ H1 => H1 = H ∧ ∃ (lo hi : Nat) (x : Option V), σ = [some (.ref a), some (.int m), some (.int lo), some (.int hi), x] ∧ lo ≤ hi ∧ hi ≤ l.length ∧
        (∀ i c, l[i]? = some c → i < lo → c.1 ≤ m) ∧ (∀ i c, l[i]? = some c → hi ≤ i → ¬ c.1 ≤ m))
      (fun σ _ => match σ with | [_, _, some (.int lo), some (.int hi), _] => (hi - lo).toNat | _ => 0)
      ⟨rfl, 0, l.length, none, by rw [hlen]; rfl, Nat.zero_le _, Nat.le_refl _, fun i c _ h => absurd h (Nat.not_lt_zero _), fun i c e h => by
        have := (List.getElem?_eq_some_iff.mp e).1; omega⟩ ?_ ?_
    · rintro σ H1 ⟨rfl, lo, hi, x, rfl, h1, h2, h3, h4⟩
      refine ⟨_, rfl, _, rfl, _, _, rfl, rfl, _, rfl, ?_⟩
      by_cases hlt : lo < hi
      · refine ifT (decide_eq_true (by omega)) ?_
        refine ⟨_, rfl, _, rfl, _, _, rfl, rfl, _, _, rfl, rfl, ⟨by decide, by decide⟩, ?_⟩
        have hmid : ((lo : Int) + (hi : Int)) / 2 = (((lo + hi) / 2 : Nat) : Int) := by omega
        obtain ⟨mid, hm⟩ : ∃ mid, mid = (lo + hi) / 2 := ⟨_, rfl⟩
        dsimp only
        rw [hmid, ← hm]
        have hmid1 : lo ≤ mid ∧ mid < hi := by omega
        have hmlt : mid < l.length := by omega
        obtain ⟨t, ht1, ht2⟩ := hC.get (i := mid) (c := l[mid]) (List.getElem?_eq_getElem hmlt)
        refine ⟨_, rfl, _, rfl, a, _, _, _, rfl, rfl, hS, atI_nat ht1, t, _, _, _, rfl, rfl, SqT.of ht2, rfl, _, rfl, _, _, rfl, rfl, _, rfl, ?_⟩
        refine ite2 (fun c => ?_) (fun c => ?_)
        · have c' : l[mid].1 ≤ m := by simpa using c
          refine ⟨_, rfl, _, _, rfl, rfl, ⟨rfl, mid + 1, hi, _, rfl, by omega, h2, fun i x e hi' => ?_, h4⟩, ?_⟩
          · by_cases z : i = mid
            · subst z; rw [List.getElem?_eq_getElem hmlt] at e; cases e; exact c'
            · have := hR.get e (List.getElem?_eq_getElem hmlt) (by omega); omega
          · show ((hi : Int) - ((mid : Int) + 1)).toNat < ((hi : Int) - (lo : Int)).toNat
            omega
        · have c' : ¬ l[mid].1 ≤ m := by simpa using c
          refine ⟨_, rfl, ⟨rfl, lo, mid, _, rfl, by omega, by omega, h3, fun i x e hi' => ?_⟩, ?_⟩
          · by_cases z : i = mid
            · subst z; rw [List.getElem?_eq_getElem hmlt] at e; cases e; exact c'
            · have := hR.get (List.getElem?_eq_getElem hmlt) e (by omega); omega
          · show ((mid : Int) - (lo : Int)).toNat < ((hi : Int) - (lo : Int)).toNat
            omega
      · refine ifF (decide_eq_false (by omega)) ?_
        have e : cnt l m = lo := cnt_split (by omega) h3 (fun i c e hi' => h4 i c e (by omega))
        refine ⟨_, rfl, _, _, rfl, rfl, ?_⟩
        rw [← e]; exact k
    · rintro σ H1 Q1 Q2 hq ⟨v, e, v', e', i, j, h5, h6, b, h7, h8⟩
      exact ⟨v, e, v', e', i, j, h5, h6, b, h7, hq _ _ h8⟩
end
end Vs
namespace Vs
open PySem L2 L2H
theorem passH0 {X : Cx} {σ : L2.St} : PassesAt CX0 X σ E0 := fun _ _ _ _ _ _ h => h.elim
section
variable {P : Program} {w : World} {K : PySem.W.Frag} {mg : Str → Option Value} {base : Heap} {T : Cs} {U : Es} {Pt : Addr}
theorem hot_seen_value {f : Addr} {fd : FuncData} (F : Fun K "seen_value" "seen_value" s_seen_value f fd) (B : Bt mg) (C : Cf K T) {f1 : Addr} {fd1 : FuncData} (A1 : At K mg "newest" s_newest ["line", "moment"] f1 fd1) :
    FnH P w K mg base CX0 2 f fd ["branches", "number", "moment", "key"] (spSeen T) := by
  have G1 : FnH P w K mg base CX0 1 f1 fd1 ["line", "moment"] (spNewest K) := hot_newest A1.F B
  refine F.okH sc_seen_value (fun vs H Q E h => ?_) (fun cdv A outer s H vs Q E hp hot hr h => ?_)
  · obtain ⟨Ks, S, α, δ, J, G, n, m, k, rfl, _⟩ := h
    rfl
  · obtain ⟨Ks, S, α, δ, J, G, n, m, k, rfl, L, W, ⟨b0, hb0⟩, kq⟩ := h
    have hu := hu_ofH hr
    refine ⟨_, pss_cons (ps_while (passes_of rfl) (pt_cmpR op_notN (pv 1) pe_non (nomark _))
        (pss_cons (ps_set (i := 4) sc_seen_value.nd rfl (.inl rfl) (pe_dget hu (pv 0) (pv 1) (fun _ _ => rfl)))
        (pss_cons (ps_set (i := 5) sc_seen_value.nd rfl (.inl rfl) (pe_dget2 hu (pe_fld (pv 4) rfl) (pv 3) (pe_lst pa_nil) ⟨rfl, rfl, rfl, rfl⟩))
        (pss_cons (ps_set (i := 6) sc_seen_value.nd rfl (.inl rfl) (pe_callH G1 hr (hotC_cxH hot) rfl A1.g A1.k A1.b (fun _ => passH0) (pa_cons (pv 5) (pa_cons (pv 2) pa_nil))))
        (pss_cons (ps_if (pt_cmpR op_ge (pv 6) pe_int (nomark _)) (pss_one (ps_ret (pe_ix ix_tup (pe_ix ix_list (pv 5) (pv 6) (fun _ _ => rfl)) pe_int (fun _ _ => rfl)))) pss_nil)
        (pss_cons (ps_set (i := 1) sc_seen_value.nd rfl (.inl rfl) (pe_fld (pv 4) rfl))
        (pss_one (ps_set (i := 2) sc_seen_value.nd rfl (.inl rfl) (pe_fld (pv 4) rfl)))))))))
      (pss_one (ps_ret pe_non)), ?_⟩
    refine while_by (fun σ H1 => Sm H H1 ∧ ∃ (x y z : Option V) (num : Option Int) (mo : Int), σ = [some (.ref (α .brs)), some (optV num), some (.int mo), some (.str k), x, y, z] ∧
        match num with
        | none => seesM S k n m = none
        | some q => (∃ b, aget S.brs q = some b) ∧ seesM S k n m = seesM S k q mo)
      (fun σ _ => match σ with | [_, some (.int q), _, _, _, _, _] => q.toNat + 1 | _ => 0)
      ⟨Sm.refl H, none, none, none, some n, m, rfl, ⟨b0, hb0⟩, rfl⟩ ?_ ?_
    · rintro σ H1 ⟨s1, x, y, z, num, mo, rfl, hn⟩
      cases num with
      | none =>
        refine ⟨_, rfl, rfl, _, rfl, ifF rfl ?_⟩
        have := kq H1 s1
        rw [show seesM S k n m = none from hn] at this
        exact this
      | some q =>
        obtain ⟨⟨b, hb⟩, he⟩ := hn
        refine ⟨_, rfl, rfl, _, rfl, ifT rfl ?_⟩
        have L1 := L.sm s1
        refine ⟨_, rfl, _, rfl, _, _, rfl, L1.gBr1 hb, ?_⟩
        refine ⟨_, rfl, _, _, _, _, _, rfl, L1.br hb, C.B, C.bLn, rfl, _, rfl, .inl ⟨_, L1.lnsR hb⟩, _, rfl, by show 0 ≤ sizeLine; exact Nat.zero_le _, fun p hp => ?_⟩
        have s2 := Sm.new (o := .lst []) hp
        obtain ⟨o, rs, a, g1, g2, g3, g4, _⟩ := L1.getLine hb k s2 upd_same
        refine ⟨o, g1, ?_⟩
        rw [g2]
        refine ⟨_, rfl, _, rfl, a, mo, rs, b.line k, rfl, SqL.of g3, g4, W.rise hb k, ?_⟩
        have L2 := L1.sm s2
        have hR := reachS_of W k mo hb
        cases hc : cnt (b.line k) mo with
        | zero =>
          rw [newC_none.mpr hc] at hR
          refine ⟨_, rfl, _, _, rfl, rfl, _, rfl, ifF (by rfl) ?_⟩
          refine ⟨_, rfl, _, _, _, _, _, rfl, L2.br hb, C.B, C.bBen, rfl, ?_⟩
          refine ⟨_, rfl, _, _, _, _, _, rfl, L2.br hb, C.B, C.bMom, rfl, ?_⟩
          refine ⟨⟨s1.trans s2, _, _, _, b.ben, b.mom, rfl, ?_⟩, ?_⟩
          · cases hq : b.ben with
            | none =>
              show seesM S k n m = none
              rw [he]; unfold seesM; rw [hR]; unfold belowS; rw [hq]; rfl
            | some q' =>
              refine ⟨(W.ben q b q' hb hq).2, ?_⟩
              rw [he]; unfold seesM; rw [hR]; unfold belowS; rw [hq]
          · cases hq : b.ben with
            | none => exact Nat.succ_pos _
            | some q' =>
              have h1 := (W.ben q b q' hb hq).1
              obtain ⟨c, hc'⟩ := (W.ben q b q' hb hq).2
              have h2 := (W.bnd q' c hc').1
              show q'.toNat + 1 < q.toNat + 1
              omega
        | succ j =>
          obtain ⟨c, c1, c2, c3⟩ := newC_at (W.rise hb k) hc
          rw [c2] at hR
          obtain ⟨t, t1, t2⟩ := g4.get c1
          refine ⟨_, rfl, _, _, rfl, rfl, _, rfl, ifT (decide_eq_true (by omega)) ?_⟩
          refine ⟨_, rfl, _, rfl, a, _, _, _, rfl, rfl, SqL.of g3, (by rw [show (((j + 1 : Nat) : Int) - 1) = (j : Int) by omega]; exact atI_nat t1), t, _, _, _, rfl, rfl, SqT.of t2, rfl, ?_⟩
          have := kq _ (s1.trans s2)
          rw [he] at this
          unfold seesM at this
          rw [hR] at this
          exact this
    · rintro σ H1 Q1 Q2 hq ⟨v, e, h1, b, h2, h3⟩
      exact ⟨v, e, h1, b, h2, hq _ _ h3⟩
end
end Vs
namespace Vs
open PySem L2 L2H
section
variable {P : Program} {w : World} {K : PySem.W.Frag} {mg : Str → Option Value} {base : Heap} {T : Cs} {U : Es} {Pt : Addr}
theorem hot_hand_there {f : Addr} {fd : FuncData} (F : Fun K "hand_there" "Shelf.hand_there" s_Shelf_hand_there f fd) (C : Cf K T) (X : Ex K mg U) : FnH P w K mg base (L2.CX P w) 1 f fd ["self", "hand"] (spHandThere T U) := by
  refine F.okH sc_hand_there (fun vs H Q E h => ?_) (fun cdv A outer s H vs Q E hp hot hr h => ?_)
  · obtain ⟨S, α, δ, J, G, n, rfl, _⟩ := h
    rfl
  · obtain ⟨S, α, δ, J, G, n, rfl, L, hn, q1, q2⟩ := h
    have hu := hu_ofH hr
    refine ⟨_, pss_cons (ps_if (pt_cmp (pc_dnotin hu (pv 1) (pe_fld (pv 0) rfl)))
      (pss_one (ps_raiseH (hotC_cxH hot) (L2.takes_of rfl rfl rfl rfl) (pmkN_own PySem.F.excBase_ValueError X.noHand.x X.noHand.g X.noHand.k (raises_own X.noHand.b X.noHand.t) rfl (pa_cons (pe_joined (.cons pe_str (.cons (pe_fmt (pv 1)) .nil))) pa_nil)))) pss_nil)
      (pss_one (ps_ret (pe_dget hu (pe_fld (pv 0) rfl) (pv 1) (fun _ _ => rfl)))), ?_⟩
    have hg := L.gHn n
    refine ⟨_, rfl, _, rfl, _, _, _, _, _, rfl, L.sh, C.S, C.sHns, rfl, _, _, rfl, hg, _, rfl, ?_⟩
    cases hh : aget S.hns n with
    | none =>
      have f1 := fit1 (b := ("there is no hand " : Str)) (by decide +kernel)
      have f2 := fit2 (b := Str.ofString (toString n)) f1.1 (by have := text_small hn; omega)
      exact ifT rfl ⟨_, rfl, f1.2, _, rfl, .inr ⟨n, rfl, log2_small hn, _, rfl, f2.2, by show 1 ≤ sizeLine; decide, q2 hh⟩⟩
    | some h =>
      refine ifF rfl ⟨_, rfl, _, _, _, _, _, rfl, L.sh, C.S, C.sHns, rfl, _, rfl, _, _, rfl, L.gHn1 hh, q1 h hh⟩
end
end Vs
namespace Vs
open PySem L2 L2H
section
variable (P : Program) (w : World) (K : PySem.W.Frag) (mg : Str → Option Value) (base : Heap)
def FxH (CX : CXT) (x : Str) (k : Nat) (ps : List Str) (sp : Sp) : Prop := ∃ (f : Addr) (fd : FuncData), mg x = some (.ref f) ∧ PySem.W.keepIn K (.ref f) = true ∧ Binds K fd ps [] ∧ FnH P w K mg base CX k f fd ps sp
def MxH (CX : CXT) (C : Addr) (x : Str) (k : Nat) (ps : List Str) (sp : Sp) : Prop := ∃ (f : Addr) (fd : FuncData), Meth K C x f ∧ Binds K fd ps [] ∧ FnH P w K mg base CX k f fd ps sp
end
theorem passAtH {X : Cx} {W : WX} (tk : L2.Takes X W) (σ : L2.St) : PassesAt (L2.CX X.prog X.w) X σ (WE W σ) := L2.passAt tk σ
section
variable {P : Program} {w : World} {K : PySem.W.Frag} {mg : Str → Option Value} {base : Heap} {T : Cs} {U : Es} {Pt : Addr}
theorem hot_seen_by_hand {f : Addr} {fd : FuncData} (F : Fun K "seen_by_hand" "seen_by_hand" s_seen_by_hand f fd) (C : Cf K T) (c1 : FxH P w K mg base CX0 "seen_value" 2 ["branches", "number", "moment", "key"] (spSeen T)) :
    FnH P w K mg base CX0 3 f fd ["branches", "hand", "key"] (spSeenHand T) := by
  obtain ⟨f1, fd1, g1, k1, b1, G1⟩ := c1
  refine F.okH sc_seen_by_hand (fun vs H Q E h => ?_) (fun cdv A outer s H vs Q E hp hot hr h => ?_)
  · obtain ⟨Ks, S, α, δ, J, G, n, h, k, rfl, _⟩ := h
    rfl
  · obtain ⟨Ks, S, α, δ, J, G, n, h, k, rfl, L, W, hh, kq⟩ := h
    have hu := hu_ofH hr
    refine ⟨_, pss_cons (ps_if (pt_cmp (pc_din hu (pv 2) (pe_fld (pv 1) rfl))) (pss_one (ps_ret (pe_dget hu (pe_fld (pv 1) rfl) (pv 2) (fun _ _ => rfl)))) pss_nil)
      (pss_one (ps_ret (pe_callH G1 hr (hotC_cxH hot) rfl g1 k1 b1 (fun _ => passH0) (pa_cons (pv 0) (pa_cons (pe_fld (pv 1) rfl) (pa_cons (pe_fld (pv 1) rfl) (pa_cons (pv 2) pa_nil))))))), ?_⟩
    have hg := L.gDr hh k
    refine ⟨_, rfl, _, rfl, _, _, _, _, _, rfl, L.hn hh, C.N, C.nDr, rfl, _, _, rfl, hg, _, rfl, ?_⟩
    unfold lookM at kq
    cases e : aget h.drafts k with
    | some v =>
      rw [e] at kq hg
      exact ifT rfl ⟨_, rfl, _, _, _, _, _, rfl, L.hn hh, C.N, C.nDr, rfl, _, rfl, _, _, rfl, hg, kq H (Sm.refl H)⟩
    | none =>
      rw [e] at kq
      refine ifF rfl ⟨_, rfl, _, rfl, _, _, _, _, _, rfl, L.hn hh, C.N, C.nBr, rfl, _, rfl, _, _, _, _, _, rfl, L.hn hh, C.N, C.nMom, rfl, _, rfl, ?_⟩
      exact ⟨Ks, S, α, δ, J, G, h.br, h.mom, k, rfl, L, W, (W.hn n h hh).2.2.1, kq⟩
theorem hot_is_key {f c Pt : Addr} {fd : FuncData} (F : FunC K "is_key" "is_key" s_is_key f fd c) (B : Bt mg) (D : Wd mg) (TB : GxR.TabB base mg c Pt) : FnH P w K mg base CX0 3 f fd ["text"] (spIsKey Pt) := by
  refine F.okH sc_is_key (fun vs H Q E h => ?_) (fun A outer s H vs Q E hp hot hr h => ?_)
  · obtain ⟨k, rfl, _⟩ := h
    rfl
  · obtain ⟨k, rfl, hl, hT, kq⟩ := h
    obtain ⟨t1, hL⟩ := D.letters
    obtain ⟨t2, hM⟩ := D.longest
    refine ⟨_, pss_one (ps_ret (pe_and (pe_chain op_le op_le pe_int (pe_callB call_len_str (by rfl) B.len PySem.boot_len (pa_cons (pv 0) pa_nil)) (pe_glob (v := .int 8) rfl hM ⟨_, rfl⟩))
      (pe_one (pe_allH hr (hotC_cxH hot) (by rfl) B.all (by decide +kernel) TB rfl ⟨rfl, rfl, by decide +kernel, rfl, rfl, noFree3⟩ (pv 0) (eltM_in rfl rfl rfl hL) (fun _ => rfl))))), ?_⟩
    refine ⟨_, rfl, _, rfl, hl, _, _, rfl, rfl, _, rfl, ?_⟩
    by_cases h1 : (1 : Int) ≤ k.length
    · refine ifT (decide_eq_true h1) ⟨_, _, rfl, rfl, _, rfl, ?_⟩
      by_cases h2 : (k.length : Int) ≤ 8
      · refine ifT (decide_eq_true h2) ⟨_, rfl, k, rfl, hT, fun H2 hTb => ?_⟩
        have := kq H2 (Sm.tabbed hT hTb)
        unfold isKeyB at this
        rw [decide_eq_true h1, decide_eq_true h2] at this
        exact this
      · refine ifF (decide_eq_false h2) ?_
        have := kq H (Sm.refl H)
        unfold isKeyB at this
        rw [decide_eq_true h1, decide_eq_false h2] at this
        exact this
    · refine ifF (decide_eq_false h1) ⟨_, rfl, ifF rfl ?_⟩
      have := kq H (Sm.refl H)
      unfold isKeyB at this
      rw [decide_eq_false h1] at this
      exact this
theorem hot_check_key {f : Addr} {fd : FuncData} (F : Fun K "check_key" "check_key" s_check_key f fd) (X : Ex K mg U) {f1 Pt : Addr} {fd1 : FuncData} (g1 : mg "is_key" = some (.ref f1)) (k1 : PySem.W.keepIn K (.ref f1) = true) (b1 : Binds K fd1 ["text"] [])
    (G1 : FnH P w K mg base CX0 3 f1 fd1 ["text"] (spIsKey Pt)) : FnH P w K mg base (L2.CX P w) 4 f fd ["key"] (spCheck U Pt) := by
  refine F.okH sc_check_key (fun vs H Q E h => ?_) (fun cdv A outer s H vs Q E hp hot hr h => ?_)
  · obtain ⟨k, rfl, _⟩ := h
    rfl
  · obtain ⟨k, rfl, hl, hT, kq⟩ := h
    refine ⟨_, pss_one (ps_if (pt_not (pt_val (pe_callH G1 hr (hotC_cxH hot) rfl g1 k1 b1 (fun _ => passH0) (pa_cons (pv 0) pa_nil))))
      (pss_one (ps_raiseH (hotC_cxH hot) (L2.takes_of rfl rfl rfl rfl) (pmkN_own PySem.F.excBase_ValueError X.badKey.x X.badKey.g X.badKey.k (raises_own X.badKey.b X.badKey.t) rfl (pa_cons (pe_joined (.cons (pe_fmt (pv 0)) (.cons pe_str .nil))) pa_nil)))) pss_nil), ?_⟩
    refine ⟨_, rfl, k, rfl, le2000 (by omega), hT, fun H' hs => ?_⟩
    obtain ⟨q1, q2⟩ := kq H' hs
    cases hk : isKeyB k with
    | true => exact ⟨_, rfl, ifF rfl (q1 hk)⟩
    | false =>
      have f1 := fit1 (b := k) (by omega)
      have f2 := fit2 (b := (" is no key" : Str)) f1.1 (by decide +kernel)
      exact ⟨_, rfl, ifT rfl ⟨_, rfl, .inl ⟨_, rfl, le2000 (by omega), _, rfl, f1.2, _, rfl, f2.2, by show 1 ≤ sizeLine; decide, q2 hk⟩⟩⟩
theorem hot_look {f : Addr} {fd : FuncData} (F : Fun K "look" "Shelf.look" s_Shelf_look f fd) (C : Cf K T) (c1 : MxH P w K mg base (L2.CX P w) T.S "hand_there" 1 ["self", "hand"] (spHandThere T U))
    (c2 : FxH P w K mg base (L2.CX P w) "check_key" 4 ["key"] (spCheck U Pt)) (c3 : FxH P w K mg base CX0 "seen_by_hand" 3 ["branches", "hand", "key"] (spSeenHand T)) :
    FnH P w K mg base (L2.CX P w) 5 f fd ["self", "hand", "key"] (spLook T U Pt) := by
  obtain ⟨f1, fd1, m1, b1, G1⟩ := c1
  obtain ⟨f2, fd2, g2, k2, b2, G2⟩ := c2
  obtain ⟨f3, fd3, g3, k3, b3, G3⟩ := c3
  refine F.okH sc_look (fun vs H Q E h => ?_) (fun cdv A outer s H vs Q E hp hot hr h => ?_)
  · obtain ⟨Ks, p, S, F, n, k, rfl, _⟩ := h
    rfl
  · obtain ⟨Ks, p, S, F, n, k, rfl, ⟨α, δ, J, G, rfl, rfl, L, Z⟩, W, hT, hn, hk, kq⟩ := h
    have hu := hu_ofH hr
    refine ⟨_, pss_cons (ps_set (i := 3) sc_look.nd rfl (.inl rfl) (pe_methH (pv 0) C.S m1 G1 (hr.mono (by decide)) (hotC_cxH hot) b1 (fun σ => passAtH (L2.takes_of rfl rfl rfl rfl) σ) (pa_cons (pv 1) pa_nil)))
      (pss_cons (ps_expr (pe_callH G2 hr (hotC_cxH hot) rfl g2 k2 b2 (fun σ => passAtH (L2.takes_of rfl rfl rfl rfl) σ) (pa_cons (pv 2) pa_nil)))
      (pss_one (ps_ret (pe_callH G3 (hr.mono (by decide)) (hotC_cxH hot) rfl g3 k3 b3 (fun _ => passH0) (pa_cons (pe_fld (pv 0) rfl) (pa_cons (pv 3) (pa_cons (pv 2) pa_nil))))))), ?_⟩
    refine ⟨_, rfl, _, _, _, rfl, L.sh, fSh_no, _, rfl, S, α, δ, J, G, n, rfl, L, hn, fun h hh => ?_, fun hh => (kq H (Sm.refl H)).2 hh⟩
    refine ⟨_, rfl, k, rfl, hk, hT, fun H1 s1 => ⟨fun hy => ?_, fun hy => ((kq H1 s1).1 h hh).2 hy⟩⟩
    have L1 := L.sm s1
    refine ⟨_, rfl, _, _, _, _, _, rfl, L1.sh, C.S, C.sBrs, rfl, _, rfl, _, rfl, ?_⟩
    exact ⟨Ks, S, α, δ, J, G, n, h, k, rfl, L1, W, hh, fun H2 s2 => ((kq H2 (s1.trans s2)).1 h hh).1 hy⟩
end
end Vs
namespace Vs
open PySem L2
section
variable {Ks : List Str} {S : Sh}
theorem LyAt.sm {T : Cs} {H H' : Hp} {p : Addr} {S : Sh} {F : Addr → Prop} (h : LyAt T H p S F) (s : Sm H H') : LyAt T H' p S F := by
  obtain ⟨α, δ, J, G, h1, h2, h3, h4⟩ := h
  exact ⟨α, δ, J, G, h1, h2, h3.sm s, h4⟩
theorem LyAt.new {T : Cs} {H : Hp} {p : Addr} {S : Sh} {F : Addr → Prop} (h : LyAt T H p S F) {a : Addr} (n : H a = none) : ¬ F a := by
  obtain ⟨α, δ, J, G, h1, rfl, h3, _⟩ := h
  rintro ⟨r, hr, e⟩
  exact h3.nofr n hr e
theorem LyAt.ins {T : Cs} {H : Hp} {p : Addr} {S : Sh} {F : Addr → Prop} (h : LyAt T H p S F) : ∃ dx fs, H p = some (.ins T.S dx fs) ∧ ∀ m : Str, (["now", "branches", "branches_made", "hands", "hands_made", "judged"] : List Str).contains m = false → fs.lookup m = none := by
  obtain ⟨α, δ, J, G, rfl, _, h3, _⟩ := h
  exact ⟨_, _, h3.sh, fun m hm => fSh_no hm⟩
theorem keyB_of {k : Str} (h : IsKey k) : isKeyB k = true ∧ k.length ≤ 1000 := by
  obtain ⟨h1, h2, h3⟩ := h
  refine ⟨?_, by omega⟩
  unfold isKeyB
  rw [decide_eq_true (show (1 : Int) ≤ k.length by omega), decide_eq_true (show (k.length : Int) ≤ 8 by omega)]
  show (k.cps.toList.all fun c => decide (c ∈ letters.cps.toList)) = true
  rw [List.all_eq_true] at h3 ⊢
  intro c hc
  have h4 := of_decide_eq_true (h3 c hc)
  refine decide_eq_true ?_
  have e : letters.cps.toList = (List.range 26).map (· + 97) := by decide +kernel
  rw [e]
  exact List.mem_map.mpr ⟨c - 97, List.mem_range.mpr (by omega), by omega⟩
theorem line_now (W : WF Ks S) {n : Int} {b : Br} (hb : aget S.brs n = some b) (k : Str) : ∀ c ∈ b.line k, 1 ≤ c.1 ∧ c.1 ≤ S.now := fun c hc => by
  unfold Br.line at hc
  cases e : aget b.lines k with
  | none => rw [e] at hc; cases hc
  | some l => rw [e] at hc; exact (W.ln n b k l hb e).2.2 c hc
theorem sortK_one (k : Str) : sortK [k] = [k] := List.perm_singleton.mp (sortK_perm [k])
theorem adel_new {β : Type} {l : List (Int × β)} {n : Int} {x : β} (h : aget l n = none) : adel (l ++ [(n, x)]) n = l := by
  unfold adel
  rw [List.filter_append, List.filter_eq_self.mpr fun p hp => ?_]
  · simp
  · have : p.1 ≠ n := fun e => by
      obtain ⟨y, hy⟩ := aget_of_key (l := l) (k := n) (List.mem_map.mpr ⟨p, hp, e⟩)
      rw [h] at hy; cases hy
    simpa using this
def Sh.putV (S : Sh) (n : Int) (b : Br) (k : Str) (v : Option Int) : Sh :=
  { S with now := S.now + 1, brs := aput S.brs n { b with lines := aput b.lines k (b.line k ++ [(S.now + 1, v)]), marks := aput b.marks k (S.now + 1) }, hm := S.hm + 1 }
theorem hand_new (W : WF Ks S) (n : Int) : aget (S.addHand n S.now).hns S.hm = some ⟨n, S.now, []⟩ := aget_right W.fresh
theorem write_new (W : WF Ks S) (n : Int) (k : Str) (v : Option Int) : aget ((S.addHand n S.now).write S.hm ⟨n, S.now, []⟩ k v).hns S.hm = some ⟨n, S.now, [(k, v)]⟩ := by
  show aget (aput _ _ _) _ = _
  rw [aget_put_same]
  rfl
theorem aput_snoc {β : Type} {l : List (Int × β)} {n : Int} {x y : β} (h : aget l n = none) : aput (l ++ [(n, x)]) n y = l ++ [(n, y)] := by
  unfold aput
  rw [aget_right h, if_pos (by rfl), List.map_append]
  congr 1
  · rw [List.map_congr_left (g := id) fun p hp => ?_, List.map_id]
    have : p.1 ≠ n := fun e => by
      obtain ⟨y, hy⟩ := aget_of_key (l := l) (k := n) (List.mem_map.mpr ⟨p, hp, e⟩)
      rw [h] at hy; cases hy
    rw [if_neg this]; rfl
  · simp
theorem made_put (W : WF Ks S) {n : Int} {b : Br} (hb : aget S.brs n = some b) (k : Str) (v : Option Int) : (((S.addHand n S.now).write S.hm ⟨n, S.now, []⟩ k v).settle n ⟨n, S.now, [(k, v)]⟩).delHand S.hm = S.putV n b k v := by
  unfold Sh.settle
  rw [show (List.map (·.1) (⟨n, S.now, [(k, v)]⟩ : Hn).drafts) = [k] from rfl, sortK_one, List.foldl_cons, List.foldl_nil]
  unfold addS
  rw [show aget ({ (S.addHand n S.now).write S.hm ⟨n, S.now, []⟩ k v with now := ((S.addHand n S.now).write S.hm ⟨n, S.now, []⟩ k v).now + 1 } : Sh).brs n = some b from hb]
  show Sh.mk _ _ _ (adel (aput (S.hns ++ [(S.hm, _)]) S.hm _) S.hm) _ = _
  rw [aput_snoc W.fresh, adel_new W.fresh]
  unfold Sh.putV addC
  have : (aget (⟨n, S.now, [(k, v)]⟩ : Hn).drafts k).getD none = v := by
    rw [show aget (⟨n, S.now, [(k, v)]⟩ : Hn).drafts k = some v from by rw [aget_cons, if_pos rfl]]; rfl
  rw [this]
  rfl
theorem made_clash (W : WF Ks S) {n : Int} {b : Br} (hb : aget S.brs n = some b) (k : Str) (v : Option Int) : clashM b ⟨n, S.now, [(k, v)]⟩ = none := by
  unfold clashM
  rw [show (List.map (·.1) (⟨n, S.now, [(k, v)]⟩ : Hn).drafts) = [k] from rfl, sortK_one, List.find?_cons]
  have : decide (S.now < (aget b.marks k).getD 0) = false := by
    apply decide_eq_false
    cases e : aget b.marks k with
    | none => show ¬ S.now < 0; have := W.sz.1; omega
    | some m => show ¬ S.now < m; have := (W.mkb n b k m hb e).2; omega
  rw [this]
  rfl
theorem WF.putV (W : WF Ks S) {n : Int} {b : Br} (hb : aget S.brs n = some b) {k : Str} (hk : k ∈ Ks) (v : Option Int) (hn : S.now < 1000) (hl : S.hns.length < 1000) (hm : 0 ≤ S.hm ∧ S.hm < 10 ^ 18) : WF Ks (S.putV n b k v) := by
  rw [← made_put W hb k v]
  apply WF.delHand
  unfold Sh.settle
  rw [show (List.map (·.1) (⟨n, S.now, [(k, v)]⟩ : Hn).drafts) = [k] from rfl, sortK_one, List.foldl_cons, List.foldl_nil]
  have W1 := W.addHand ⟨b, hb⟩ W.sz.1 (Int.le_refl _) hl hm
  have W2 := W1.write (hand_new W n) hk v
  have W3 := W2.later (by show S.now < 10 ^ 18; omega)
  refine W3.addS n _ hk ⟨by show 1 ≤ S.now + 1; have := W.sz.1; omega, by show S.now + 1 ≤ 1000; omega⟩ fun c hc d hd => ?_
  have hc : aget S.brs n = some c := hc
  show d.1 < S.now + 1
  have := (line_now W hc k d hd).2
  omega
theorem putV_get (n : Int) (b : Br) (k : Str) (v : Option Int) (m : Int) : aget (S.putV n b k v).brs m = if m = n then some { b with lines := aput b.lines k (b.line k ++ [(S.now + 1, v)]), marks := aput b.marks k (S.now + 1) } else aget S.brs m := aget_put _ _ _ _
def dv (h : Hn) (k : Str) : Option Int := (aget h.drafts k).getD none
structure Setl (S0 : Sh) (q : Int) (h : Hn) (ks : List Str) (b : Br) (S1 : Sh) : Prop where
  now : S1.now = S0.now
  hns : S1.hns = S0.hns
  bm : S1.bm = S0.bm
  hm : S1.hm = S0.hm
  keys : S1.brs.map (·.1) = S0.brs.map (·.1)
  off : ∀ n, n ≠ q → aget S1.brs n = aget S0.brs n
  at_ : ∃ b1, aget S1.brs q = some b1 ∧ b1.ben = b.ben ∧ b1.mom = b.mom ∧ b1.alive = b.alive ∧ (∀ k, b1.line k = b.line k ++ if k ∈ ks then [(S0.now, dv h k)] else []) ∧ ∀ k, aget b1.marks k = if k ∈ ks then some S0.now else aget b.marks k
theorem addC_line (now : Int) (h : Hn) (b : Br) (k j : Str) : (addC now h b k).line j = if j = k then b.line k ++ [(now, dv h k)] else b.line j := by
  unfold Br.line addC
  show (aget (aput b.lines k _) j).getD [] = _
  rw [aget_put]
  by_cases e : j = k
  · rw [if_pos e, if_pos e]; rfl
  · rw [if_neg e, if_neg e]
theorem setl {q : Int} {h : Hn} : ∀ (ks : List Str), ks.Nodup → ∀ (S0 : Sh) (b : Br), aget S0.brs q = some b → Setl S0 q h ks b (ks.foldl (addS q h) S0)
  | [], _, S0, b, hb => ⟨rfl, rfl, rfl, rfl, rfl, fun _ _ => rfl, b, hb, rfl, rfl, rfl, fun k => by simp, fun k => by simp⟩
  | k :: r, nd, S0, b, hb => by
    obtain ⟨n1, n2⟩ := List.nodup_cons.mp nd
    have e : addS q h S0 k = S0.setBr q (addC S0.now h b k) := by unfold addS; rw [hb]
    have hb' : aget (S0.setBr q (addC S0.now h b k)).brs q = some (addC S0.now h b k) := by rw [setBr_get, if_pos rfl]
    obtain ⟨i1, i2, i3, i4, i5, i6, b1, j1, j2, j3, j4, j5, j6⟩ := setl (q := q) (h := h) r n2 (S0.setBr q (addC S0.now h b k)) (addC S0.now h b k) hb'
    rw [List.foldl_cons, e]
    refine ⟨i1, i2, i3, i4, i5.trans (keys_aput_old _ hb), fun n hn => (i6 n hn).trans (by rw [setBr_get, if_neg hn]), b1, j1, j2, j3, j4, fun j => ?_, fun j => ?_⟩
    · rw [j5 j, addC_line]
      by_cases ej : j = k
      · subst ej
        rw [if_pos rfl, if_neg n1, if_pos List.mem_cons_self, List.append_nil]
      · rw [if_neg ej]
        congr 1
        by_cases er : j ∈ r
        · rw [if_pos er, if_pos (List.mem_cons_of_mem _ er)]; rfl
        · rw [if_neg er, if_neg (fun z => (List.mem_cons.mp z).elim ej er)]
    · rw [j6 j]
      by_cases er : j ∈ r
      · rw [if_pos er, if_pos (List.mem_cons_of_mem _ er)]; rfl
      · rw [if_neg er]
        show aget (aput b.marks k S0.now) j = _
        rw [aget_put]
        by_cases ej : j = k
        · rw [if_pos ej, if_pos (by rw [ej]; exact List.mem_cons_self)]
        · rw [if_neg ej, if_neg (fun z => (List.mem_cons.mp z).elim ej er)]
theorem WF.adds {Ks : List Str} {q : Int} {h : Hn} : ∀ (ks : List Str), ks.Nodup → (∀ k ∈ ks, k ∈ Ks) → ∀ (S0 : Sh), WF Ks S0 → 1 ≤ S0.now → S0.now ≤ 1000 → (∀ b, aget S0.brs q = some b → ∀ k ∈ ks, ∀ c ∈ b.line k, c.1 < S0.now) → WF Ks (ks.foldl (Vs.addS q h) S0)
  | [], _, _, S0, W, _, _, _ => W
  | k :: r, nd, sub, S0, W, h1, h2, lt => by
    obtain ⟨n1, n2⟩ := List.nodup_cons.mp nd
    rw [List.foldl_cons]
    have nw := addS_now q h S0 k
    refine WF.adds r n2 (fun j hj => sub j (List.mem_cons_of_mem _ hj)) _ (W.addS q h (sub k List.mem_cons_self) ⟨h1, h2⟩ fun b hb => lt b hb k List.mem_cons_self) (by rw [nw.1]; exact h1) (by rw [nw.1]; exact h2) fun b1 hb1 j hj c hc => ?_
    rw [nw.1]
    obtain ⟨b, hb, _⟩ := addS_br q h S0 k q hb1
    have := addS_line q h S0 k hb q j
    rw [lineAt_of hb1, if_neg (fun z => n1 (by rw [← z.2]; exact hj)), lineAt_of hb] at this
    rw [this] at hc
    exact lt b hb j (List.mem_cons_of_mem _ hj) c hc
theorem sortK_perm' (l : List Str) : (sortK l).Perm l := List.mergeSort_perm l leS
theorem sortK_nd {l : List Str} (h : l.Nodup) : (sortK l).Nodup := (sortK_perm' l).nodup_iff.mpr h
theorem sortK_in {l : List Str} {k : Str} : k ∈ sortK l ↔ k ∈ l := (sortK_perm' l).mem_iff
theorem settled {Ks : List Str} {S : Sh} (W : WF Ks S) {n : Int} {h : Hn} (hh : aget S.hns n = some h) {b : Br} (hb : aget S.brs h.br = some b) : Setl { S with now := S.now + 1 } h.br h (sortK (h.drafts.map (·.1))) b (S.settle h.br h) :=
  setl _ (sortK_nd (W.dks n h hh).1) _ b hb
theorem WF.settle {Ks : List Str} {S : Sh} (W : WF Ks S) {n : Int} {h : Hn} (hh : aget S.hns n = some h) (hn : S.now < 1000) : WF Ks (S.settle h.br h) := by
  refine WF.adds _ (sortK_nd (W.dks n h hh).1) (fun k hk => (W.dks n h hh).2 k (sortK_in.mp hk)) _ (W.later (by omega)) (by show 1 ≤ S.now + 1; have := W.sz.1; omega) (by show S.now + 1 ≤ 1000; omega) fun b hb k _ c hc => ?_
  have := (line_now W hb k c hc).2
  show c.1 < S.now + 1
  omega
theorem hand_gone {Ks : List Str} {S : Sh} (W : WF Ks S) {n : Int} (h : n < 0 ∨ S.hm ≤ n) : aget S.hns n = none := by
  cases e : aget S.hns n with
  | none => rfl
  | some x =>
    have := W.hn n x e
    omega
theorem ShAt.other {T : Cs} {H H' : Hp} {p : Addr} {S : Sh} {F G G' : Addr → Prop} (h : ShAt T H p S F) (s : Step H G H' G') (d : ∀ a, F a → ¬ G a) : ShAt T H' p S F ∧ ∀ a, F a → ¬ G' a := by
  obtain ⟨α, δ, J, W, rfl, rfl, L, r, z⟩ := h
  refine ⟨⟨α, δ, J, W, rfl, rfl, L.keep s.tups fun r hr => ?_, r, z⟩, fun a ⟨r, hr, e⟩ => ?_⟩
  · obtain ⟨o, e, c⟩ := L.at_ r hr
    rw [e]; exact (s.keep _ _ e (fun ps z => Cont.nt (z ▸ c)) (d _ ⟨r, hr, rfl⟩)).1
  · obtain ⟨o, q, c⟩ := L.at_ r hr
    rw [← e]; exact (s.keep _ _ q (fun ps z => Cont.nt (z ▸ c)) (d _ ⟨r, hr, rfl⟩)).2
theorem ShAt.away {T : Cs} {H : Hp} {p : Addr} {S : Sh} {F : Addr → Prop} (h : ShAt T H p S F) {a : Addr} (n : ¬ F a) {u : HO} (hu : H a = some u) (nt : ∀ xs, u ≠ .tup xs) (o : HO) : ShAt T (upd H a o) p S F := by
  obtain ⟨α, δ, J, G, h1, h2, h3, h4⟩ := h
  subst h2
  exact ⟨α, δ, J, G, h1, rfl, h3.keep (fun b xs e => by rw [upd_ne (fun z => by rw [z, hu] at e; exact nt xs (Option.some.inj e))]; exact e) (fun r hr => upd_ne fun e => n ⟨r, hr, e⟩), h4⟩
theorem s0_br {n : Int} {b : Br} (h : aget S0.brs n = some b) : n = 0 ∧ b = ⟨none, 0, true, [], []⟩ := by
  have h : aget [((0 : Int), (⟨none, 0, true, [], []⟩ : Br))] n = some b := h
  rw [aget_cons, aget_nil] at h
  by_cases e : (0 : Int) = n
  · rw [if_pos e] at h; exact ⟨e.symm, (Option.some.inj h).symm⟩
  · rw [if_neg e] at h; cases h
theorem WF_0 {Ks : List Str} (P : PoolOk Ks) : WF Ks S0 where
  bks := List.pairwise_singleton _ _
  b0 := ⟨_, rfl⟩
  root := fun n b h => by obtain ⟨rfl, rfl⟩ := s0_br h; exact ⟨fun _ => rfl, fun _ => rfl⟩
  ben := fun n b q h hq => by obtain ⟨rfl, rfl⟩ := s0_br h; cases hq
  bnd := fun n b h => by obtain ⟨rfl, rfl⟩ := s0_br h; exact ⟨by decide, by decide, by decide, by decide⟩
  lks := fun n b h => by obtain ⟨rfl, rfl⟩ := s0_br h; exact ⟨List.nodup_nil, fun k hk => by cases hk⟩
  ln := fun n b k l h hl => by obtain ⟨rfl, rfl⟩ := s0_br h; cases hl
  mks := fun n b h => by obtain ⟨rfl, rfl⟩ := s0_br h; exact ⟨List.nodup_nil, fun k hk => by cases hk⟩
  mkb := fun n b k m h hm => by obtain ⟨rfl, rfl⟩ := s0_br h; cases hm
  hks := List.Pairwise.nil
  hn := fun n h e => by cases e
  dks := fun n h e => by cases e
  key := P.key
  pool := Nat.le_trans P.hi (by decide)
  sz := ⟨by decide, by decide, by decide, by decide⟩
  cap := ⟨by decide, by decide, fun n b k l h hl => by obtain ⟨rfl, rfl⟩ := s0_br h; cases hl⟩
def spLaw (K : PySem.W.Frag) (Pt : Addr) : Sp := fun vs H Q _ => ∃ (sc : Addr) (ns : List Int), vs = [.ref sc] ∧ SqL K H sc (ns.map V.int) ∧ GxR.TabG H Pt ∧ ∀ H', Q (.bl true) H'
theorem RowAt.at {H : Hp} {a sc : Addr} (h : RowAt H a sc) : ∃ xs, H a = some (.lst xs) := by
  obtain ⟨i, s, b, h, _⟩ := h; exact ⟨_, h⟩
end
end Vs
/-! ## k16: what is refused, under try -/
namespace Vs
open PySem PySem.Spec PyProof.Rows L2 L2H
theorem takesN0 {X : Cx} : L2N.Takes X (fun _ _ _ _ => False) := by
  rintro u s' ⟨_, _, _, _, _, _, _, _, _, _, _, _, _, _, _, _, h⟩
  exact h.elim
theorem passEH {X : Cx} {τ : L2.St} : PassesAt (L2.CX X.prog X.w) X τ E0 := by
  rintro _ _ _ _ _ _ ⟨_, _, _, _, _, _, _, _, _, _, _, _, no⟩
  exact no.elim
theorem pe_weak {X : Cx} {e : Expr} {t t' : TE} (h : PE X e t) (m : ∀ τ G Q, t' τ G Q → t τ G Q) : PE X e t' := ⟨fun ps z τ G Q I pre => h.run ps z τ G Q I (m _ _ _ pre)⟩
/-- a method called under try -/
def tMethT (C : Addr) (m : Str) (sp : Sp) (E : L2.St → XK) (to_ : TE) (t : TA) : TE := fun τ G Q => to_ τ G fun y G1 =>
  ∃ a dx fs, y = .ref a ∧ G1 a = some (.ins C dx fs) ∧ fs.lookup m = none ∧ t τ G1 fun vs G2 => sp (y :: vs) G2 Q (E τ)
section
variable {X : Cx} {CX : CXT} {k : Nat} {f C : Addr} {fd : FuncData} {ps : List Str} {sp : Sp} {E : L2.St → XK} {m : Str} {pos apos : Pos} {e o : Expr} {es : List Expr} {to_ : TE} {t : TA}
theorem pe_methT {pl : Sem Bool} (ho : PE X o to_) (cl : Cls X.K C) (me : Meth X.K C m f) (F : FnOk X.prog X.w X.K X.mg X.base CX k f fd ps sp)
    (rm : Room k X.A) (bd : Binds X.K fd ps []) (px : ∀ τ, PassesAt CX X τ (E τ)) (pa : PA X (e :: es) t)
    (h1 : starEach (e :: es) X.env = (false, eval e X.env) :: starEach es X.env := by rfl)
    (h2 : (backTo pos (starEach es X.env)).any (fun z => z.1) = false := by rfl)
    (h3 : eval (.Call (.Attribute o m apos) (e :: es) [] pos) X.env = (do
        let ov ← eval o X.env
        standAt apos.atName
        let (g, one) ← holding [ov] (getMethod ov m pl)
        callWith pos g one (backTo pos (starEach (e :: es) X.env)) (backToKw pos (keywordEach [] X.env))) := by rfl) :
    PE X (.Call (.Attribute o m apos) (e :: es) [] pos) (tMethT C m sp E to_ t) := by
  constructor
  intro pn z τ G Q J pre
  refine PySem.W.methodCall_KW (pl := pl) (thn (ho.run pn z τ G _ J pre) ?_) h3
  rintro v z1 ⟨y, G1, J1, rv, a, dx, fs, ey, ia, no, rest⟩
  subst ey
  obtain rfl : v = Value.ref a := rv
  refine getmeth_ok J1 ia cl me no ?_
  refine PySem.W.callWith_K (first := [.ref a]) (h₀ := X.base) J.ok.mod.kin me.kp (thn (pa.run pos pn z1 τ G1 _ J1 rest) ?_) h1 h2
  rintro us z2 ⟨vs, G2, J2, rs, fin⟩
  exact ⟨J2.kIn, run_fnS (us := .ref a :: us) (vs := .ref a :: vs) F rm bd (px τ) J2 (.cons rfl rs) fin⟩
end
/-! ### _law_word, asked of what is handled -/
def spWordA (K : PySem.W.Frag) (U : Es) (bt a : Addr) (k : Value) (d : Option Addr) : Sp := fun vs H Q _ => ∃ (D : Addr) (i : Nat), vs = [.ref a] ∧ k = .ref D ∧ WordF K U bt D i ∧ (∀ b, d = some b → ∃ fs, H b = some (.xd fs)) ∧ ∀ H', Sm H H' → Q (.str (wordS i)) H'
section
variable {X : Cx} {U : Es} {f bt a : Addr} {fd : FuncData} {ob : Obj} {k : Value} {d : Option Addr} {pn : List (Addr × Obj)} {e : Expr} {i : Nat} {w1 w2 : Pos}
theorem hot_suite (hz : L2N.Zn k d ob) (hf : ∃ fs, ob.data = .fields fs) : Hot1 (X.suite a ((a, ob) :: pn)).A (a, ob) := by
  obtain ⟨fs, hd⟩ := hf
  exact ⟨rfl, fs, hd, hz.2.2 fs hd⟩
theorem hotC_suite (hz : L2N.Zn k d ob) (hf : ∃ fs, ob.data = .fields fs) : HotC (X.suite a ((a, ob) :: pn)) := ⟨(a, ob), hot_suite hz hf, List.mem_cons_self⟩
theorem pe_word (F : FnP X.prog X.w X.K X.mg X.base CX0 1 f fd ["_law_e"] (spWord X.K U bt)) (rm : RoomH 1 X.A) (gl : Gl X "_law_word") (g1 : X.mg "_law_word" = some (.ref f)) (kp : PySem.W.keepIn X.K (.ref f) = true) (bd : Binds X.K fd ["_law_e"] [])
    (hz : L2N.Zn k d ob) (hf : ∃ fs, ob.data = .fields fs) (he : PE (X.suite a ((a, ob) :: pn)) e (tVar i)) (s1 : starEach [e] X.env = (false, eval e X.env) :: starEach [] X.env := by rfl) :
    PE (X.suite a ((a, ob) :: pn)) (.Call (.Name "_law_word" w1) [e] [] w2) (tCallS (spWordA X.K U bt a k d) (fun _ => E0) (tCons (tVar i) tNil)) := by
  refine pe_weak (pe_callP (X := X.suite a ((a, ob) :: pn)) (p := (a, ob)) (E := fun _ => E0) F ⟨rm.dp, rm.un⟩ (hot_suite hz hf) List.mem_cons_self gl g1 kp bd (fun _ => passH0) (pa_cons (hs := s1) he pa_nil) (by decide) s1) ?_
  rintro τ G Q ⟨v, e1, D, j, ev, rfl, W, hd, q⟩
  exact ⟨v, e1, D, d, j, ev, W, hz.zc, hf, hd, q⟩
end
/-- a class that the law's try takes, of the i-th kind -/
structure Xw (K : PySem.W.Frag) (U : Es) (bt se D : Addr) (i : Nat) : Prop where
  wd : WordF K U bt D i
  se : PySem.W.exmOne K (.ref D) (.ref se) = some true
/-! ### differ, where a hand isn't there -/
section
variable {P : Program} {w : World} {K : PySem.W.Frag} {mg : Str → Option Value} {base : Heap} {T : Cs} {U : Es} {Pt : Addr}
def spDifferX (T : Cs) (U : Es) : Sp := fun vs H _ E => ∃ (p : Addr) (S : Sh) (F : Addr → Prop) (n m : Int), vs = [.ref p, .int n, .int m] ∧ LyAt T H p S F ∧ n.natAbs < 10 ^ 20 ∧ m.natAbs < 10 ^ 20 ∧ (aget S.hns n = none ∨ ((∃ h, aget S.hns n = some h) ∧ aget S.hns m = none)) ∧ E (.ref U.noHand) none H
theorem ok_differX {f : Addr} {fd : FuncData} (F : Fun K "differ" "Shelf.differ" s_Shelf_differ f fd) (C : Cf K T) (c1 : Mx P w K mg base (L2N.CX P w) T.S "hand_there" 1 ["self", "hand"] (spHandThere T U)) :
    FnOk P w K mg base (L2N.CX P w) 2 f fd ["self", "one", "other"] (spDifferX T U) := by
  obtain ⟨f1, fd1, m1, b1, G1⟩ := c1
  refine F.okX' sc_diff (fun vs H Q E h => ?_) (fun cdv A outer s H vs Q E hr h => ?_)
  · obtain ⟨p, S, F, n, m, rfl, _⟩ := h
    rfl
  · obtain ⟨p, S, F, n, m, rfl, ⟨α, δ, J, G, rfl, rfl, L, Z⟩, hn, hm, no, kq⟩ := h
    refine ⟨_, pss_cons (ps_set (i := 3) sc_diff.nd rfl (.inl rfl) (pe_meth (pv 0) C.S m1 G1 hr b1 .nil (L2N.passes_call (L2N.takes_of rfl rfl rfl rfl) (fun _ _ _ _ h => h)) (pa_cons (pv 1) pa_nil)))
      (pss_cons (ps_set (i := 4) sc_diff.nd rfl (.inl rfl) (pe_meth (pv 0) C.S m1 G1 hr b1 .nil (L2N.passes_call (L2N.takes_of rfl rfl rfl rfl) (fun _ _ _ _ h => h)) (pa_cons (pv 2) pa_nil)))
      (pss_cons ps_dead (pss_cons ps_dead (pss_cons ps_dead (pss_one ps_dead))))), ?_⟩
    refine ⟨_, rfl, _, _, _, rfl, L.sh, fSh_no, _, rfl, S, α, δ, J, G, n, rfl, L, hn, fun h hh => ?_, fun _ => kq⟩
    rcases no with no | ⟨_, no⟩
    · rw [hh] at no; cases no
    · refine ⟨_, rfl, _, _, _, rfl, L.sh, fSh_no, _, rfl, S, α, δ, J, G, m, rfl, L, hm, fun h' hh' => ?_, fun _ => kq⟩
      rw [hh'] at no; cases no
end
end Vs
namespace Vs
open PySem PySem.Spec PyProof.Rows L2 L2H
section
variable {P : Program} {w : World} {K : PySem.W.Frag} {mg : Str → Option Value} {base : Heap} {T : Cs} {U : Es} {Pt : Addr}
/-! ### _law_of_branch -/
def spOfBr (T : Cs) : Sp := fun vs H Q _ => ∃ (Ks : List Str) (p : Addr) (S : Sh) (F : Addr → Prop) (way n : Int), vs = [.ref p, .int way, .int n] ∧ LyAt T H p S F ∧ WF Ks S ∧ 0 ≤ way ∧ way < 2 ∧ n.natAbs < 10 ^ 20 ∧
  (((aget S.brs n = none ∨ (way = 1 ∧ n = 0)) ∧ ∀ H', Sm H H' → Q (.str "branch") H') ∨
   ∃ b, aget S.brs n = some b ∧ n ≠ 0 ∧ b.alive = false ∧ ∀ H', Sm H H' → Q (.str "dropped") H')
abbrev nOfBr : List Str := ["_law_shelf", "_law_way", "_law_branch", "_law_e"]
theorem sc_ofBr : FnScope nOfBr ["_law_shelf", "_law_way", "_law_branch"] (defScope s__law_of_branch) := ⟨rfl, rfl, rfl, by decide +kernel, rfl, by decide +kernel, by decide +kernel⟩
theorem ok_ofBr {f fw bt se : Addr} {fd fdw : FuncData} (F : Fun K "_law_of_branch" "_law_of_branch" s__law_of_branch f fd) (C : Cf K T) (gs : mg "ShelfError" = some (.ref se)) (XB : Xw K U bt se U.noBranch 1) (XD : Xw K U bt se U.dropped 2)
    (gw : mg "_law_word" = some (.ref fw)) (kw : PySem.W.keepIn K (.ref fw) = true) (bw : Binds K fdw ["_law_e"] []) (Gw : FnP P w K mg base CX0 1 fw fdw ["_law_e"] (spWord K U bt))
    (cbe : Mx P w K mg base (L2N.CX P w) T.S "begin" 4 ["self", "branch"] (spBegin T U)) (cdr : Mx P w K mg base (L2N.CX P w) T.S "drop" 2 ["self", "branch"] (spDrop T U)) :
    FnOk P w K mg base CX0 5 f fd ["_law_shelf", "_law_way", "_law_branch"] (spOfBr T) := by
  obtain ⟨fbe, fdbe, mbe, bbe, Gbe⟩ := cbe
  obtain ⟨fdr, fddr, mdr, bdr, Gdr⟩ := cdr
  refine F.ok sc_ofBr (fun vs H Q E h => ?_) (fun cdv A outer s H vs Q E hr h => ?_)
  · obtain ⟨Ks, p, S, F, way, n, rfl, _⟩ := h
    rfl
  · obtain ⟨Ks, p, S, F, way, n, rfl, ly, W, w0, w2, hn, cs⟩ := h
    refine ⟨_, pss_cons (L2N.ps_try_as (i := 3) (tb := fun W => tIfS (tTest (tOp rEq (tVar 1) (tC (.int 0)))) (tDrop (tMethT T.S "begin" (spBegin T U) (fun σ cls d H => W cls d σ H) (tVar 0) (tCons (tVar 2) tNil))) (tDrop (tMethT T.S "drop" (spDrop T U) (fun σ cls d H => W cls d σ H) (tVar 0) (tCons (tVar 2) tNil))))
        (ts := fun a k d => tRet (tCallS (spWordA K U bt a k d) (fun _ => E0) (tCons (tVar 3) tNil))) rfl rfl sc_ofBr.nd rfl rfl ⟨rfl, by decide, .inl gs⟩ takesN0
      (fun W pn xe tk _ => pss_one (ps_if (pt_cmpR op_eq (pv 1) pe_int (nomark _)) (pss_one (ps_expr (pe_methT (pv 0) C.S mbe Gbe hr bbe (fun σ => L2N.passAt tk σ) (pa_cons (pv 2) pa_nil))))
        (pss_one (ps_expr (pe_methT (pv 0) C.S mdr Gdr (hr.mono (by decide)) bdr (fun σ => L2N.passAt tk σ) (pa_cons (pv 2) pa_nil))))))
      (fun a ob k d pn hz hf => pss_one (ps_ret (pe_word Gw (roomH_of (hr.mono (by decide))) rfl gw kw bw hz hf (pv 3)))))
      (pss_one (ps_ret pe_str)), ?_⟩
    unfold tSeq
    dsimp only
    generalize hW : wAs _ _ _ _ _ _ = Wx
    have hE : ∀ (D : Addr) (i : Nat), Xw K U bt se D i → (∀ H', Sm H H' → Q (.str (wordS i)) H') → Wx (.ref D) none [some (.ref p), some (.int way), some (.int n), none] H := by
      intro D i XD hq
      rw [← hW]
      exact ⟨true, XD.se, fun _ a ha => ⟨_, rfl, D, i, rfl, rfl, XD.wd, fun b z => (by cases z), hq⟩, fun z => by cases z⟩
    have hB : ((∀ H', Sm H H' → Q (.str "branch") H')) → Wx (.ref U.noBranch) none [some (.ref p), some (.int way), some (.int n), none] H := fun q => hE _ 1 XB q
    have hD : ((∀ H', Sm H H' → Q (.str "dropped") H')) → Wx (.ref U.dropped) none [some (.ref p), some (.int way), some (.int n), none] H := fun q => hE _ 2 XD q
    obtain ⟨dx, fs, hp, nf⟩ := ly.ins
    refine ⟨_, rfl, rfl, _, rfl, ?_⟩
    by_cases e0 : way = 0
    · refine ifT (decide_eq_true (by rw [e0])) ?_
      refine ⟨_, rfl, p, dx, fs, rfl, hp, nf _ (by decide +kernel), _, rfl, Ks, p, S, F, n, rfl, ly, W, hn, fun b hb => ?_, fun z => ?_⟩
      · rcases cs with ⟨z | ⟨z, _⟩, _⟩ | ⟨b', hb', _, al, q⟩
        · rw [hb] at z; cases z
        · omega
        · rw [hb] at hb'
          obtain rfl := Option.some.inj hb'
          exact ⟨fun y => (by rw [al] at y; cases y), fun _ => hD q⟩
      · rcases cs with ⟨_, q⟩ | ⟨b', hb', _⟩
        · exact hB q
        · rw [hb'] at z; cases z
    · have e1 : way = 1 := by omega
      refine ifF (decide_eq_false fun z => e0 (V.int.inj z)) ?_
      refine ⟨_, rfl, p, dx, fs, rfl, hp, nf _ (by decide +kernel), _, rfl, p, S, F, n, rfl, ly, hn, fun b hb => ⟨fun n0 => ?_, fun n0 => ⟨fun al => ?_, fun _ => ?_⟩⟩, fun z => ?_⟩
      · rcases cs with ⟨_, q⟩ | ⟨b', hb', z, _⟩
        · exact hB q
        · exact absurd n0 z
      · rcases cs with ⟨z | ⟨_, z⟩, _⟩ | ⟨b', hb', _, al', q⟩
        · rw [hb] at z; cases z
        · exact absurd z n0
        · rw [hb] at hb'
          obtain rfl := Option.some.inj hb'
          rw [al'] at al; cases al
      · rcases cs with ⟨z | ⟨_, z⟩, _⟩ | ⟨b', hb', _, al', q⟩
        · rw [hb] at z; cases z
        · exact absurd z n0
        · exact hD q
      · rcases cs with ⟨_, q⟩ | ⟨b', hb', _⟩
        · exact hB q
        · rw [hb'] at z; cases z
/-! ### _law_of_hand -/
def spOfHd (T : Cs) : Sp := fun vs H Q _ => ∃ (Ks : List Str) (p : Addr) (S : Sh) (F : Addr → Prop) (way n o : Int), vs = [.ref p, .int way, .int n, .int o] ∧ LyAt T H p S F ∧ WF Ks S ∧ 0 ≤ way ∧ way < 7 ∧ n.natAbs < 10 ^ 20 ∧ o.natAbs < 10 ^ 20 ∧
  ((aget S.hns n = none ∧ (∃ h, aget S.hns o = some h) ∧ ∀ H', Sm H H' → Q (.str "hand") H') ∨
   (∃ h b, way = 4 ∧ aget S.hns n = some h ∧ h.drafts ≠ [] ∧ aget S.brs h.br = some b ∧ b.alive = false ∧ ∀ H', Sm H H' → Q (.str "dropped") H') ∨
   ∃ h, way = 0 ∧ aget S.hns n = some h ∧ ∀ H' F', ShAt T H' p (S.addHand h.br h.mom) F' → Step H F H' F' → Q (.str "") H')
abbrev nOfHd : List Str := ["_law_shelf", "_law_way", "_law_hand", "_law_other", "_law_e"]
theorem sc_ofHd : FnScope nOfHd ["_law_shelf", "_law_way", "_law_hand", "_law_other"] (defScope s__law_of_hand) := ⟨rfl, rfl, rfl, by decide +kernel, rfl, by decide +kernel, by decide +kernel⟩
theorem ok_ofHd {f fw bt se : Addr} {fd fdw : FuncData} (F : Fun K "_law_of_hand" "_law_of_hand" s__law_of_hand f fd) (C : Cf K T) (gs : mg "ShelfError" = some (.ref se)) (XH : Xw K U bt se U.noHand 0) (XD : Xw K U bt se U.dropped 2)
    (gw : mg "_law_word" = some (.ref fw)) (kw : PySem.W.keepIn K (.ref fw) = true) (bw : Binds K fdw ["_law_e"] []) (Gw : FnP P w K mg base CX0 1 fw fdw ["_law_e"] (spWord K U bt))
    (ctw : Mx P w K mg base (L2N.CX P w) T.S "twin" 4 ["self", "hand"] (spTwin T U)) (cfo : Mx P w K mg base (L2N.CX P w) T.S "fork" 3 ["self", "hand"] (spFork T U)) (ccl : Mx P w K mg base (L2N.CX P w) T.S "close" 2 ["self", "hand"] (spClose T U))
    (cke : Mx P w K mg base (L2N.CX P w) T.S "keys" 3 ["self", "hand"] (spKeys T U)) (cco : Mx P w K mg base (L2N.CX P w) T.S "commit" 4 ["self", "hand"] (spCommit T U)) (cdi : Mx P w K mg base (L2N.CX P w) T.S "differ" 2 ["self", "one", "other"] (spDifferX T U)) :
    FnOk P w K mg base CX0 5 f fd ["_law_shelf", "_law_way", "_law_hand", "_law_other"] (spOfHd T) := by
  obtain ⟨ftw, fdtw, mtw, btw, Gtw⟩ := ctw
  obtain ⟨ffo, fdfo, mfo, bfo, Gfo⟩ := cfo
  obtain ⟨fcl, fdcl, mcl, bcl, Gcl⟩ := ccl
  obtain ⟨fke, fdke, mke, bke, Gke⟩ := cke
  obtain ⟨fco, fdco, mco, bco, Gco⟩ := cco
  obtain ⟨fdi, fddi, mdi, bdi, Gdi⟩ := cdi
  refine F.ok sc_ofHd (fun vs H Q E h => ?_) (fun cdv A outer s H vs Q E hr h => ?_)
  · obtain ⟨Ks, p, S, F, way, n, o, rfl, _⟩ := h
    rfl
  · obtain ⟨Ks, p, S, F, way, n, o, rfl, ly, W, w0, w7, hn, ho, cs⟩ := h
    refine ⟨_, pss_cons (L2N.ps_try_as (i := 4) (tb := fun W => tIfS (tTest (tOp rEq (tVar 1) (tC (.int 0)))) (tDrop (tMethT T.S "twin" (spTwin T U) (fun σ cls d H => W cls d σ H) (tVar 0) (tCons (tVar 2) tNil)))
          (tIfS (tTest (tOp rEq (tVar 1) (tC (.int 1)))) (tDrop (tMethT T.S "fork" (spFork T U) (fun σ cls d H => W cls d σ H) (tVar 0) (tCons (tVar 2) tNil)))
          (tIfS (tTest (tOp rEq (tVar 1) (tC (.int 2)))) (tDrop (tMethT T.S "close" (spClose T U) (fun σ cls d H => W cls d σ H) (tVar 0) (tCons (tVar 2) tNil)))
          (tIfS (tTest (tOp rEq (tVar 1) (tC (.int 3)))) (tDrop (tMethT T.S "keys" (spKeys T U) (fun σ cls d H => W cls d σ H) (tVar 0) (tCons (tVar 2) tNil)))
          (tIfS (tTest (tOp rEq (tVar 1) (tC (.int 4)))) (tDrop (tMethT T.S "commit" (spCommit T U) (fun σ cls d H => W cls d σ H) (tVar 0) (tCons (tVar 2) tNil)))
          (tDrop (tMethT T.S "differ" (spDifferX T U) (fun σ cls d H => W cls d σ H) (tVar 0) (tCons (tOp (rIxL K) (tLst (tCons (tVar 2) (tCons (tVar 3) tNil))) (tOp (rI0 fun i j => .int (i - j)) (tVar 1) (tC (.int 5)))) (tCons (tOp (rIxL K) (tLst (tCons (tVar 3) (tCons (tVar 2) tNil))) (tOp (rI0 fun i j => .int (i - j)) (tVar 1) (tC (.int 5)))) tNil)))))))))
        (ts := fun a k d => tRet (tCallS (spWordA K U bt a k d) (fun _ => E0) (tCons (tVar 4) tNil))) rfl rfl sc_ofHd.nd rfl rfl ⟨rfl, by decide, .inl gs⟩ takesN0
      (fun W pn xe tk _ => pss_one (ps_if (pt_cmpR op_eq (pv 1) pe_int (nomark _)) (pss_one (ps_expr (pe_methT (pv 0) C.S mtw Gtw hr btw (fun σ => L2N.passAt tk σ) (pa_cons (pv 2) pa_nil))))
        (pss_one (ps_if (pt_cmpR op_eq (pv 1) pe_int (nomark _)) (pss_one (ps_expr (pe_methT (pv 0) C.S mfo Gfo (hr.mono (by decide)) bfo (fun σ => L2N.passAt tk σ) (pa_cons (pv 2) pa_nil))))
        (pss_one (ps_if (pt_cmpR op_eq (pv 1) pe_int (nomark _)) (pss_one (ps_expr (pe_methT (pv 0) C.S mcl Gcl (hr.mono (by decide)) bcl (fun σ => L2N.passAt tk σ) (pa_cons (pv 2) pa_nil))))
        (pss_one (ps_if (pt_cmpR op_eq (pv 1) pe_int (nomark _)) (pss_one (ps_expr (pe_methT (pv 0) C.S mke Gke (hr.mono (by decide)) bke (fun σ => L2N.passAt tk σ) (pa_cons (pv 2) pa_nil))))
        (pss_one (ps_if (pt_cmpR op_eq (pv 1) pe_int (nomark _)) (pss_one (ps_expr (pe_methT (pv 0) C.S mco Gco hr bco (fun σ => L2N.passAt tk σ) (pa_cons (pv 2) pa_nil))))
        (pss_one (ps_expr (pe_methT (pv 0) C.S mdi Gdi (hr.mono (by decide)) bdi (fun σ => L2N.passAt tk σ) (pa_cons (pe_ix ix_list (pe_lst (pa_cons (pv 2) (pa_cons (pv 3) pa_nil))) (pe_op op_sub (pv 1) pe_int) (fun _ _ => rfl)) (pa_cons (pe_ix ix_list (pe_lst (pa_cons (pv 3) (pa_cons (pv 2) pa_nil))) (pe_op op_sub (pv 1) pe_int) (fun _ _ => rfl)) pa_nil)))))))))))))))
      (fun a ob k d pn hz hf => pss_one (ps_ret (pe_word Gw (roomH_of (hr.mono (by decide))) rfl gw kw bw hz hf (pv 4)))))
      (pss_one (ps_ret pe_str)), ?_⟩
    unfold tSeq
    dsimp only
    generalize hW : wAs _ _ _ _ _ _ = Wx
    have hE : ∀ (D : Addr) (i : Nat) (H1 : Hp), Sm H H1 → Xw K U bt se D i → (∀ H', Sm H H' → Q (.str (wordS i)) H') → Wx (.ref D) none [some (.ref p), some (.int way), some (.int n), some (.int o), none] H1 := by
      intro D i H1 s1 XD hq
      rw [← hW]
      exact ⟨true, XD.se, fun _ a ha => ⟨_, rfl, D, i, rfl, rfl, XD.wd, fun b z => (by cases z), fun H' s' => hq H' (s1.trans s')⟩, fun z => by cases z⟩
    have gone : (∃ h, aget S.hns n = some h) ∨ (aget S.hns n = none ∧ (∃ h, aget S.hns o = some h) ∧ ∀ H1, Sm H H1 → Wx (.ref U.noHand) none [some (.ref p), some (.int way), some (.int n), some (.int o), none] H1) := by
      rcases cs with ⟨z, y, q⟩ | ⟨h, _, _, z, _⟩ | ⟨h, _, z, _⟩
      · exact .inr ⟨z, y, fun H1 s1 => hE _ 0 H1 s1 XH q⟩
      · exact .inl ⟨h, z⟩
      · exact .inl ⟨h, z⟩
    have only : way ≠ 0 → way ≠ 4 → aget S.hns n = none ∧ (∃ h, aget S.hns o = some h) ∧ ∀ H1, Sm H H1 → Wx (.ref U.noHand) none [some (.ref p), some (.int way), some (.int n), some (.int o), none] H1 := fun y0 y4 => by
      rcases cs with ⟨z, y, q⟩ | ⟨h, _, z, _⟩ | ⟨h, z, _⟩
      · exact ⟨z, y, fun H1 s1 => hE _ 0 H1 s1 XH q⟩
      · exact absurd z y4
      · exact absurd z y0
    have none_ : ∀ {A : Prop} {h : Hn}, aget S.hns n = none → aget S.hns n = some h → A := fun {A h} y z => by rw [y] at z; cases z
    obtain ⟨dx, fs, hp, nf⟩ := ly.ins
    refine ⟨_, rfl, rfl, _, rfl, ?_⟩
    by_cases e0 : way = 0
    · refine ifT (decide_eq_true (by rw [e0])) ?_
      refine ⟨_, rfl, p, dx, fs, rfl, hp, nf _ (by decide +kernel), _, rfl, Ks, p, S, F, n, rfl, ly, W, hn, fun h hh => ?_, fun z => ?_⟩
      · rcases cs with ⟨z, _⟩ | ⟨_, _, z, _⟩ | ⟨h', _, hh', q⟩
        · exact none_ z hh
        · omega
        · rw [hh] at hh'
          obtain rfl := Option.some.inj hh'
          exact q
      · rcases gone with ⟨h, y⟩ | ⟨_, _, q⟩
        · exact none_ z y
        · exact q H (Sm.refl H)
    refine ifF (decide_eq_false fun z => e0 (V.int.inj z)) ⟨_, rfl, rfl, _, rfl, ?_⟩
    by_cases e1 : way = 1
    · obtain ⟨z, _, q⟩ := only e0 (by omega)
      refine ifT (decide_eq_true (by rw [e1])) ?_
      exact ⟨_, rfl, p, dx, fs, rfl, hp, nf _ (by decide +kernel), _, rfl, Ks, p, S, F, n, rfl, ly, W, hn, fun h hh => none_ z hh, fun _ => q H (Sm.refl H)⟩
    refine ifF (decide_eq_false fun z => e1 (V.int.inj z)) ⟨_, rfl, rfl, _, rfl, ?_⟩
    by_cases e2 : way = 2
    · obtain ⟨z, _, q⟩ := only e0 (by omega)
      refine ifT (decide_eq_true (by rw [e2])) ?_
      exact ⟨_, rfl, p, dx, fs, rfl, hp, nf _ (by decide +kernel), _, rfl, p, S, F, n, rfl, ly, hn, fun h hh => none_ z hh, fun _ => q H (Sm.refl H)⟩
    refine ifF (decide_eq_false fun z => e2 (V.int.inj z)) ⟨_, rfl, rfl, _, rfl, ?_⟩
    by_cases e3 : way = 3
    · obtain ⟨z, _, q⟩ := only e0 (by omega)
      refine ifT (decide_eq_true (by rw [e3])) ?_
      exact ⟨_, rfl, p, dx, fs, rfl, hp, nf _ (by decide +kernel), _, rfl, Ks, p, S, F, n, rfl, ly, W, hn, fun h hh => none_ z hh, fun _ => q H (Sm.refl H)⟩
    refine ifF (decide_eq_false fun z => e3 (V.int.inj z)) ⟨_, rfl, rfl, _, rfl, ?_⟩
    by_cases e4 : way = 4
    · refine ifT (decide_eq_true (by rw [e4])) ?_
      refine ⟨_, rfl, p, dx, fs, rfl, hp, nf _ (by decide +kernel), _, rfl, Ks, p, S, F, n, rfl, ly, W, hn, fun z => ?_, fun h hh => ?_⟩
      · rcases gone with ⟨h, y⟩ | ⟨_, _, q⟩
        · exact none_ z y
        · exact q H (Sm.refl H)
      · rcases cs with ⟨z, _⟩ | ⟨h', b', _, hh', nd, hb', al, q⟩ | ⟨_, z, _⟩
        · exact none_ z hh
        · rw [hh] at hh'
          obtain rfl := Option.some.inj hh'
          refine ⟨fun z => absurd z nd, fun _ b hb => ?_⟩
          rw [hb] at hb'
          obtain rfl := Option.some.inj hb'
          exact ⟨fun _ => hE _ 2 H (Sm.refl H) XD q, fun z => (by rw [al] at z; cases z), fun z => (by rw [al] at z; cases z)⟩
        · omega
    refine ifF (decide_eq_false fun z => e4 (V.int.inj z)) ?_
    obtain ⟨z, ⟨h, hh⟩, q⟩ := only e0 e4
    refine ⟨_, rfl, p, dx, fs, rfl, hp, nf _ (by decide +kernel), _, rfl, _, rfl, by show 2 ≤ sizeLine; decide, fun l hl => ?_⟩
    have s1 : Sm H (upd H l (.lst [.int n, .int o])) := Sm.new hl
    have e1' : upd H l (.lst [.int n, .int o]) l = some (.lst [.int n, .int o]) := upd_same
    generalize upd H l (.lst [.int n, .int o]) = H1 at s1 e1'
    obtain e5 | e6 : way = 5 ∨ way = 6 := by omega
    · subst e5
      refine ⟨_, rfl, _, _, rfl, rfl, l, _, 0, _, rfl, rfl, SqL.of e1', rfl, _, rfl, _, rfl, by show 2 ≤ sizeLine; decide, fun l2 hl2 => ?_⟩
      have s2 : Sm H1 (upd H1 l2 (.lst [.int o, .int n])) := Sm.new hl2
      have e2' : upd H1 l2 (.lst [.int o, .int n]) l2 = some (.lst [.int o, .int n]) := upd_same
      generalize upd H1 l2 (.lst [.int o, .int n]) = H2 at s2 e2'
      exact ⟨_, rfl, _, _, rfl, rfl, l2, _, 0, _, rfl, rfl, SqL.of e2', rfl, p, S, F, n, o, rfl, ly.sm (s1.trans s2), hn, ho, .inl z, q _ (s1.trans s2)⟩
    · subst e6
      refine ⟨_, rfl, _, _, rfl, rfl, l, _, 1, _, rfl, rfl, SqL.of e1', rfl, _, rfl, _, rfl, by show 2 ≤ sizeLine; decide, fun l2 hl2 => ?_⟩
      have s2 : Sm H1 (upd H1 l2 (.lst [.int o, .int n])) := Sm.new hl2
      have e2' : upd H1 l2 (.lst [.int o, .int n]) l2 = some (.lst [.int o, .int n]) := upd_same
      generalize upd H1 l2 (.lst [.int o, .int n]) = H2 at s2 e2'
      exact ⟨_, rfl, _, _, rfl, rfl, l2, _, 1, _, rfl, rfl, SqL.of e2', rfl, p, S, F, o, n, rfl, ly.sm (s1.trans s2), ho, hn, .inr ⟨⟨h, hh⟩, z⟩, q _ (s1.trans s2)⟩
end
end Vs
namespace Vs
open PySem PySem.Spec PyProof.Rows L2 L2H
/-! ### _law_clash -/
/-- hand n bears these drafts, all else stands -/
structure Wr (Ks : List Str) (S S' : Sh) (n : Int) (h : Hn) : Prop where
  W : WF Ks S'
  brs : S'.brs = S.brs
  now : S'.now = S.now
  bm : S'.bm = S.bm
  hm : S'.hm = S.hm
  len : S'.hns.length = S.hns.length
  at_ : aget S'.hns n = some h
  off : ∀ m, m ≠ n → aget S'.hns m = aget S.hns m
theorem Wr.write {Ks : List Str} {S S' : Sh} {n : Int} {h : Hn} (w : Wr Ks S S' n h) {k : Str} (hk : k ∈ Ks) (v : Option Int) : Wr Ks S (S'.write n h k v) n { h with drafts := aput h.drafts k v } where
  W := w.W.write w.at_ hk v
  brs := w.brs
  now := w.now
  bm := w.bm
  hm := w.hm
  len := by
    show (aput S'.hns n _).length = _
    rw [aput_old _ w.at_, List.length_map]; exact w.len
  at_ := aget_put_same _ _ _
  off := fun m hm => (aget_put_ne hm).trans (w.off m hm)
def drf (n : Int) (ks : List Str) : List (Str × Option Int) := ks.map fun k => (k, some n)
theorem drf_keys (n : Int) (ks : List Str) : (drf n ks).map (·.1) = ks := by
  unfold drf
  rw [List.map_map]
  exact List.map_id _
theorem drf_next {ys : List Str} (nd : ys.Nodup) {j : Nat} {y : Str} (h : ys[j]? = some y) (n : Int) : aput (drf n (ys.take j)) y (some n) = drf n (ys.take (j + 1)) := by
  have e := take_snoc h
  have no : y ∉ ys.take j := fun m => by
    have : (ys.take (j + 1)).Nodup := nd.sublist (List.take_sublist _ _)
    rw [e, List.nodup_append] at this
    exact this.2.2 y m y (by simp) rfl
  rw [aput_new _ (aget_none_of (by rw [drf_keys]; exact no)), e]
  unfold drf
  rw [List.map_append]; rfl
theorem drf_get {n : Int} {ys : List Str} {y : Str} (nd : ys.Nodup) (h : y ∈ ys) : aget (drf n ys) y = some (some n) :=
  aget_of_mem (by rw [drf_keys]; exact nd) (List.mem_map.mpr ⟨y, h, rfl⟩)
theorem clash_first {b : Br} {h : Hn} {ys : List Str} {t : Int} {k : Str} (ks : h.drafts.map (·.1) = ys) (mk : ∀ k ∈ ys, aget b.marks k = some t) (lt : h.mom < t) (hk : (sortK ys)[0]? = some k) : clashM b h = some k := by
  unfold clashM
  rw [ks]
  cases e : sortK ys with
  | nil => rw [e] at hk; cases hk
  | cons z r =>
    rw [e] at hk
    obtain rfl : z = k := Option.some.inj hk
    have m : aget b.marks z = some t := mk z (mem_sortK.mp (by rw [e]; exact List.mem_cons_self))
    rw [List.find?_cons, m, show decide (h.mom < (some t).getD 0) = true from decide_eq_true lt]
theorem clash_none {b : Br} {h : Hn} (mk : ∀ k m, aget b.marks k = some m → m ≤ h.mom) (h0 : 0 ≤ h.mom) : clashM b h = none := by
  refine List.find?_eq_none.mpr fun k _ => ?_
  have : ¬ h.mom < (aget b.marks k).getD 0 := by
    cases e : aget b.marks k with
    | none => show ¬ h.mom < 0; omega
    | some m => show ¬ h.mom < m; have := mk k m e; omega
  simp [this]
section
variable {P : Program} {w : World} {K : PySem.W.Frag} {mg : Str → Option Value} {base : Heap} {T : Cs} {U : Es} {Pt : Addr}
/-- what stands beside the shelf: the lists -/
structure Lst2 (Pt : Addr) (l kl po : Addr) (xs ys zs : List V) (H : Hp) (F : Addr → Prop) : Prop where
  hl : H l = some (.lst xs)
  nl : ¬ F l
  hk : H kl = some (.lst ys)
  nk : ¬ F kl
  hp : H po = some (.lst zs)
  np : ¬ F po
  tab : GxR.TabG H Pt
theorem Lst2.step {Pt l kl po : Addr} {xs ys zs : List V} {H H' : Hp} {F F' : Addr → Prop} (h : Lst2 Pt l kl po xs ys zs H F) (s : Step H F H' F') : Lst2 Pt l kl po xs ys zs H' F' :=
  let ⟨a, b⟩ := s.keep l _ h.hl (ntL _) h.nl
  let ⟨c, d⟩ := s.keep kl _ h.hk (ntL _) h.nk
  let ⟨e, f⟩ := s.keep po _ h.hp (ntL _) h.np
  ⟨a, b, c, d, e, f, s.tab _ h.tab⟩
theorem Lst2.sm {Pt l kl po : Addr} {xs ys zs : List V} {H H' : Hp} {F : Addr → Prop} (h : Lst2 Pt l kl po xs ys zs H F) (s : Sm H H') : Lst2 Pt l kl po xs ys zs H' F := h.step (Step.sm s)
def spClashL (T : Cs) (Pt : Addr) : Sp := fun vs H Q _ => ∃ (Ks : List Str) (p kl po : Addr) (zs : List V) (S : Sh) (F : Addr → Prop) (ys : List Str) (k0 : Str) (b : Br), vs = [.ref p, .ref kl] ∧ ShAt T H p S F ∧ WF Ks S ∧ GxR.TabG H Pt ∧ H kl = some (.lst (ys.map V.str)) ∧ ¬ F kl ∧ H po = some (.lst zs) ∧ ¬ F po ∧
  ys.Nodup ∧ (∀ k ∈ ys, k ∈ Ks) ∧ (sortK ys)[0]? = some k0 ∧ aget S.brs 0 = some b ∧ b.alive = true ∧ S.hns.length ≤ 100 ∧ S.now ≤ 100 ∧ 0 ≤ S.hm ∧ S.hm ≤ 100 ∧ ∀ H', H' po = some (.lst zs) → Q (.str k0) H'
abbrev nClashL : List Str := ["_law_shelf", "_law_keys", "_law_hands", "_law_hand", "_law_key", "_law_e"]
theorem sc_clashL : FnScope nClashL ["_law_shelf", "_law_keys"] (defScope s__law_clash) := ⟨rfl, rfl, rfl, by decide +kernel, rfl, by decide +kernel, by decide +kernel⟩
theorem ok_clashL {f fw bt se : Addr} {fd fdw : FuncData} (F : Fun K "_law_clash" "_law_clash" s__law_clash f fd) (C : Cf K T) (Xf : XfC K U.clash) (nk : PySem.W.findIn K (.ref U.clash) "key" = some none) (gc : mg "Clash" = some (.ref U.clash)) (cc : PySem.W.exmOne K (.ref U.clash) (.ref U.clash) = some true) (XC : WordF K U bt U.clash 3)
    (gw : mg "_law_word" = some (.ref fw)) (kw : PySem.W.keepIn K (.ref fw) = true) (bw : Binds K fdw ["_law_e"] []) (Gw : FnP P w K mg base CX0 1 fw fdw ["_law_e"] (spWord K U bt))
    (cbe : Mx P w K mg base (L2N.CX P w) T.S "begin" 4 ["self", "branch"] (spBegin T U)) (cwr : Mx P w K mg base (L2N.CX P w) T.S "write" 5 ["self", "hand", "key", "value"] (spWrite T U Pt)) (cco : Mx P w K mg base (L2N.CX P w) T.S "commit" 4 ["self", "hand"] (spCommit T U))
    (clo : MxH P w K mg base (L2.CX P w) T.S "look" 5 ["self", "hand", "key"] (spLook T U Pt)) :
    FnOk P w K mg base CX0 6 f fd ["_law_shelf", "_law_keys"] (spClashL T Pt) := by
  obtain ⟨fbe, fdbe, mbe, bbe, Gbe⟩ := cbe
  obtain ⟨fwr, fdwr, mwr, bwr, Gwr⟩ := cwr
  obtain ⟨fco, fdco, mco, bco, Gco⟩ := cco
  obtain ⟨flo, fdlo, mlo, blo, Glo⟩ := clo
  refine F.ok sc_clashL (fun vs H Q E h => ?_) (fun cdv A outer s H vs Q E hr h => ?_)
  · obtain ⟨Ks, p, kl, po, zs, S, F, ys, k0, b, rfl, _⟩ := h
    rfl
  · obtain ⟨Ks, p, kl, po, zs, S, F, ys, k0, b, rfl, sh, W, tab, hkl, nkl, hpo, npo, nd, sub, hk0, hb, al, lenH, now1, hm0, hm1, kq⟩ := h
    refine ⟨_, pss_cons (ps_set (i := 2) sc_clashL.nd rfl (.inl rfl) (pe_lst (pa_cons (pe_meth (pv 0) C.S mbe Gbe (hr.mono (by decide)) bbe .nil passLN (pa_cons pe_int pa_nil)) (pa_cons (pe_meth (pv 0) C.S mbe Gbe (hr.mono (by decide)) bbe .nil passLN (pa_cons pe_int pa_nil)) pa_nil))))
      (pss_cons (ps_for PassesOwn.never rfl (pi_list (pv 2)) (pg_name (i := 3) sc_clashL.nd rfl (.inl rfl))
        (pss_one (ps_for PassesOwn.never rfl (pi_list (pv 1)) (pg_name (i := 4) sc_clashL.nd rfl (.inl rfl))
          (pss_one (ps_expr (pe_meth (pv 0) C.S mwr Gwr hr bwr .nil passLN (pa_cons (pv 3) (pa_cons (pv 4) (pa_cons (pv 3) pa_nil)))))))))
      (pss_cons (ps_expr (pe_meth (pv 0) C.S mco Gco (hr.mono (by decide)) bco .nil passLN (pa_cons (pe_ix ix_list (pv 2) pe_int (fun _ _ => rfl)) pa_nil)))
      (pss_cons (L2N.ps_try_as (i := 5) (tb := fun W => tDrop (tMethT T.S "commit" (spCommit T U) (fun σ cls d H => W cls d σ H) (tVar 0) (tCons (tOp (rIxL K) (tVar 2) (tC (.int 1))) tNil)))
        (ts := fun a k d => tIfS (tAnd (tTest (tOp rEq (tCallS (spWordA K U bt a k d) (fun _ => E0) (tCons (tVar 5) tNil)) (tC (.str "clash"))))
          (tTest (tOp rEq (tMethH T.S "look" (spLook T U Pt) (fun _ => E0) (tVar 0) (tCons (tOp (rIxL K) (tVar 2) (tC (.int 1))) (tCons (tOp (rIxL K) (tVar 1) (tC (.int 0))) tNil))) (tOp (rIxL K) (tVar 2) (tC (.int 1)))))) (tRet (tXf a k d U.clash "key" (tVar 5))) tNext) rfl rfl sc_clashL.nd rfl rfl ⟨rfl, by decide, .inl gc⟩ takesN0
      (fun W pn xe tk _ => pss_one (ps_expr (pe_methT (pv 0) C.S mco Gco (hr.mono (by decide)) bco (fun σ => L2N.passAt tk σ) (pa_cons (pe_ix ix_list (pv 2) pe_int (fun _ _ => rfl)) pa_nil))))
      (fun a ob k d pn hz hf => pss_one (ps_if (PW.pt (pw_and (pt_cmpR op_eq (pe_word Gw (roomH_of (hr.mono (by decide))) rfl gw kw bw hz hf (pv 5)) pe_str (nomark _))
        (pw_and1 (pt_cmpR op_eq (pe_methH (pv 0) C.S mlo Glo ⟨(roomH_of hr).dp, (roomH_of hr).un⟩ (hotC_suite hz hf) blo (fun _ => passEH) (pa_cons (pe_ix ix_list (pv 2) pe_int (fun _ _ => rfl)) (pa_cons (pe_ix ix_list (pv 1) pe_int (fun _ _ => rfl)) pa_nil))) (pe_ix ix_list (pv 2) pe_int (fun _ _ => rfl)) (nomark _)))))
        (pss_one (ps_ret (pe_xf Xf nk hz.zc hf (pv 5)))) pss_nil)))
      (pss_one (ps_ret pe_str))))), ?_⟩
    have al0 : ∀ b', aget S.brs 0 = some b' → b'.alive = true := fun b' h' => by rw [hb] at h'; rw [← Option.some.inj h']; exact al
    have now0 := W.sz.1
    have W1 : WF Ks (S.addHand 0 S.now) := W.addHand ⟨b, hb⟩ now0 (Int.le_refl _) (by omega) ⟨hm0, by omega⟩
    have W2 : WF Ks ((S.addHand 0 S.now).addHand 0 S.now) := W1.addHand ⟨b, hb⟩ now0 (Int.le_refl _) (by show (S.hns ++ [_]).length < 1000; rw [List.length_append]; show S.hns.length + 1 < 1000; omega) (by show 0 ≤ S.hm + 1 ∧ S.hm + 1 < 10 ^ 18; omega)
    have a1 : aget (S.addHand 0 S.now).hns S.hm = some ⟨0, S.now, []⟩ := hand_new W 0
    have a2 : aget ((S.addHand 0 S.now).addHand 0 S.now).hns (S.hm + 1) = some ⟨0, S.now, []⟩ := hand_new W1 0
    have a1' : aget ((S.addHand 0 S.now).addHand 0 S.now).hns S.hm = some ⟨0, S.now, []⟩ := aget_left a1
    obtain ⟨dx, fs, hp, no⟩ := sh.ly.ins
    refine ⟨_, rfl, p, dx, fs, rfl, hp, no _ (by decide +kernel), Ks, p, S, F, 0, rfl, sh.ly, W, by decide, fun b' hb' => ⟨fun _ H1 F1 sh1 st1 => ?_, fun z => by rw [al0 b' hb'] at z; cases z⟩, fun z => by rw [hb] at z; cases z⟩
    obtain ⟨dx, fs, hp, no⟩ := sh1.ly.ins
    refine ⟨_, rfl, p, dx, fs, rfl, hp, no _ (by decide +kernel), Ks, p, S.addHand 0 S.now, F1, 0, rfl, sh1.ly, W1, by decide, fun b' hb' => ⟨fun _ H2 F2 sh2 st2 => ?_, fun z => by rw [al0 b' hb'] at z; cases z⟩, fun z => by rw [show aget (S.addHand 0 S.now).brs 0 = some b from hb] at z; cases z⟩
    have sh2 : ShAt T H2 p ((S.addHand 0 S.now).addHand 0 S.now) F2 := sh2
    refine ⟨by show 2 ≤ sizeLine; decide, fun l hl => ?_⟩
    have k2 := (st1.trans st2).keep kl _ hkl (ntL _) nkl
    have k3 := (st1.trans st2).keep po _ hpo (ntL _) npo
    have L3 : Lst2 Pt l kl po [.int S.hm, .int (S.hm + 1)] (ys.map V.str) zs (upd H2 l (.lst [.int S.hm, .int (S.hm + 1)])) F2 :=
      ⟨upd_same, sh2.ly.new hl, by rw [upd_ne (ne_of_none k2.1 hl)]; exact k2.1, k2.2, by rw [upd_ne (ne_of_none k3.1 hl)]; exact k3.1, k3.2, (Sm.new hl).tab _ ((st1.trans st2).tab _ tab)⟩
    have sh3 := sh2.sm (Sm.new (o := .lst [.int S.hm, .int (S.hm + 1)]) hl)
    have L3' : Lst2 Pt l kl po [.int S.hm, .int (S.addHand 0 S.now).hm] (ys.map V.str) zs (upd H2 l (.lst [.int S.hm, .int (S.addHand 0 S.now).hm])) F2 := L3
    have sh3' : ShAt T (upd H2 l (.lst [.int S.hm, .int (S.addHand 0 S.now).hm])) p ((S.addHand 0 S.now).addHand 0 S.now) F2 := sh3
    clear L3 sh3
    generalize upd H2 l (.lst [.int S.hm, .int (S.addHand 0 S.now).hm]) = H3 at L3' sh3'
    have L3 : Lst2 Pt l kl po [.int S.hm, .int (S.hm + 1)] (ys.map V.str) zs H3 F2 := L3'
    clear L3' k2 k3 hpo npo sh2 st2 sh1 st1 hl hkl nkl hp no sh
    have b2 : ((S.addHand 0 S.now).addHand 0 S.now).brs = S.brs := rfl
    have n2 : ((S.addHand 0 S.now).addHand 0 S.now).now = S.now := rfl
    have l2 : ((S.addHand 0 S.now).addHand 0 S.now).hns.length = S.hns.length + 2 := by
      show (S.hns ++ [_] ++ [_]).length = _
      rw [List.length_append, List.length_append]; rfl
    generalize (S.addHand 0 S.now).addHand 0 S.now = S2 at W2 a1' a2 sh3' b2 n2 l2
    clear a1 W1
    generalize hn1 : S.hm = n1 at *
    have small : ∀ {n : Int}, n = n1 ∨ n = n1 + 1 → n.natAbs < 10 ^ 20 ∧ isVal n = true := fun {n} h => by
      refine ⟨Nat.lt_trans (show n.natAbs < 1000 by omega) (by decide), ?_⟩
      unfold isVal
      rw [decide_eq_true (show 0 ≤ n by omega), decide_eq_true (show n ≤ 999999 by omega)]; rfl
    refine ⟨_, rfl, l, rfl, ⟨_, SqL.of L3.hl⟩, ?_⟩
    refine for_list (K := K) (a := l) (xs := [.int n1, .int (n1 + 1)]) (fun j σ H4 => (∃ x3 x4, σ = [some (.ref p), some (.ref kl), some (.ref l), x3, x4, none]) ∧ ∃ S' F', ShAt T H4 p S' F' ∧ WF Ks S' ∧ S'.brs = S.brs ∧ S'.now = S.now ∧ S'.hns.length = S.hns.length + 2 ∧
        aget S'.hns n1 = some ⟨0, S.now, if 0 < j then drf n1 ys else []⟩ ∧ aget S'.hns (n1 + 1) = some ⟨0, S.now, if 1 < j then drf (n1 + 1) ys else []⟩ ∧ Lst2 Pt l kl po [.int n1, .int (n1 + 1)] (ys.map V.str) zs H4 F')
      ⟨⟨_, _, rfl⟩, S2, F2, sh3', W2, b2, n2, l2, a1', a2, L3⟩ (fun j σ H4 _ ⟨_, _, _, _, _, _, _, _, _, _, h⟩ => SqL.of h.hl) ?_ ?_
    · rintro j x σ H4 hx ⟨⟨x3, x4, rfl⟩, S', F', sh4, W4, b4, n4, l4, c1, c2, L4⟩
      obtain ⟨n, rfl, hn, cn, fin⟩ : ∃ n : Int, x = .int n ∧ (n = n1 ∨ n = n1 + 1) ∧ aget S'.hns n = some ⟨0, S.now, []⟩ ∧ ∀ S'' : Sh, aget S''.hns n = some ⟨0, S.now, drf n ys⟩ → (∀ m, m ≠ n → aget S''.hns m = aget S'.hns m) →
          aget S''.hns n1 = some ⟨0, S.now, if 0 < j + 1 then drf n1 ys else []⟩ ∧ aget S''.hns (n1 + 1) = some ⟨0, S.now, if 1 < j + 1 then drf (n1 + 1) ys else []⟩ := by
        match j, hx with
        | 0, hx =>
          obtain rfl : V.int n1 = x := Option.some.inj hx
          exact ⟨n1, rfl, .inl rfl, c1, fun S'' e o => ⟨e, by rw [o (n1 + 1) (by omega)]; exact c2⟩⟩
        | 1, hx =>
          obtain rfl : V.int (n1 + 1) = x := Option.some.inj hx
          exact ⟨n1 + 1, rfl, .inr rfl, c2, fun S'' e o => ⟨by rw [o n1 (by omega)]; exact c1, e⟩⟩
      obtain ⟨nb, vb⟩ := small hn
      refine ⟨_, rfl, kl, rfl, ⟨_, SqL.of L4.hk⟩, ?_⟩
      refine for_list (K := K) (a := kl) (xs := ys.map V.str) (fun i σ H5 => (∃ x4, σ = [some (.ref p), some (.ref kl), some (.ref l), some (.int n), x4, none]) ∧ ∃ S'' F'', ShAt T H5 p S'' F'' ∧ Wr Ks S' S'' n ⟨0, S.now, drf n (ys.take i)⟩ ∧ Lst2 Pt l kl po [.int n1, .int (n1 + 1)] (ys.map V.str) zs H5 F'')
        ⟨⟨_, rfl⟩, S', F', sh4, ⟨W4, rfl, rfl, rfl, rfl, rfl, cn, fun _ _ => rfl⟩, L4⟩ (fun i σ H5 _ ⟨_, _, _, _, _, h⟩ => SqL.of h.hk) ?_ ?_
      · rintro i x σ H5 hx ⟨⟨x4, rfl⟩, S5, F5, sh5, w5, L5⟩
        obtain ⟨y, hy, rfl⟩ : ∃ y, ys[i]? = some y ∧ V.str y = x := by
          rw [List.getElem?_map] at hx
          cases e : ys[i]? with
          | none => rw [e] at hx; cases hx
          | some y => rw [e] at hx; exact ⟨y, rfl, Option.some.inj hx⟩
        have yK := sub y (List.mem_of_getElem? hy)
        obtain ⟨kb, kl8⟩ := keyB_of (W.key y yK)
        obtain ⟨dx, fs, hp, no⟩ := sh5.ly.ins
        refine ⟨_, rfl, p, dx, fs, rfl, hp, no _ (by decide +kernel), _, rfl, _, rfl, _, rfl, Ks, p, S5, F5, n, y, n, rfl, sh5, w5.W, L5.tab, nb, kl8, nb, fun h hh => ⟨fun _ _ H6 F6 sh6 st6 => ?_, fun z => by rw [kb, vb] at z; cases z⟩, fun z => by rw [w5.at_] at z; cases z⟩
        rw [w5.at_] at hh
        obtain rfl := Option.some.inj hh
        have w6 := w5.write yK (some n)
        dsimp only at w6
        rw [drf_next nd hy n] at w6
        exact ⟨⟨_, rfl⟩, _, F6, sh6, w6, L5.step st6⟩
      · rintro σ H5 ⟨⟨x4, rfl⟩, S5, F5, sh5, w5, L5⟩
        rw [List.length_map, List.take_length] at w5
        obtain ⟨f1, f2⟩ := fin S5 w5.at_ w5.off
        exact ⟨⟨_, _, rfl⟩, S5, F5, sh5, w5.W, w5.brs.trans b4, w5.now.trans n4, w5.len.trans l4, f1, f2, L5⟩
    · rintro σ H4 ⟨⟨x3, x4, rfl⟩, S', F', sh4, W4, b4, n4, l4, c1, c2, L4⟩
      have c1 : aget S'.hns n1 = some ⟨0, S.now, drf n1 ys⟩ := c1
      have c2 : aget S'.hns (n1 + 1) = some ⟨0, S.now, drf (n1 + 1) ys⟩ := c2
      have hb4 : aget S'.brs 0 = some b := by rw [b4]; exact hb
      have al4 : ∀ b', aget S'.brs 0 = some b' → b' = b := fun b' h' => by rw [hb4] at h'; exact (Option.some.inj h').symm
      have k0y : k0 ∈ ys := mem_sortK.mp (List.mem_of_getElem? hk0)
      have nd1 : ∀ n : Int, drf n ys ≠ [] := fun n e => by
        have := (drf_keys n ys)
        rw [e] at this
        rw [← this] at k0y; cases k0y
      have nc : clashM b ⟨0, S.now, drf n1 ys⟩ = none := clash_none (fun k m h => (W.mkb 0 b k m hb h).2) now0
      obtain ⟨nb1, _⟩ := small (.inl rfl)
      obtain ⟨nb2, _⟩ := small (n := n1 + 1) (.inr rfl)
      obtain ⟨dx, fs, hp, no⟩ := sh4.ly.ins
      refine ⟨_, rfl, p, dx, fs, rfl, hp, no _ (by decide +kernel), _, rfl, l, _, 0, _, rfl, rfl, SqL.of L4.hl, rfl, Ks, p, S', F', n1, rfl, sh4.ly, W4, nb1, fun z => (by rw [c1] at z; cases z), fun h hh => ?_⟩
      rw [c1] at hh
      obtain rfl := Option.some.inj hh
      refine ⟨fun z => absurd z (nd1 n1), fun _ b' hb' => ?_⟩
      obtain rfl := al4 b' hb'
      refine ⟨fun z => (by rw [al] at z; cases z), fun _ k z => (by rw [nc] at z; cases z), fun _ _ H5 F5 sh5 st5 => ?_⟩
      have Sd := settled W4 c1 hb'
      have W5 : WF Ks ((S'.settle 0 ⟨0, S.now, drf n1 ys⟩).delHand n1) := (WF.settle W4 c1 (by omega)).delHand n1
      have c5 : aget ((S'.settle 0 ⟨0, S.now, drf n1 ys⟩).delHand n1).hns (n1 + 1) = some ⟨0, S.now, drf (n1 + 1) ys⟩ := by
        show aget (adel (S'.settle 0 ⟨0, S.now, drf n1 ys⟩).hns n1) (n1 + 1) = _
        rw [aget_del, if_neg (by omega), Sd.hns]; exact c2
      obtain ⟨b5, hb5, _, _, al5, _, mk5⟩ := Sd.at_
      have hb5 : aget ((S'.settle 0 ⟨0, S.now, drf n1 ys⟩).delHand n1).brs 0 = some b5 := hb5
      have L5 := L4.step st5
      have sh5 : ShAt T H5 p ((S'.settle 0 ⟨0, S.now, drf n1 ys⟩).delHand n1) F5 := sh5
      generalize (S'.settle 0 ⟨0, S.now, drf n1 ys⟩).delHand n1 = S5 at sh5 W5 c5 hb5
      have cl5 : clashM b5 ⟨0, S.now, drf (n1 + 1) ys⟩ = some k0 := by
        refine clash_first (ys := ys) (t := S'.now + 1) (drf_keys _ _) (fun k hk => ?_) (by show S.now < S'.now + 1; omega) hk0
        rw [mk5 k, if_pos (mem_sortK.mpr (by rw [drf_keys]; exact hk))]
      obtain ⟨dx, fs, hp, no⟩ := sh5.ly.ins
      refine ⟨_, rfl, p, dx, fs, rfl, hp, no _ (by decide +kernel), _, rfl, l, _, 1, _, rfl, rfl, SqL.of L5.hl, rfl, Ks, p, S5, F5, n1 + 1, rfl, sh5.ly, W5, nb2, fun z => (by rw [c5] at z; cases z), fun h hh => ?_⟩
      rw [c5] at hh
      obtain rfl := Option.some.inj hh
      refine ⟨fun z => absurd z (nd1 _), fun _ b' hb' => ?_⟩
      rw [hb5] at hb'
      obtain rfl := Option.some.inj hb'
      refine ⟨fun z => (by rw [al5, al] at z; cases z), fun _ k hk d H6 s6 hd6 => ?_, fun _ z => (by rw [cl5] at z; cases z)⟩
      rw [cl5] at hk
      obtain rfl := Option.some.inj hk
      refine ⟨true, cc, fun _ a ha => ?_, fun z => by cases z⟩
      refine ⟨_, rfl, U.clash, 3, rfl, rfl, XC, fun b z => (by obtain rfl := Option.some.inj z; exact ⟨_, hd6⟩), fun H7 s7 => ⟨rfl, _, rfl, ifT rfl ?_⟩⟩
      obtain ⟨y0, hy0⟩ : ∃ y0, ys[0]? = some y0 := by
        cases e : ys with
        | nil => rw [e] at k0y; cases k0y
        | cons y r => exact ⟨y, rfl⟩
      have y0m := List.mem_of_getElem? hy0
      obtain ⟨kb, kl8⟩ := keyB_of (W.key y0 (sub y0 y0m))
      have ix0 : atI (ys.map V.str) 0 = some (.str y0) := atI_nat (j := 0) (by rw [List.getElem?_map, hy0]; rfl)
      have s57 := s6.trans s7
      have L7 := L5.sm s57
      have sh7 := sh5.sm s57
      have hd7 : H7 d = some (.xd [("key", .str k0)]) := s7.keep _ _ hd6 fun _ z => by cases z
      obtain ⟨dx, fs, hp, no⟩ := sh7.ly.ins
      refine ⟨_, rfl, p, dx, fs, rfl, hp, no _ (by decide +kernel), _, rfl, l, _, 1, _, rfl, rfl, SqL.of L7.hl, rfl, _, rfl, kl, _, 0, _, rfl, rfl, SqL.of L7.hk, ix0, Ks, p, S5, F5, n1 + 1, y0, rfl, sh7.ly, W5, L7.tab, nb2, kl8, fun H8 s8 => ⟨fun h hh => ⟨fun _ => ?_, fun z => (by rw [kb] at z; cases z)⟩, fun z => (by rw [c5] at z; cases z)⟩⟩
      rw [c5] at hh
      obtain rfl := Option.some.inj hh
      have lk : lookM S5 ⟨0, S.now, drf (n1 + 1) ys⟩ y0 = some (n1 + 1) := by
        unfold lookM
        dsimp only
        rw [drf_get nd y0m]
      rw [lk]
      have L8 := L7.sm s8
      refine ⟨_, rfl, l, _, 1, _, rfl, rfl, SqL.of L8.hl, rfl, rfl, _, rfl, ?_⟩
      rw [show decide (optV (some (n1 + 1)) = V.int (n1 + 1)) = true from decide_eq_true rfl]
      exact ⟨_, rfl, rfl, rfl, d, _, _, rfl, s8.keep _ _ hd7 (fun _ z => by cases z), rfl, kq H8 L8.hp⟩
end
end Vs
namespace Vs
open PySem PySem.Spec PyProof.Rows L2
/-! ## k16: the law -/
section
variable {P : Program} {w : World} {K : PySem.W.Frag} {mg : Str → Option Value} {base : Heap} {T : Cs} {U : Es} {Pt : Addr}
/-- what stands: the shelf, the row, the script, the pool -/
structure O6 (K : PySem.W.Frag) (T : Cs) (Pt sc : Addr) (ns : List Int) (ro po p : Addr) (Ks : List Str) (H : Hp) (F : Addr → Prop) (S : Sh) : Prop where
  sh : ShAt T H p S F
  row : RowAt H ro sc
  nr : ¬ F ro
  scr : ((H sc = some (.lst (ns.map V.int)) ∨ ∃ o, H sc = some (.frz o (.lst (ns.map V.int)))) ∧ ¬ F sc ∧ ro ≠ sc) ∨ ∀ H', SqL K H' sc (ns.map V.int)
  pl : H po = some (.lst (Ks.map V.str))
  np : ¬ F po
  nrp : po ≠ ro
  tab : GxR.TabG H Pt
theorem O6.scR {sc : Addr} {ns : List Int} {ro po p : Addr} {Ks : List Str} {H : Hp} {F : Addr → Prop} {S : Sh} (o : O6 K T Pt sc ns ro po p Ks H F S) : ScR K H ro sc (ns.map V.int) := by
  rcases o.scr with ⟨h, _, n⟩ | h
  · exact .inl ⟨n, h⟩
  · exact .inr h
theorem O6.step {sc : Addr} {ns : List Int} {ro po p : Addr} {Ks : List Str} {H H' : Hp} {F F' : Addr → Prop} {S S' : Sh} (o : O6 K T Pt sc ns ro po p Ks H F S) (sh : ShAt T H' p S' F') (st : Step H F H' F') : O6 K T Pt sc ns ro po p Ks H' F' S' := by
  obtain ⟨i, sd, bg, h, y⟩ := o.row
  obtain ⟨r1, r2⟩ := st.keep ro _ h (ntL _) o.nr
  obtain ⟨p1, p2⟩ := st.keep po _ o.pl (ntL _) o.np
  refine ⟨sh, ⟨i, sd, bg, r1, y⟩, r2, ?_, p1, p2, o.nrp, st.tab _ o.tab⟩
  rcases o.scr with ⟨h | ⟨x, h⟩, n1, n2⟩ | h
  · obtain ⟨q1, q2⟩ := st.keep sc _ h (ntL _) n1
    exact .inl ⟨.inl q1, q2, n2⟩
  · obtain ⟨q1, q2⟩ := st.keep sc _ h (fun _ z => by cases z) n1
    exact .inl ⟨.inr ⟨x, q1⟩, q2, n2⟩
  · exact .inr h
theorem O6.sm {sc : Addr} {ns : List Int} {ro po p : Addr} {Ks : List Str} {H H' : Hp} {F : Addr → Prop} {S : Sh} (o : O6 K T Pt sc ns ro po p Ks H F S) (s : Sm H H') : O6 K T Pt sc ns ro po p Ks H' F S := o.step (o.sh.sm s) (Step.sm s)
theorem O6.put {sc : Addr} {ns : List Int} {ro po p : Addr} {Ks : List Str} {H : Hp} {F : Addr → Prop} {S : Sh} (o : O6 K T Pt sc ns ro po p Ks H F S) {xs : List V} (r : RowAt (upd H ro (.lst xs)) ro sc) : O6 K T Pt sc ns ro po p Ks (upd H ro (.lst xs)) F S := by
  obtain ⟨ys, hr⟩ := o.row.at
  refine ⟨o.sh.away o.nr hr (fun _ z => by cases z) _, r, o.nr, ?_, by rw [upd_ne o.nrp]; exact o.pl, o.np, o.nrp, ?_⟩
  · rcases o.scr with ⟨h | ⟨x, h⟩, n1, n2⟩ | h
    · exact .inl ⟨.inl (by rw [upd_ne n2.symm]; exact h), n1, n2⟩
    · exact .inl ⟨.inr ⟨x, by rw [upd_ne n2.symm]; exact h⟩, n1, n2⟩
    · exact .inr h
  · obtain ⟨ps, e, y⟩ := o.tab
    exact ⟨ps, by rw [upd_ne (fun z => by rw [z, hr] at e; cases e)]; exact e, y⟩
/-- behind some commits -/
structure Lp (Ks : List Str) (i : Nat) (S : Sh) (b : Br) : Prop where
  W : WF Ks S
  brs : S.brs = [(0, b)]
  al : b.alive = true
  hns : S.hns = []
  hm : S.hm = i
  now : S.now = i
  bm : S.bm = 1
theorem Lp.get {Ks : List Str} {i : Nat} {S : Sh} {b : Br} (h : Lp Ks i S b) : aget S.brs 0 = some b := by rw [h.brs, aget_cons, if_pos rfl]
theorem Lp.put {Ks : List Str} {i : Nat} {S : Sh} {b : Br} (h : Lp Ks i S b) (hi : i < 6) {k : Str} (hk : k ∈ Ks) (v : Option Int) : ∃ b', Lp Ks (i + 1) (S.putV 0 b k v) b' := by
  refine ⟨{ b with lines := aput b.lines k (b.line k ++ [(S.now + 1, v)]), marks := aput b.marks k (S.now + 1) }, h.W.putV h.get hk v (by rw [h.now]; omega) (by rw [h.hns]; decide) (by rw [h.hm]; omega), ?_, h.al, h.hns, ?_, ?_, h.bm⟩
  · show aput S.brs 0 _ = _
    rw [aput_old _ h.get, h.brs, List.map_cons, List.map_nil, if_pos rfl]
  · show S.hm + 1 = _
    rw [h.hm]; omega
  · show S.now + 1 = _
    rw [h.now]; omega
abbrev nLaw : List Str := ["_law_script", "_law_row", "_law_pool_here", "_law_shelf", "_law_k", "_law_writer", "_law_stays", "_law_branch", "_law_inside", "_law_far", "_law_none", "_law_way"]
theorem sc_law : FnScope nLaw ["_law_script"] (defScope s_law) := ⟨rfl, rfl, rfl, by decide +kernel, rfl, by decide +kernel, by decide +kernel⟩
theorem ok_law {f : Addr} {fd : FuncData} (F : Fun K "law" "law" s_law f fd) (B : Bt mg) (hrev : mg "reversed" = none) (C : Cf K T) (ct : Fx P w K mg base CX0 "_law_taken" 1 ["_law_row", "_law_many"] (spTaken K)) (cpo : Fx P w K mg base CX0 "_law_pool" 2 ["_law_row"] (spPool K))
    (csa : Fx P w K mg base CX0 "_law_same" 5 ["_law_found", "_law_due"] (spSame 3)) (csh : Kx P w K mg base "Shelf" T.S 3 ["self"] (spShelfInit T))
    (cbe : Mx P w K mg base (L2N.CX P w) T.S "begin" 4 ["self", "branch"] (spBegin T U)) (cwr : Mx P w K mg base (L2N.CX P w) T.S "write" 5 ["self", "hand", "key", "value"] (spWrite T U Pt)) (cco : Mx P w K mg base (L2N.CX P w) T.S "commit" 4 ["self", "hand"] (spCommit T U))
    (cfo : Mx P w K mg base (L2N.CX P w) T.S "fork" 3 ["self", "hand"] (spFork T U)) (cdr : Mx P w K mg base (L2N.CX P w) T.S "drop" 2 ["self", "branch"] (spDrop T U)) (clo : Mx P w K mg base (L2N.CX P w) T.S "look" 5 ["self", "hand", "key"] (spLook T U Pt))
    (coh : Fx P w K mg base CX0 "_law_of_hand" 5 ["_law_shelf", "_law_way", "_law_hand", "_law_other"] (spOfHd T)) (cob : Fx P w K mg base CX0 "_law_of_branch" 5 ["_law_shelf", "_law_way", "_law_branch"] (spOfBr T)) (ccl : Fx P w K mg base CX0 "_law_clash" 6 ["_law_shelf", "_law_keys"] (spClashL T Pt)) :
    FnOk P w K mg base CX0 7 f fd ["_law_script"] (spLaw K Pt) := by
  obtain ⟨ft, fdt, gt, kt, bt, Gt⟩ := ct
  obtain ⟨fpo, fdpo, gpo, kpo, bpo, Gpo⟩ := cpo
  obtain ⟨fsa, fdsa, gsa, ksa, bsa, Gsa⟩ := csa
  obtain ⟨fsh, fdsh, gsh, msh, bsh, Gsh⟩ := csh
  obtain ⟨fbe, fdbe, mbe, bbe, Gbe⟩ := cbe
  obtain ⟨fwr, fdwr, mwr, bwr, Gwr⟩ := cwr
  obtain ⟨fco, fdco, mco, bco, Gco⟩ := cco
  obtain ⟨ffo, fdfo, mfo, bfo, Gfo⟩ := cfo
  obtain ⟨fdr, fddr, mdr, bdr, Gdr⟩ := cdr
  obtain ⟨flo, fdlo, mlo, blo, Glo⟩ := clo
  obtain ⟨foh, fdoh, goh, koh, boh, Goh⟩ := coh
  obtain ⟨fob, fdob, gob, kob, bob, Gob⟩ := cob
  obtain ⟨fcl, fdcl, gcl, kcl, bcl, Gcl⟩ := ccl
  refine F.ok sc_law (fun vs H Q E h => ?_) (fun cdv A outer s H vs Q E hr h => ?_)
  · obtain ⟨sc, ns, rfl, _⟩ := h
    rfl
  · obtain ⟨sc, ns, rfl, hS, hT, kq⟩ := h
    refine ⟨_, pss_cons (ps_set (i := 1) sc_law.nd rfl (.inl rfl) (pe_lst (pa_cons (pv 0) (pa_cons pe_int (pa_cons pe_int (pa_cons pe_int pa_nil))))))
      (pss_cons (ps_set (i := 2) sc_law.nd rfl (.inl rfl) (pe_call Gpo (hr.mono (by decide)) rfl gpo kpo bpo .nil pass0 (pa_cons (pv 1) pa_nil)))
      (pss_cons (ps_set (i := 3) sc_law.nd rfl (.inl rfl) (pe_make0 msh Gsh (hr.mono (by decide)) rfl gsh bsh .nil pass0))
      (pss_cons (ps_for PassesOwn.never rfl (pi_range1 (by rfl) B.range (pa_cons (pe_call Gt (hr.mono (by decide)) rfl gt kt bt .nil pass0 (pa_cons (pv 1) (pa_cons pe_int pa_nil))) pa_nil)) (pg_name (i := 4) sc_law.nd rfl (.inl rfl))
        (pss_cons (ps_set (i := 5) sc_law.nd rfl (.inl rfl) (pe_meth (pv 3) C.S mbe Gbe (hr.mono (by decide)) bbe .nil passLN (pa_cons pe_int pa_nil)))
        (pss_cons (ps_expr (pe_meth (pv 3) C.S mwr Gwr (hr.mono (by decide)) bwr .nil passLN (pa_cons (pv 5) (pa_cons (pe_ix ix_list (pv 2) (pe_call Gt (hr.mono (by decide)) rfl gt kt bt .nil pass0 (pa_cons (pv 1) (pa_cons (pe_callB call_len_seq (by rfl) B.len PySem.boot_len (pa_cons (pv 2) pa_nil)) pa_nil))) (fun _ _ => rfl)) (pa_cons (pv 4) pa_nil)))))
        (pss_one (ps_expr (pe_meth (pv 3) C.S mco Gco (hr.mono (by decide)) bco .nil passLN (pa_cons (pv 5) pa_nil)))))))
      (pss_cons (ps_set (i := 6) sc_law.nd rfl (.inl rfl) (pe_meth (pv 3) C.S mbe Gbe (hr.mono (by decide)) bbe .nil passLN (pa_cons pe_int pa_nil)))
      (pss_cons (ps_set (i := 7) sc_law.nd rfl (.inl rfl) (pe_meth (pv 3) C.S mfo Gfo (hr.mono (by decide)) bfo .nil passLN (pa_cons (pv 6) pa_nil)))
      (pss_cons (ps_set (i := 8) sc_law.nd rfl (.inl rfl) (pe_meth (pv 3) C.S mbe Gbe (hr.mono (by decide)) bbe .nil passLN (pa_cons (pv 7) pa_nil)))
      (pss_cons (ps_expr (pe_meth (pv 3) C.S mwr Gwr (hr.mono (by decide)) bwr .nil passLN (pa_cons (pv 8) (pa_cons (pe_ix ix_list (pv 2) pe_int (fun _ _ => rfl)) (pa_cons pe_int pa_nil)))))
      (pss_cons (ps_expr (pe_meth (pv 3) C.S mdr Gdr (hr.mono (by decide)) bdr .nil passLN (pa_cons (pv 7) pa_nil)))
      (pss_cons (ps_set (i := 9) sc_law.nd rfl (.inl rfl) (pe_op op_add pe_int (pe_call Gt (hr.mono (by decide)) rfl gt kt bt .nil pass0 (pa_cons (pv 1) (pa_cons (pe_op op_pow pe_int pe_int) pa_nil)))))
      (pss_cons (ps_set (i := 10) sc_law.nd rfl (.inl rfl) (pe_ix ix_list (pe_lst (pa_cons (pe_op op_add (pv 8) (pv 9)) (pa_cons (pe_op op_sub (pe_un un_neg pe_int) (pv 9)) pa_nil))) (pe_call Gt (hr.mono (by decide)) rfl gt kt bt .nil pass0 (pa_cons (pv 1) (pa_cons pe_int pa_nil))) (fun _ _ => rfl)))
      (pss_cons (ps_for PassesOwn.never rfl (pi_range1 (by rfl) B.range (pa_cons pe_int pa_nil)) (pg_name (i := 11) sc_law.nd rfl (.inl rfl))
        (pss_one (ps_if (pt_cmpR op_ne (pe_call Goh (hr.mono (by decide)) rfl goh koh boh .nil pass0 (pa_cons (pv 3) (pa_cons (pv 11) (pa_cons (pv 10) (pa_cons (pv 6) pa_nil))))) pe_str (nomark _)) (pss_one (ps_ret pe_bl)) pss_nil)))
      (pss_cons (ps_for PassesOwn.never rfl (pi_range1 (by rfl) B.range (pa_cons pe_int pa_nil)) (pg_name (i := 11) sc_law.nd rfl (.inl rfl))
        (pss_one (ps_if (PW.pt (pw_or (pt_cmpR op_ne (pe_call Gob (hr.mono (by decide)) rfl gob kob bob .nil pass0 (pa_cons (pv 3) (pa_cons (pv 11) (pa_cons (pe_op op_add (pv 7) (pv 9)) pa_nil)))) pe_str (nomark _))
          (pw_or1 (pt_cmpR op_ne (pe_call Gob (hr.mono (by decide)) rfl gob kob bob .nil pass0 (pa_cons (pv 3) (pa_cons (pv 11) (pa_cons (pv 7) pa_nil)))) pe_str (nomark _))))) (pss_one (ps_ret pe_bl)) pss_nil)))
      (pss_cons (ps_if (PW.pt (pw_or (pt_cmpR op_ne (pe_call Gob (hr.mono (by decide)) rfl gob kob bob .nil pass0 (pa_cons (pv 3) (pa_cons pe_int (pa_cons pe_int pa_nil)))) pe_str (nomark _))
          (pw_or1 (pt_cmpR op_ne (pe_call Goh (hr.mono (by decide)) rfl goh koh boh .nil pass0 (pa_cons (pv 3) (pa_cons pe_int (pa_cons (pv 8) (pa_cons (pv 6) pa_nil))))) pe_str (nomark _))))) (pss_one (ps_ret pe_bl)) pss_nil)
      (pss_cons (ps_if (PW.pt (pw_or (pt_not (pt_val (pe_call Gsa (hr.mono (by decide)) rfl gsa ksa bsa .nil pass0 (pa_cons (pe_meth (pv 3) C.S mlo Glo (hr.mono (by decide)) blo .nil passLN (pa_cons (pv 8) (pa_cons (pe_ix ix_list (pv 2) pe_int (fun _ _ => rfl)) pa_nil))) (pa_cons pe_int pa_nil)))))
          (pw_or1 (pt_cmpR op_ne (pe_call Goh (hr.mono (by decide)) rfl goh koh boh .nil pass0 (pa_cons (pv 3) (pa_cons pe_int (pa_cons (pv 6) (pa_cons (pv 6) pa_nil))))) pe_str (nomark _))))) (pss_one (ps_ret pe_bl)) pss_nil)
      (pss_one (ps_ret (pe_cmpR op_eq (pe_call Gcl hr rfl gcl kcl bcl .nil pass0 (pa_cons (pv 3) (pa_cons (pe_listRev rfl (by rfl) B.list (by decide +kernel) (by rfl) hrev (pe_callB cr_sortedS (by rfl) B.sorted (by decide +kernel) (pa_cons (pv 2) pa_nil))) pa_nil)))
        (pe_ix ix_list (pe_callB cr_sortedS (by rfl) B.sorted (by decide +kernel) (pa_cons (pv 2) pa_nil)) pe_int (fun _ _ => rfl)) (nomark _)))))))))))))))))), ?_⟩
    refine ⟨_, rfl, by show 4 ≤ sizeLine; decide, fun ro hro => ?_⟩
    have row1 : RowAt (upd H ro (.lst [.ref sc, .int 0, .int 0, .int 0])) ro sc := ⟨0, 0, 0, upd_same, by decide, by decide, by decide, by decide⟩
    have scr1 : ScR K (upd H ro (.lst [.ref sc, .int 0, .int 0, .int 0])) ro sc (ns.map V.int) := by
      rcases hS with (h | ⟨o, h⟩) | h
      · exact .inl ⟨(ne_of_none h hro).symm, .inl (by rw [upd_ne (ne_of_none h hro)]; exact h)⟩
      · exact .inl ⟨(ne_of_none h hro).symm, .inr ⟨o, by rw [upd_ne (ne_of_none h hro)]; exact h⟩⟩
      · exact .inr fun H' => .inr h
    have tab1 : GxR.TabG (upd H ro (.lst [.ref sc, .int 0, .int 0, .int 0])) Pt := by
      obtain ⟨ps, e, y⟩ := hT
      exact ⟨ps, by rw [upd_ne (ne_of_none e hro)]; exact e, y⟩
    generalize upd H ro (.lst [.ref sc, .int 0, .int 0, .int 0]) = H1 at row1 scr1 tab1
    refine ⟨_, rfl, ro, sc, ns, rfl, row1, scr1, fun H2 po Ks sr2 row2 hpn hpo pok => ?_⟩
    intro p dx hp hdx ndx
    refine ⟨p, dx, rfl, upd_same, fun H3 F3 sh3 keep3 => ⟨rfl, ?_⟩⟩
    have k3 : ∀ b o, H2 b = some o → H3 b = some o ∧ ¬ F3 b := fun b o e => keep3 b o (by rw [upd_ne (ne_of_none e hp), upd_ne (ne_of_none e hdx)]; exact e) (ne_of_none e hp)
    have nrp : po ≠ ro := by
      obtain ⟨xs, h⟩ := row1.at
      exact fun z => by rw [z, h] at hpn; cases hpn
    have o3 : O6 K T Pt sc ns ro po p Ks H3 F3 S0 := by
      refine ⟨sh3, ?_, ?_, ?_, (k3 po _ hpo).1, (k3 po _ hpo).2, nrp, ?_⟩
      · obtain ⟨i, sd, bg, h, y⟩ := row2
        exact ⟨i, sd, bg, (k3 ro _ h).1, y⟩
      · obtain ⟨xs, h⟩ := row2.at
        exact (k3 ro _ h).2
      · rcases scr1.sr sr2 with ⟨n, h | ⟨x, h⟩⟩ | h
        · exact .inl ⟨.inl (k3 sc _ h).1, (k3 sc _ h).2, n⟩
        · exact .inl ⟨.inr ⟨x, (k3 sc _ h).1⟩, (k3 sc _ h).2, n⟩
        · exact .inr h
      · obtain ⟨ps, e, y⟩ := tab1
        obtain ⟨xs, h⟩ := row1.at
        exact ⟨ps, (k3 Pt _ (sr2 _ _ e fun z => by rw [z, h] at e; cases e)).1, y⟩
    clear k3 keep3 sh3 hp hdx ndx hpo hpn row2 sr2 row1 scr1 tab1 hro hS hT nrp
    have lKs : 0 < Ks.length := by have := pok.lo; omega
    have hi5 := pok.hi
    refine ⟨_, rfl, ro, 6, sc, ns, rfl, o3.row, o3.scR, by decide, by decide, fun r xs r0 r6 d4 => ?_⟩
    have o4 := o3.put d4
    generalize upd H3 ro (.lst xs) = H4 at o4
    refine ⟨_, rfl, by omega, by omega, ?_⟩
    generalize hN : r.toNat = N
    have hN6 : N < 6 := by omega
    refine for_range (lo := 0) (n := N) (fun i σ H5 => (∃ x4 x5, σ = [some (.ref sc), some (.ref ro), some (.ref po), some (.ref p), x4, x5, none, none, none, none, none, none]) ∧ ∃ F5 S b, O6 K T Pt sc ns ro po p Ks H5 F5 S ∧ Lp Ks i S b) ?_ ?_ ?_
    · exact ⟨⟨_, _, rfl⟩, F3, S0, ⟨none, 0, true, [], []⟩, o4, WF_0 pok, rfl, rfl, rfl, rfl, rfl, rfl⟩
    · rintro i σ H5 hi ⟨⟨x4, x5, rfl⟩, F5, S, b, o5, lp⟩
      have W := lp.W
      have hb := lp.get
      have al0 : ∀ b', aget S.brs 0 = some b' → b'.alive = true := fun b' h' => by rw [hb] at h'; rw [← Option.some.inj h']; exact lp.al
      have hm := lp.hm
      have hnow := lp.now
      have nb : S.hm.natAbs < 10 ^ 20 := Nat.lt_trans (show S.hm.natAbs < 1000 by omega) (by decide)
      have W1 : WF Ks (S.addHand 0 S.now) := W.addHand ⟨b, hb⟩ W.sz.1 (Int.le_refl _) (by rw [lp.hns]; decide) ⟨by omega, by omega⟩
      obtain ⟨dx, fs, hp, no⟩ := o5.sh.ly.ins
      refine ⟨_, rfl, p, dx, fs, rfl, hp, no _ (by decide +kernel), Ks, p, S, F5, 0, rfl, o5.sh.ly, W, by decide, fun b' hb' => ⟨fun _ H6 F6 sh6 st6 => ?_, fun z => by rw [al0 b' hb'] at z; cases z⟩, fun z => by rw [hb] at z; cases z⟩
      have o6 := o5.step sh6 st6
      obtain ⟨dx, fs, hp, no⟩ := o6.sh.ly.ins
      refine ⟨_, rfl, p, dx, fs, rfl, hp, no _ (by decide +kernel), _, rfl, _, rfl, _, rfl, _, rfl, po, _, rfl, .inl (SqL.of o6.pl), ro, _, sc, ns, rfl, o6.row, o6.scR, ?_, ?_, fun j xs2 j0 j1 d7 => ?_⟩
      · rw [List.length_map]; omega
      · rw [List.length_map]; omega
      rw [List.length_map] at j1
      have o7 := o6.put d7
      generalize upd H6 ro (.lst xs2) = H7 at o7
      obtain ⟨k, hk⟩ : ∃ k, Ks[j.toNat]? = some k := ⟨Ks[j.toNat], List.getElem?_eq_getElem (by omega)⟩
      have hkm := List.mem_of_getElem? hk
      have ixk : atI (Ks.map V.str) j = some (.str k) := by
        have : j = ((j.toNat : Nat) : Int) := by omega
        rw [this]
        exact atI_nat (by rw [List.getElem?_map, hk]; rfl)
      obtain ⟨kb, kl8⟩ := keyB_of (pok.key k hkm)
      have vb : isVal (0 + (i : Int)) = true := by
        unfold isVal
        rw [decide_eq_true (show 0 ≤ 0 + (i : Int) by omega), decide_eq_true (show 0 + (i : Int) ≤ 999999 by omega)]; rfl
      refine ⟨po, _, _, _, rfl, rfl, SqL.of o7.pl, ixk, _, rfl, Ks, p, S.addHand 0 S.now, F6, S.hm, k, 0 + (i : Int), rfl, o7.sh, W1, o7.tab, nb, kl8, Nat.lt_trans (show (0 + (i : Int)).natAbs < 1000 by omega) (by decide), fun h hh => ⟨fun _ _ H8 F8 sh8 st8 => ?_, fun z => by rw [kb, vb] at z; cases z⟩, fun z => by rw [hand_new W 0] at z; cases z⟩
      rw [hand_new W 0] at hh
      obtain rfl := Option.some.inj hh
      have o8 := o7.step sh8 st8
      have W2 := W1.write (hand_new W 0) hkm (some (0 + (i : Int)))
      have hh8 := write_new W 0 k (some (0 + (i : Int)))
      obtain ⟨dx, fs, hp, no⟩ := o8.sh.ly.ins
      refine ⟨_, rfl, p, dx, fs, rfl, hp, no _ (by decide +kernel), _, rfl, Ks, p, _, F8, S.hm, rfl, o8.sh.ly, W2, nb, fun z => (by rw [hh8] at z; cases z), fun h hh => ?_⟩
      rw [hh8] at hh
      obtain rfl := Option.some.inj hh
      refine ⟨fun z => (by cases z), fun _ b' hb' => ?_⟩
      have hb' : aget S.brs 0 = some b' := hb'
      rw [hb] at hb'
      obtain rfl := Option.some.inj hb'
      refine ⟨fun z => (by rw [lp.al] at z; cases z), fun _ k' z => (by rw [made_clash W hb] at z; cases z), fun _ _ H9 F9 sh9 st9 => ?_⟩
      obtain ⟨b9, lp9⟩ := lp.put (by omega) hkm (some (0 + (i : Int)))
      rw [made_put W hb k (some (0 + (i : Int)))] at sh9
      exact ⟨⟨_, _, rfl⟩, F9, _, b9, o8.step sh9 st9, lp9⟩
    · rintro σ H5 ⟨⟨x4, x5, rfl⟩, F5, S, b, o5, lp⟩
      have W := lp.W
      have hb := lp.get
      have hm := lp.hm
      have hnow := lp.now
      have hbm := lp.bm
      have nb : S.hm.natAbs < 10 ^ 20 := Nat.lt_trans (show S.hm.natAbs < 1000 by omega) (by decide)
      have sm20 : ∀ {x : Int}, x.natAbs < 10000000000 → x.natAbs < 10 ^ 20 := fun h => Nat.lt_trans h (by decide)
      obtain ⟨k0, hk0⟩ : ∃ k0, Ks[0]? = some k0 := ⟨Ks[0], List.getElem?_eq_getElem lKs⟩
      have k0m := List.mem_of_getElem? hk0
      have ix0 : atI (Ks.map V.str) 0 = some (.str k0) := atI_nat (j := 0) (by rw [List.getElem?_map, hk0]; rfl)
      obtain ⟨kb0, kl0⟩ := keyB_of (pok.key k0 k0m)
      -- begin(0)
      have W1 : WF Ks (S.addHand 0 S.now) := W.addHand ⟨b, hb⟩ W.sz.1 (Int.le_refl _) (by rw [lp.hns]; decide) ⟨by omega, by omega⟩
      have a1 := hand_new W 0
      obtain ⟨dx, fs, hp, no⟩ := o5.sh.ly.ins
      refine ⟨_, rfl, p, dx, fs, rfl, hp, no _ (by decide +kernel), Ks, p, S, F5, 0, rfl, o5.sh.ly, W, by decide, fun b' hb' => ⟨fun _ H6 F6 sh6 st6 => ?_, fun z => by rw [hb] at hb'; rw [← Option.some.inj hb', lp.al] at z; cases z⟩, fun z => by rw [hb] at z; cases z⟩
      have o6 := o5.step sh6 st6
      have hb1 : aget (S.addHand 0 S.now).brs 0 = some b := hb
      have m1 : (S.addHand 0 S.now).bm = 1 ∧ (S.addHand 0 S.now).hm = S.hm + 1 ∧ (S.addHand 0 S.now).now = S.now ∧ (S.addHand 0 S.now).hns.length = 1 ∧ (S.addHand 0 S.now).brs.length = 1 :=
        ⟨hbm, rfl, rfl, by show (S.hns ++ [_]).length = 1; rw [lp.hns]; rfl, by show S.brs.length = 1; rw [lp.brs]; rfl⟩
      clear sh6 st6 o5
      generalize S.addHand 0 S.now = S1 at W1 a1 o6 hb1 m1
      obtain ⟨bm1, hm1, now1, len1, lb1⟩ := m1
      -- fork
      have W2 : WF Ks (S1.fork 0 S.now) := W1.fork ⟨b, hb1⟩ W.sz.1 (by omega) (by omega) (by omega)
      obtain ⟨dx, fs, hp, no⟩ := o6.sh.ly.ins
      refine ⟨_, rfl, p, dx, fs, rfl, hp, no _ (by decide +kernel), _, rfl, Ks, p, S1, F6, S.hm, rfl, o6.sh.ly, W1, nb, fun h hh H7 F7 sh7 st7 => ?_, fun z => by rw [a1] at z; cases z⟩
      rw [a1] at hh
      obtain rfl := Option.some.inj hh
      have sh7 : ShAt T H7 p (S1.fork 0 S.now) F7 := sh7
      have o7 := o6.step sh7 st7
      have hb2 : aget (S1.fork 0 S.now).brs 0 = some b := aget_left hb1
      have hc2 : aget (S1.fork 0 S.now).brs 1 = some ⟨some 0, S.now, true, [], []⟩ := by
        have := aget_right (x := (⟨some 0, S.now, true, [], []⟩ : Br)) W1.bfresh
        rw [bm1] at this
        show aget (S1.brs ++ [(S1.bm, _)]) 1 = _
        rw [bm1]; exact this
      have a2 : aget (S1.fork 0 S.now).hns S.hm = some ⟨0, S.now, []⟩ := a1
      have m2 : (S1.fork 0 S.now).bm = 2 ∧ (S1.fork 0 S.now).hm = S.hm + 1 ∧ (S1.fork 0 S.now).now = S.now ∧ (S1.fork 0 S.now).hns.length = 1 :=
        ⟨by show S1.bm + 1 = 2; omega, hm1, now1, len1⟩
      clear sh7 st7 o6
      rw [bm1]
      generalize S1.fork 0 S.now = S2 at W2 a2 o7 hb2 hc2 m2
      obtain ⟨bm2, hm2, now2, len2⟩ := m2
      -- begin in it
      have W3 : WF Ks (S2.addHand 1 S2.now) := W2.addHand ⟨_, hc2⟩ W2.sz.1 (Int.le_refl _) (by omega) (by omega)
      have a3 := hand_new W2 1
      rw [hm2, now2] at a3
      obtain ⟨dx, fs, hp, no⟩ := o7.sh.ly.ins
      refine ⟨_, rfl, p, dx, fs, rfl, hp, no _ (by decide +kernel), _, rfl, Ks, p, S2, F7, 1, rfl, o7.sh.ly, W2, by decide, fun b' hb' => ⟨fun _ H8 F8 sh8 st8 => ?_, fun z => by rw [hc2] at hb'; rw [← Option.some.inj hb'] at z; cases z⟩, fun z => by rw [hc2] at z; cases z⟩
      have o8 := o7.step sh8 st8
      rw [hm2]
      rw [now2] at o8 W3
      have b3 : aget (S2.addHand 1 S.now).hns S.hm = some ⟨0, S.now, []⟩ := aget_left a2
      have hb3 : aget (S2.addHand 1 S.now).brs 0 = some b := hb2
      have hc3 : aget (S2.addHand 1 S.now).brs 1 = some ⟨some 0, S.now, true, [], []⟩ := hc2
      have m3 : (S2.addHand 1 S.now).bm = 2 ∧ (S2.addHand 1 S.now).hm = S.hm + 2 ∧ (S2.addHand 1 S.now).now = S.now ∧ (S2.addHand 1 S.now).hns.length = 2 :=
        ⟨bm2, by show S2.hm + 1 = _; omega, now2, by show (S2.hns ++ [_]).length = 2; rw [List.length_append, len2]; rfl⟩
      clear sh8 st8 o7
      generalize S2.addHand 1 S.now = S3 at W3 a3 b3 o8 hb3 hc3 m3
      obtain ⟨bm3, hm3, now3, len3⟩ := m3
      have nb1 : (S.hm + 1).natAbs < 10 ^ 20 := sm20 (by omega)
      -- write in it
      obtain ⟨dx, fs, hp, no⟩ := o8.sh.ly.ins
      refine ⟨_, rfl, p, dx, fs, rfl, hp, no _ (by decide +kernel), _, rfl, _, rfl, po, _, 0, _, rfl, rfl, SqL.of o8.pl, ix0, Ks, p, S3, F8, S.hm + 1, k0, 5, rfl, o8.sh, W3, o8.tab, nb1, kl0, by decide, fun h hh => ⟨fun _ _ H9 F9 sh9 st9 => ?_, fun z => (by rw [kb0] at z; cases z)⟩, fun z => by rw [a3] at z; cases z⟩
      rw [a3] at hh
      obtain rfl := Option.some.inj hh
      have o9 := o8.step sh9 st9
      have W4 := W3.write a3 k0m (some 5)
      have a4 : aget (S3.write (S.hm + 1) ⟨1, S.now, []⟩ k0 (some 5)).hns (S.hm + 1) = some ⟨1, S.now, aput [] k0 (some 5)⟩ := aget_put_same _ _ _
      have b4 : aget (S3.write (S.hm + 1) ⟨1, S.now, []⟩ k0 (some 5)).hns S.hm = some ⟨0, S.now, []⟩ := (aget_put_ne (by omega)).trans b3
      have hb4 : aget (S3.write (S.hm + 1) ⟨1, S.now, []⟩ k0 (some 5)).brs 0 = some b := hb3
      have hc4 : aget (S3.write (S.hm + 1) ⟨1, S.now, []⟩ k0 (some 5)).brs 1 = some ⟨some 0, S.now, true, [], []⟩ := hc3
      have m4 : (S3.write (S.hm + 1) ⟨1, S.now, []⟩ k0 (some 5)).bm = 2 ∧ (S3.write (S.hm + 1) ⟨1, S.now, []⟩ k0 (some 5)).hm = S.hm + 2 ∧ (S3.write (S.hm + 1) ⟨1, S.now, []⟩ k0 (some 5)).now = S.now ∧ (S3.write (S.hm + 1) ⟨1, S.now, []⟩ k0 (some 5)).hns.length = 2 :=
        ⟨bm3, hm3, now3, by show (aput S3.hns _ _).length = 2; rw [aput_old _ a3, List.length_map, len3]⟩
      clear sh9 st9 o8
      generalize S3.write (S.hm + 1) ⟨1, S.now, []⟩ k0 (some 5) = S4 at W4 a4 b4 o9 hb4 hc4 m4
      obtain ⟨bm4, hm4, now4, len4⟩ := m4
      -- drop
      obtain ⟨dx, fs, hp, no⟩ := o9.sh.ly.ins
      refine ⟨_, rfl, p, dx, fs, rfl, hp, no _ (by decide +kernel), _, rfl, p, S4, F9, 1, rfl, o9.sh.ly, by decide, fun b' hb' => ⟨fun z => (by cases z), fun _ => ⟨fun _ H10 F10 sh10 st10 => ?_, fun z => by rw [hc4] at hb'; rw [← Option.some.inj hb'] at z; cases z⟩⟩, fun z => by rw [hc4] at z; cases z⟩
      rw [hc4] at hb'
      obtain rfl := Option.some.inj hb'
      have o10 := o9.step sh10 st10
      have W5 := W4.drop hc4
      have a5 : aget (S4.drop 1 ⟨some 0, S.now, true, [], []⟩).hns (S.hm + 1) = some ⟨1, S.now, aput [] k0 (some 5)⟩ := a4
      have b5 : aget (S4.drop 1 ⟨some 0, S.now, true, [], []⟩).hns S.hm = some ⟨0, S.now, []⟩ := b4
      have hb5 : aget (S4.drop 1 ⟨some 0, S.now, true, [], []⟩).brs 0 = some b := by
        show aget (S4.setBr 1 _).brs 0 = _
        rw [setBr_get, if_neg (by decide)]; exact hb4
      have hc5 : aget (S4.drop 1 ⟨some 0, S.now, true, [], []⟩).brs 1 = some ⟨some 0, S.now, false, [], []⟩ := by
        show aget (S4.setBr 1 _).brs 1 = _
        rw [setBr_get, if_pos rfl]
      have m5 : (S4.drop 1 ⟨some 0, S.now, true, [], []⟩).bm = 2 ∧ (S4.drop 1 ⟨some 0, S.now, true, [], []⟩).hm = S.hm + 2 ∧ (S4.drop 1 ⟨some 0, S.now, true, [], []⟩).now = S.now ∧ (S4.drop 1 ⟨some 0, S.now, true, [], []⟩).hns.length = 2 :=
        ⟨bm4, hm4, now4, len4⟩
      clear sh10 st10 o9
      generalize S4.drop 1 ⟨some 0, S.now, true, [], []⟩ = S5 at W5 a5 b5 o10 hb5 hc5 m5
      obtain ⟨bm5, hm5, now5, len5⟩ := m5
      clear W1 W2 W3 W4 a1 a2 a3 a4 b3 b4 hb1 hb2 hb3 hb4 hc2 hc3 hc4
      -- far, none
      refine ⟨_, rfl, _, _, rfl, rfl, ⟨by decide, by decide, by decide⟩, ro, _, sc, ns, rfl, o10.row, o10.scR, by decide, by decide, fun far xs f0 f1 d11 => ⟨_, _, rfl, rfl, ?_⟩⟩
      have f1 : far < 1000000 := f1
      have o11 := o10.put d11
      generalize upd H10 ro (.lst xs) = H11 at o11
      refine ⟨_, rfl, _, rfl, _, _, rfl, rfl, 1, rfl, _, rfl, _, _, rfl, rfl, by show 2 ≤ sizeLine; decide, fun l hl => ?_⟩
      have s12 : Sm H11 (upd H11 l (.lst [.int (S.hm + 1 + (1 + far)), .int (-1 - (1 + far))])) := Sm.new hl
      have e12 : upd H11 l (.lst [.int (S.hm + 1 + (1 + far)), .int (-1 - (1 + far))]) l = some (.lst [.int (S.hm + 1 + (1 + far)), .int (-1 - (1 + far))]) := upd_same
      generalize upd H11 l (.lst [.int (S.hm + 1 + (1 + far)), .int (-1 - (1 + far))]) = H12 at s12 e12
      have o12 := o11.sm s12
      refine ⟨_, rfl, ro, 2, sc, ns, rfl, o12.row, o12.scR, by decide, by decide, fun r xs2 r0 r1 d13 => ?_⟩
      have nlr : l ≠ ro := fun z => by
        obtain ⟨ys, h⟩ := o11.row.at
        rw [z, h] at hl; cases hl
      have e13 : upd H12 ro (.lst xs2) l = some (.lst [.int (S.hm + 1 + (1 + far)), .int (-1 - (1 + far))]) := by rw [upd_ne nlr]; exact e12
      have o13 := o12.put d13
      generalize upd H12 ro (.lst xs2) = H13 at o13 e13
      obtain ⟨nn, hnn, gone, nnb⟩ : ∃ nn : Int, atI [V.int (S.hm + 1 + (1 + far)), .int (-1 - (1 + far))] r = some (.int nn) ∧ aget S5.hns nn = none ∧ nn.natAbs < 10 ^ 20 := by
        have h2 : r = 0 ∨ r = 1 := by omega
        rcases h2 with rfl | rfl
        · exact ⟨_, rfl, hand_gone W5 (.inr (by omega)), sm20 (by omega)⟩
        · exact ⟨_, rfl, hand_gone W5 (.inl (by omega)), sm20 (by omega)⟩
      refine ⟨l, _, r, _, rfl, rfl, SqL.of e13, hnn, ?_⟩
      have bgone : aget S5.brs (1 + (1 + far)) = none := by
        cases e : aget S5.brs (1 + (1 + far)) with
        | none => rfl
        | some x => have := (W5.bnd _ x e).2.1; omega
      have fb : (1 + (1 + far)).natAbs < 10 ^ 20 := sm20 (by omega)
      clear o12 o11 o10 s12 e12 e13 hl nlr d13 d11
      refine ⟨_, rfl, by decide, by decide, ?_⟩
      refine for_range (lo := 0) (n := 7) (fun i σ H14 => (∃ x11, σ = [some (.ref sc), some (.ref ro), some (.ref po), some (.ref p), x4, x5, some (.int S.hm), some (.int 1), some (.int (S.hm + 1)), some (.int (1 + far)), some (.int nn), x11]) ∧ Sm H13 H14) ?_ ?_ ?_
      · exact ⟨⟨_, rfl⟩, Sm.refl _⟩
      · rintro i σ H14 hi ⟨⟨x11, rfl⟩, s14⟩
        refine ⟨_, rfl, _, rfl, _, rfl, _, rfl, Ks, p, S5, F10, 0 + (i : Int), nn, S.hm, rfl, (o13.sh.sm s14).ly, W5, by omega, by omega, nnb, nb, .inl ⟨gone, ⟨_, b5⟩, fun H15 s15 => ⟨rfl, _, rfl, ifF (by rfl) ?_⟩⟩⟩
        exact ⟨⟨_, rfl⟩, s14.trans s15⟩
      · rintro σ H14 ⟨⟨x11, rfl⟩, s14⟩
        refine ⟨_, rfl, by decide, by decide, ?_⟩
        refine for_range (lo := 0) (n := 2) (fun i σ H14 => (∃ x11, σ = [some (.ref sc), some (.ref ro), some (.ref po), some (.ref p), x4, x5, some (.int S.hm), some (.int 1), some (.int (S.hm + 1)), some (.int (1 + far)), some (.int nn), x11]) ∧ Sm H13 H14) ?_ ?_ ?_
        · exact ⟨⟨_, rfl⟩, s14⟩
        · rintro i σ H15 hi ⟨⟨x11, rfl⟩, s15⟩
          refine ⟨_, rfl, _, rfl, _, rfl, _, rfl, _, _, rfl, rfl, Ks, p, S5, F10, 0 + (i : Int), 1 + (1 + far), rfl, (o13.sh.sm s15).ly, W5, by omega, by omega, fb, .inl ⟨.inl bgone, fun H16 s16 => ⟨rfl, _, rfl, ifF (by rfl) ?_⟩⟩⟩
          have s1516 := s15.trans s16
          refine ⟨_, rfl, _, rfl, _, rfl, Ks, p, S5, F10, 0 + (i : Int), 1, rfl, (o13.sh.sm s1516).ly, W5, by omega, by omega, by decide, .inr ⟨_, hc5, by decide, rfl, fun H17 s17 => ⟨rfl, _, rfl, ifF (by rfl) ?_⟩⟩⟩
          exact ⟨⟨_, rfl⟩, s1516.trans s17⟩
        · rintro σ H15 ⟨⟨x11, rfl⟩, s15⟩
          refine ⟨_, rfl, Ks, p, S5, F10, 1, 0, rfl, (o13.sh.sm s15).ly, W5, by decide, by decide, by decide, .inl ⟨.inr ⟨rfl, rfl⟩, fun H16 s16 => ⟨rfl, _, rfl, ifF (by rfl) ?_⟩⟩⟩
          have s1516 := s15.trans s16
          refine ⟨_, rfl, _, rfl, _, rfl, Ks, p, S5, F10, 4, S.hm + 1, S.hm, rfl, (o13.sh.sm s1516).ly, W5, by decide, by decide, nb1, nb, .inr (.inl ⟨_, _, rfl, a5, (fun z => by cases z), hc5, rfl, fun H17 s17 => ⟨rfl, _, rfl, ifF (by rfl) ?_⟩⟩)⟩
          have s1517 := s1516.trans s17
          have o17 := o13.sm s1517
          obtain ⟨dx, fs, hp, no⟩ := o17.sh.ly.ins
          refine ⟨_, rfl, p, dx, fs, rfl, hp, no _ (by decide +kernel), _, rfl, _, rfl, po, _, 0, _, rfl, rfl, SqL.of o17.pl, ix0, Ks, p, S5, F10, S.hm + 1, k0, rfl, o17.sh.ly, W5, o17.tab, nb1, kl0, fun H18 s18 => ⟨fun h hh => ⟨fun _ => ?_, fun z => (by rw [kb0] at z; cases z)⟩, fun z => (by rw [a5] at z; cases z)⟩⟩
          rw [a5] at hh
          obtain rfl := Option.some.inj hh
          have look5 : lookM S5 ⟨1, S.now, aput [] k0 (some 5)⟩ k0 = some 5 := by
            unfold lookM
            dsimp only
            rw [aget_put_same]
          rw [look5]
          refine ⟨_, _, rfl, Eqd.zero (.inr (.inl ⟨5, rfl, rfl⟩)), fun H19 s19 => ⟨_, rfl, ifF rfl ?_⟩⟩
          have o19 := o17.sm (s18.trans s19)
          refine ⟨_, rfl, _, rfl, _, rfl, Ks, p, S5, F10, 0, S.hm, S.hm, rfl, o19.sh.ly, W5, by decide, by decide, nb, nb, .inr (.inr ⟨_, rfl, b5, fun H20 F20 sh20 st20 => ⟨rfl, _, rfl, ifF (by rfl) ?_⟩⟩)⟩
          have sh20 : ShAt T H20 p (S5.addHand 0 S.now) F20 := sh20
          have o20 := o19.step sh20 st20
          have W6 : WF Ks (S5.addHand 0 S.now) := W5.addHand ⟨b, hb5⟩ W.sz.1 (by omega) (by omega) (by omega)
          refine ⟨_, rfl, _, rfl, po, Ks, rfl, SqL.of o20.pl, by omega, fun ys a perm srt ha => ?_⟩
          obtain rfl := sortedS_eq perm srt
          have s21 : Sm H20 (upd H20 a (.lst ((sortK Ks).map V.str))) := Sm.new ha
          have e21 : upd H20 a (.lst ((sortK Ks).map V.str)) a = some (.lst ((sortK Ks).map V.str)) := upd_same
          generalize upd H20 a (.lst ((sortK Ks).map V.str)) = H21 at s21 e21
          refine ⟨a, _, rfl, SqL.of e21, fun q hq => ?_⟩
          rw [← List.map_reverse]
          have s22 : Sm H21 (upd H21 q (.lst ((sortK Ks).reverse.map V.str))) := Sm.new hq
          have e22 : upd H21 q (.lst ((sortK Ks).reverse.map V.str)) q = some (.lst ((sortK Ks).reverse.map V.str)) := upd_same
          generalize upd H21 q (.lst ((sortK Ks).reverse.map V.str)) = H22 at s22 e22
          have o22 := o20.sm (s21.trans s22)
          have sl : (sortK Ks).length = Ks.length := (sortK_perm Ks).length_eq
          obtain ⟨ks, hks⟩ : ∃ ks, (sortK Ks)[0]? = some ks := ⟨(sortK Ks)[0], List.getElem?_eq_getElem (by omega)⟩
          have srev : sortK (sortK Ks).reverse = sortK Ks := pw_unique (sortK_pw _) (sortK_pw _) ((sortK_perm _).trans (List.reverse_perm _))
          have nq : ¬ F20 q := fun z => (o20.sm s21).sh.ly.new hq z
          refine ⟨Ks, p, q, po, _, S5.addHand 0 S.now, F20, (sortK Ks).reverse, ks, b, rfl, o22.sh, W6, o22.tab, e22, nq, o22.pl, o22.np, (List.reverse_perm _).symm.nodup (sortK_nodup pok.nd), fun k hk => mem_sortK.mp (List.mem_reverse.mp hk), by rw [srev]; exact hks, hb5, lp.al, ?_, ?_, ?_, ?_, fun H23 hpo => ?_⟩
          · show (S5.hns ++ [_]).length ≤ 100
            rw [List.length_append, len5]; show 2 + 1 ≤ 100; decide
          · show S5.now ≤ 100
            omega
          · show 0 ≤ S5.hm + 1
            omega
          · show S5.hm + 1 ≤ 100
            omega
          refine ⟨_, rfl, po, Ks, rfl, SqL.of hpo, by omega, fun ys c perm srt hc => ?_⟩
          obtain rfl := sortedS_eq perm srt
          have ixs : atI ((sortK Ks).map V.str) 0 = some (.str ks) := atI_nat (j := 0) (by rw [List.getElem?_map, hks]; rfl)
          refine ⟨c, _, 0, _, rfl, rfl, SqL.of upd_same, ixs, rfl, ?_⟩
          rw [show decide (V.str ks = V.str ks) = true from decide_eq_true rfl]
          exact kq _
end
end Vs
/-! ## What the top has left -/
namespace Vs
open PySem L2 PyProof.Rows
def FnA (K : PySem.W.Frag) (x : Str) (st : Stmt) : Prop := ∃ (f : Addr) (fd : FuncData), PySem.W.nsIn K mainGlobals x = some (some (.ref f)) ∧ Fun K x x st f fd
def MtA (K : PySem.W.Frag) (C : Addr) (m q : Str) (st : Stmt) : Prop := ∃ (f : Addr) (fd : FuncData), Meth K C m f ∧ Fun K m q st f fd
def KxA (K : PySem.W.Frag) (x : Str) (C : Addr) (q : Str) (st : Stmt) : Prop := ∃ (f : Addr) (fd : FuncData), PySem.W.nsIn K mainGlobals x = some (some (.ref C)) ∧ Mk K C f ∧ Fun K "__init__" q st f fd
section
variable {K : PySem.W.Frag} {f C : Addr} {oc kV doc pm cdv ct : Value} {od an : Option Addr} {osl : Array (Option Value)} {st : Stmt} {x m q : Str}
theorem FnA.by (a : PySem.W.nsIn K mainGlobals x = some (some (.ref f))) (l : K.lookup f = some ⟨oc, od, .func (PySem.W.fnOf x x (defArgs st) (defBody st) (defScope st) .none kV doc pm an cdv ct), osl⟩) (c : PySem.W.codeIn K cdv x = true) (k : PySem.W.keepIn K (.ref f) = true) : FnA K x st := ⟨f, _, a, fun_mk l c k⟩
theorem MtA.by (a : PySem.W.findIn K (.ref C) m = some (some (.ref f))) (i : PySem.W.isFn K (.ref f) = true) (l : K.lookup f = some ⟨oc, od, .func (PySem.W.fnOf m q (defArgs st) (defBody st) (defScope st) .none kV doc pm an cdv ct), osl⟩) (c : PySem.W.codeIn K cdv q = true) (k : PySem.W.keepIn K (.ref f) = true) : MtA K C m q st :=
  ⟨f, _, ⟨a, i, k⟩, fun_mk l c k⟩
theorem KxA.by (n : PySem.W.nsIn K mainGlobals x = some (some (.ref C))) (mk : PySem.W.makesIn K C = true) (kc : PySem.W.keepIn K (.ref C) = true) (a : PySem.W.findIn K (.ref C) "__init__" = some (some (.ref f))) (i : PySem.W.isFn K (.ref f) = true)
    (l : K.lookup f = some ⟨oc, od, .func (PySem.W.fnOf "__init__" q (defArgs st) (defBody st) (defScope st) .none kV doc pm an cdv ct), osl⟩) (c : PySem.W.codeIn K cdv q = true) (k : PySem.W.keepIn K (.ref f) = true) : KxA K x C q st :=
  ⟨f, _, n, ⟨mk, a, i, kc⟩, fun_mk l c k⟩
theorem FunC.binds {fd : FuncData} {c : Addr} {ps : List Str} (F : FunC K x q st f fd c)
    (h : ∀ (kV doc pm : Value) (an : Option Addr) (cdv ct : Value) (us : List Value), us.length = ps.length → bindArgs (PySem.W.fnOf x q (defArgs st) (defBody st) (defScope st) .none kV doc pm an cdv ct) ⟨us, []⟩ = pure (ps.zip us)) : Binds K fd ps [] := by
  obtain ⟨oc, od, kV, doc, pm, an, ct, osl, rfl, lk, cd⟩ := F.ex
  exact .all (h kV doc pm an (.ref c) ct)
end
theorem ar0 {R : List Value → Prop} (h : R []) : ∀ us : List Value, us.length = 0 → R us
  | [], _ => h
theorem ar1 {R : List Value → Prop} (h : ∀ a, R [a]) : ∀ us : List Value, us.length = 1 → R us
  | [a], _ => h a
theorem ar2 {R : List Value → Prop} (h : ∀ a b, R [a, b]) : ∀ us : List Value, us.length = 2 → R us
  | [a, b], _ => h a b
theorem ar3 {R : List Value → Prop} (h : ∀ a b c, R [a, b, c]) : ∀ us : List Value, us.length = 3 → R us
  | [a, b, c], _ => h a b c
theorem ar4 {R : List Value → Prop} (h : ∀ a b c d, R [a, b, c, d]) : ∀ us : List Value, us.length = 4 → R us
  | [a, b, c, d], _ => h a b c d
theorem ar5 {R : List Value → Prop} (h : ∀ a b c d e, R [a, b, c, d, e]) : ∀ us : List Value, us.length = 5 → R us
  | [a, b, c, d, e], _ => h a b c d e
section
variable {K : PySem.W.Frag} {f c P C : Addr} {oc kV doc pm ct e : Value} {od an dd : Option Addr} {osl sl : Array (Option Value)} {st : Stmt} {x q : Str} {vs : Array Value}
theorem FunC.by (l : K.lookup f = some ⟨oc, od, .func (PySem.W.fnOf x q (defArgs st) (defBody st) (defScope st) .none kV doc pm an (.ref c) ct), osl⟩) (h : PySem.W.codeIn K (.ref c) q = true) : ∃ fd, FunC K x q st f fd c := ⟨_, ⟨oc, od, kV, doc, pm, an, ct, osl, rfl, l, h⟩⟩
theorem tab_by (g : PySem.W.nsIn K mainGlobals x = some (some (.ref f))) (l1 : K.lookup f = some ⟨oc, od, .func (PySem.W.fnOf x q (defArgs st) (defBody st) (defScope st) .none kV doc pm an (.ref c) ct), osl⟩) (l2 : K.lookup c = some ⟨e, dd, .fields vs, sl⟩) (hv : vs[11]? = some (.ref P)) : PySem.W.tabIn K x = some (c, P) := by
  unfold PySem.W.tabIn
  rw [g]
  dsimp only
  rw [l1]
  dsimp only [PySem.W.fnOf]
  rw [l2]
  dsimp only
  rw [hv]
theorem Xx.by {X : Addr} {ts : List Value} {n : String} {b : Option Bool} {v : Option Value} (h1 : PySem.W.nsIn K mainGlobals x = some (some (.ref X))) (h2 : PySem.W.excIn K X ts n = true) (h3 : PySem.W.keepIn K (.ref X) = true) (h4 : PySem.W.subIn K (.ref X) (.type "BaseException") = b) (h5 : PySem.W.typeIn K (.ref X) = v) :
    ∃ X : Addr, PySem.W.nsIn K mainGlobals x = some (some (.ref X)) ∧ PySem.W.excIn K X ts n = true ∧ PySem.W.keepIn K (.ref X) = true ∧ PySem.W.subIn K (.ref X) (.type "BaseException") = b ∧ PySem.W.typeIn K (.ref X) = v := ⟨X, h1, h2, h3, h4, h5⟩
theorem Clx.by {X fc : Addr} {a i k : Str} {v : Option Value} {R : Addr → Prop} (h1 : PySem.W.nsIn K mainGlobals a = some (some (.ref X))) (h2 : OexC K X) (h3 : PySem.W.findIn K (.ref X) i = some (some (.ref fc))) (h4 : PySem.W.typeIn K (.ref fc) = v) (h5 : PySem.W.findIn K (.ref X) k = some none) (h6 : R fc) :
    ∃ X fc : Addr, PySem.W.nsIn K mainGlobals a = some (some (.ref X)) ∧ OexC K X ∧ PySem.W.findIn K (.ref X) i = some (some (.ref fc)) ∧ PySem.W.typeIn K (.ref fc) = v ∧ PySem.W.findIn K (.ref X) k = some none ∧ R fc := ⟨X, fc, h1, h2, h3, h4, h5, h6⟩
def XxP (K : PySem.W.Frag) (x : Str) (X : Addr) : Prop := PySem.W.nsIn K mainGlobals x = some (some (.ref X)) ∧ PySem.W.excIn K X [.type "ValueError", .type "Exception", .type "BaseException", .type "object"] "ValueError.__new__" = true ∧ PySem.W.keepIn K (.ref X) = true ∧ PySem.W.subIn K (.ref X) (.type "BaseException") = some true ∧ PySem.W.typeIn K (.ref X) = some (.type "type")
def AllX16 (K : PySem.W.Frag) : Prop := ∃ (U : Es) (fc bt se : Addr), XxP K "BadKey" U.badKey ∧ XxP K "NoHand" U.noHand ∧ XxP K "NoBranch" U.noBranch ∧ XxP K "Dropped" U.dropped ∧ PySem.W.nsIn K mainGlobals "NoCell" = some (some (.ref U.noCell)) ∧ PySem.W.nsIn K mainGlobals "BadText" = some (some (.ref bt)) ∧ PySem.W.nsIn K mainGlobals "ShelfError" = some (some (.ref se)) ∧
  PySem.W.nsIn K mainGlobals "Clash" = some (some (.ref U.clash)) ∧ OexC K U.clash ∧ PySem.W.findIn K (.ref U.clash) "__init__" = some (some (.ref fc)) ∧ PySem.W.typeIn K (.ref fc) = some (.type "function") ∧ PySem.W.findIn K (.ref U.clash) "key" = some none ∧ XfC K U.clash ∧ PySem.W.exmOne K (.ref U.clash) (.ref U.clash) = some true ∧
  Xw K U bt se U.noHand 0 ∧ Xw K U bt se U.noBranch 1 ∧ Xw K U bt se U.dropped 2 ∧ WordF K U bt U.clash 3 ∧ ∃ fd, Fun K "__init__" "Clash.__init__" s_Clash___init__ fc fd
theorem AllX16.by {X1 X2 X3 X4 X5 X6 X7 X8 fc : Addr}
    (a1 : PySem.W.nsIn K mainGlobals "BadKey" = some (some (.ref X1)))
    (a2 : PySem.W.nsIn K mainGlobals "NoHand" = some (some (.ref X2)))
    (a3 : PySem.W.nsIn K mainGlobals "NoBranch" = some (some (.ref X3)))
    (a4 : PySem.W.nsIn K mainGlobals "Dropped" = some (some (.ref X4)))
    (a5 : PySem.W.nsIn K mainGlobals "Clash" = some (some (.ref X5)))
    (a6 : PySem.W.nsIn K mainGlobals "NoCell" = some (some (.ref X6)))
    (a7 : PySem.W.nsIn K mainGlobals "BadText" = some (some (.ref X7)))
    (a8 : PySem.W.nsIn K mainGlobals "ShelfError" = some (some (.ref X8)))
    (b1 : PySem.W.excIn K X1 [.type "ValueError", .type "Exception", .type "BaseException", .type "object"] "ValueError.__new__" = true)
    (c1 : PySem.W.keepIn K (.ref X1) = true)
    (d1 : PySem.W.subIn K (.ref X1) (.type "BaseException") = some true)
    (e1 : PySem.W.typeIn K (.ref X1) = some (.type "type"))
    (b2 : PySem.W.excIn K X2 [.type "ValueError", .type "Exception", .type "BaseException", .type "object"] "ValueError.__new__" = true)
    (c2 : PySem.W.keepIn K (.ref X2) = true)
    (d2 : PySem.W.subIn K (.ref X2) (.type "BaseException") = some true)
    (e2 : PySem.W.typeIn K (.ref X2) = some (.type "type"))
    (b3 : PySem.W.excIn K X3 [.type "ValueError", .type "Exception", .type "BaseException", .type "object"] "ValueError.__new__" = true)
    (c3 : PySem.W.keepIn K (.ref X3) = true)
    (d3 : PySem.W.subIn K (.ref X3) (.type "BaseException") = some true)
    (e3 : PySem.W.typeIn K (.ref X3) = some (.type "type"))
    (b4 : PySem.W.excIn K X4 [.type "ValueError", .type "Exception", .type "BaseException", .type "object"] "ValueError.__new__" = true)
    (c4 : PySem.W.keepIn K (.ref X4) = true)
    (d4 : PySem.W.subIn K (.ref X4) (.type "BaseException") = some true)
    (e4 : PySem.W.typeIn K (.ref X4) = some (.type "type"))
    (f1 : OexC K X5)
    (f2 : PySem.W.findIn K (.ref X5) "__init__" = some (some (.ref fc)))
    (f3 : PySem.W.typeIn K (.ref fc) = some (.type "function"))
    (f4 : PySem.W.findIn K (.ref X5) "key" = some none)
    (f5 : ∃ fd, Fun K "__init__" "Clash.__init__" s_Clash___init__ fc fd)
    (s1 : PySem.W.specialIn K (.builtin "object.__class__") "__get__" = some (some (.builtin "getset_descriptor.__get__")))
    (s2 : PySem.W.takesIn K (.builtin "object.__class__") = some true)
    (g21 : PySem.W.findIn K (.ref X2) "__getattribute__" = some (some (.builtin "BaseException.__getattribute__")))
    (g22 : PySem.W.findIn K (.ref X2) "__getattr__" = some none)
    (g23 : PySem.W.subIn K (.ref X2) (.type "BaseException") = some true)
    (g24 : PySem.W.hasDictIn K X2 = true)
    (g25 : PySem.W.findIn K (.ref X2) "__class__" = some (some (.builtin "object.__class__")))
    (g28 : PySem.W.mroIn K X2 (.type "object") = some true)
    (k22 : PySem.W.kitOne K (.ref X2) (.ref X2) = some true)
    (k23 : PySem.W.kitOne K (.ref X2) (.ref X3) = some false)
    (k24 : PySem.W.kitOne K (.ref X2) (.ref X4) = some false)
    (k25 : PySem.W.kitOne K (.ref X2) (.ref X5) = some false)
    (k26 : PySem.W.kitAny K (.ref X2) [.ref X1, .ref X7, .ref X6] = some false)
    (k27 : PySem.W.kitOne K (.ref X2) (.type "ValueError") = some true)
    (m2 : PySem.W.exmOne K (.ref X2) (.ref X8) = some true)
    (g31 : PySem.W.findIn K (.ref X3) "__getattribute__" = some (some (.builtin "BaseException.__getattribute__")))
    (g32 : PySem.W.findIn K (.ref X3) "__getattr__" = some none)
    (g33 : PySem.W.subIn K (.ref X3) (.type "BaseException") = some true)
    (g34 : PySem.W.hasDictIn K X3 = true)
    (g35 : PySem.W.findIn K (.ref X3) "__class__" = some (some (.builtin "object.__class__")))
    (g38 : PySem.W.mroIn K X3 (.type "object") = some true)
    (k32 : PySem.W.kitOne K (.ref X3) (.ref X2) = some false)
    (k33 : PySem.W.kitOne K (.ref X3) (.ref X3) = some true)
    (k34 : PySem.W.kitOne K (.ref X3) (.ref X4) = some false)
    (k35 : PySem.W.kitOne K (.ref X3) (.ref X5) = some false)
    (k36 : PySem.W.kitAny K (.ref X3) [.ref X1, .ref X7, .ref X6] = some false)
    (k37 : PySem.W.kitOne K (.ref X3) (.type "ValueError") = some true)
    (m3 : PySem.W.exmOne K (.ref X3) (.ref X8) = some true)
    (g41 : PySem.W.findIn K (.ref X4) "__getattribute__" = some (some (.builtin "BaseException.__getattribute__")))
    (g42 : PySem.W.findIn K (.ref X4) "__getattr__" = some none)
    (g43 : PySem.W.subIn K (.ref X4) (.type "BaseException") = some true)
    (g44 : PySem.W.hasDictIn K X4 = true)
    (g45 : PySem.W.findIn K (.ref X4) "__class__" = some (some (.builtin "object.__class__")))
    (g48 : PySem.W.mroIn K X4 (.type "object") = some true)
    (k42 : PySem.W.kitOne K (.ref X4) (.ref X2) = some false)
    (k43 : PySem.W.kitOne K (.ref X4) (.ref X3) = some false)
    (k44 : PySem.W.kitOne K (.ref X4) (.ref X4) = some true)
    (k45 : PySem.W.kitOne K (.ref X4) (.ref X5) = some false)
    (k46 : PySem.W.kitAny K (.ref X4) [.ref X1, .ref X7, .ref X6] = some false)
    (k47 : PySem.W.kitOne K (.ref X4) (.type "ValueError") = some true)
    (m4 : PySem.W.exmOne K (.ref X4) (.ref X8) = some true)
    (g51 : PySem.W.findIn K (.ref X5) "__getattribute__" = some (some (.builtin "BaseException.__getattribute__")))
    (g52 : PySem.W.findIn K (.ref X5) "__getattr__" = some none)
    (g53 : PySem.W.subIn K (.ref X5) (.type "BaseException") = some true)
    (g54 : PySem.W.hasDictIn K X5 = true)
    (g55 : PySem.W.findIn K (.ref X5) "__class__" = some (some (.builtin "object.__class__")))
    (g58 : PySem.W.mroIn K X5 (.type "object") = some true)
    (k52 : PySem.W.kitOne K (.ref X5) (.ref X2) = some false)
    (k53 : PySem.W.kitOne K (.ref X5) (.ref X3) = some false)
    (k54 : PySem.W.kitOne K (.ref X5) (.ref X4) = some false)
    (k55 : PySem.W.kitOne K (.ref X5) (.ref X5) = some true)
    (k56 : PySem.W.kitAny K (.ref X5) [.ref X1, .ref X7, .ref X6] = some false)
    (k57 : PySem.W.kitOne K (.ref X5) (.type "ValueError") = some true)
    (m5 : PySem.W.exmOne K (.ref X5) (.ref X5) = some true) : AllX16 K :=
  ⟨⟨X1, X2, X3, X4, X5, X6⟩, fc, X7, X8, ⟨a1, b1, c1, d1, e1⟩, ⟨a2, b2, c2, d2, e2⟩, ⟨a3, b3, c3, d3, e3⟩, ⟨a4, b4, c4, d4, e4⟩, a6, a7, a8, a5, f1, f2, f3, f4, ⟨g51, g52, g53, g54⟩, m5, ⟨⟨⟨g21, g22, g23, g24, g25, s1, s2, g28⟩, k22, k23, k24, k25, k26, k27, by decide⟩, m2⟩, ⟨⟨⟨g31, g32, g33, g34, g35, s1, s2, g38⟩, k32, k33, k34, k35, k36, k37, by decide⟩, m3⟩, ⟨⟨⟨g41, g42, g43, g44, g45, s1, s2, g48⟩, k42, k43, k44, k45, k46, k47, by decide⟩, m4⟩, ⟨⟨g51, g52, g53, g54, g55, s1, s2, g58⟩, k52, k53, k54, k55, k56, k57, by decide⟩, f5⟩
theorem Ikx.by {fk ck Pt : Addr} (h1 : PySem.W.nsIn K mainGlobals x = some (some (.ref fk))) (h2 : ∃ fd, FunC K x q st fk fd ck) (h3 : PySem.W.keepIn K (.ref fk) = true) (h4 : PySem.W.tabIn K x = some (ck, Pt)) (h5 : K.lookup Pt = none) :
    ∃ fk ck Pt : Addr, PySem.W.nsIn K mainGlobals x = some (some (.ref fk)) ∧ (∃ fd, FunC K x q st fk fd ck) ∧ PySem.W.keepIn K (.ref fk) = true ∧ PySem.W.tabIn K x = some (ck, Pt) ∧ K.lookup Pt = none := ⟨fk, ck, Pt, h1, h2, h3, h4, h5⟩
theorem Ex1.by {β : Type} {P : β → Prop} {t : β} (h : P t) : ∃ t, P t := ⟨t, h⟩
theorem Oex.by {nm qq : Str} {N : Addr} {bs bm : List Value} {sn : List Str} {sub : List Value} {ab : Bool} {col : Option Bool} {k0 k1 k2 k3 k5 : Option Value} (l : K.lookup C = some (excClassObj nm qq C N bs bm true sn sub ab col dd k0 k1 k2 k3 k5 "ValueError.__new__")) (r : PySem.HandSPX.refsVE bm = true) (s : PySem.W.findIn K (.ref C) "__setattr__" = some (some (.builtin "object.__setattr__")))
    (x : PySem.W.subIn K (.ref C) (.type "BaseException") = some true) (t : PySem.W.typeIn K (.ref C) = some (.type "type")) (k : PySem.W.keepIn K (.ref C) = true) : OexC K C := ⟨⟨nm, qq, N, bs, bm, sn, sub, ab, col, dd, k0, k1, k2, k3, k5, l, r⟩, s, x, t, k⟩
end
/-- all that is read off the written part -/
structure Nm (K : PySem.W.Frag) (T : Cs) (U : Es) (ck Pt fk fc bt se : Addr) : Prop where
  f_newest : FnA K "newest" s_newest
  f_seen_value : FnA K "seen_value" s_seen_value
  f_seen_by_hand : FnA K "seen_by_hand" s_seen_by_hand
  f_all_seen_by_hand : FnA K "all_seen_by_hand" s_all_seen_by_hand
  f_is_value : FnA K "is_value" s_is_value
  f_check_key : FnA K "check_key" s_check_key
  f__law_taken : FnA K "_law_taken" s__law_taken
  f__law_whole : FnA K "_law_whole" s__law_whole
  f__law_same : FnA K "_law_same" s__law_same
  f__law_pool : FnA K "_law_pool" s__law_pool
  f__law_word : FnA K "_law_word" s__law_word
  f__law_of_hand : FnA K "_law_of_hand" s__law_of_hand
  f__law_of_branch : FnA K "_law_of_branch" s__law_of_branch
  f__law_clash : FnA K "_law_clash" s__law_clash
  f_law : FnA K "law" s_law
  m_begin : MtA K T.S "begin" "Shelf.begin" s_Shelf_begin
  m_twin : MtA K T.S "twin" "Shelf.twin" s_Shelf_twin
  m_fork : MtA K T.S "fork" "Shelf.fork" s_Shelf_fork
  m_drop : MtA K T.S "drop" "Shelf.drop" s_Shelf_drop
  m_close : MtA K T.S "close" "Shelf.close" s_Shelf_close
  m_look : MtA K T.S "look" "Shelf.look" s_Shelf_look
  m_keys : MtA K T.S "keys" "Shelf.keys" s_Shelf_keys
  m_differ : MtA K T.S "differ" "Shelf.differ" s_Shelf_differ
  m_write : MtA K T.S "write" "Shelf.write" s_Shelf_write
  m_commit : MtA K T.S "commit" "Shelf.commit" s_Shelf_commit
  m_branch_there : MtA K T.S "branch_there" "Shelf.branch_there" s_Shelf_branch_there
  m_hand_there : MtA K T.S "hand_there" "Shelf.hand_there" s_Shelf_hand_there
  m_add_hand : MtA K T.S "add_hand" "Shelf.add_hand" s_Shelf_add_hand
  m_let_go : MtA K T.S "let_go" "Shelf.let_go" s_Shelf_let_go
  m_settle : MtA K T.S "settle" "Shelf.settle" s_Shelf_settle
  k_Shelf : KxA K "Shelf" T.S "Shelf.__init__" s_Shelf___init__
  k_Branch : KxA K "Branch" T.B "Branch.__init__" s_Branch___init__
  k_Hand : KxA K "Hand" T.N "Hand.__init__" s_Hand___init__
  cf : Cf K T
  x_badKey : XxP K "BadKey" U.badKey
  x_noHand : XxP K "NoHand" U.noHand
  x_noBranch : XxP K "NoBranch" U.noBranch
  x_dropped : XxP K "Dropped" U.dropped
  x_nc : PySem.W.nsIn K mainGlobals "NoCell" = some (some (.ref U.noCell))
  x_bt : PySem.W.nsIn K mainGlobals "BadText" = some (some (.ref bt))
  x_se : PySem.W.nsIn K mainGlobals "ShelfError" = some (some (.ref se))
  c_g : PySem.W.nsIn K mainGlobals "Clash" = some (some (.ref U.clash))
  c_T : OexC K U.clash
  c_i : PySem.W.findIn K (.ref U.clash) "__init__" = some (some (.ref fc))
  c_t : PySem.W.typeIn K (.ref fc) = some (.type "function")
  c_n : PySem.W.findIn K (.ref U.clash) "key" = some none
  c_x : XfC K U.clash
  cc : PySem.W.exmOne K (.ref U.clash) (.ref U.clash) = some true
  w2 : Xw K U bt se U.noHand 0
  w3 : Xw K U bt se U.noBranch 1
  w4 : Xw K U bt se U.dropped 2
  w5 : WordF K U bt U.clash 3
  c_f : ∃ fd, Fun K "__init__" "Clash.__init__" s_Clash___init__ fc fd
  i_g : PySem.W.nsIn K mainGlobals "is_key" = some (some (.ref fk))
  i_f : ∃ fd, FunC K "is_key" "is_key" s_is_key fk fd ck
  i_k : PySem.W.keepIn K (.ref fk) = true
  i_t : PySem.W.tabIn K "is_key" = some (ck, Pt)
  i_n : K.lookup Pt = none
  w_l : ∃ t, PySem.W.nsIn K mainGlobals "LETTERS" = some (some (.str letters t))
  w_m : ∃ t, PySem.W.nsIn K mainGlobals "LONGEST_KEY" = some (some (.int 8 t))
  w_g : ∃ t, PySem.W.nsIn K mainGlobals "GREATEST_VALUE" = some (some (.int 999999 t))
  z_len : PySem.W.nsIn K mainGlobals "len" = some none
  z_sorted : PySem.W.nsIn K mainGlobals "sorted" = some none
  z_list : PySem.W.nsIn K mainGlobals "list" = some none
  z_zip : PySem.W.nsIn K mainGlobals "zip" = some none
  z_set : PySem.W.nsIn K mainGlobals "set" = some none
  z_min : PySem.W.nsIn K mainGlobals "min" = some none
  z_all : PySem.W.nsIn K mainGlobals "all" = some none
  z_range : PySem.W.nsIn K mainGlobals "range" = some none
  z_isinstance : PySem.W.nsIn K mainGlobals "isinstance" = some none
  z_int : PySem.W.nsIn K mainGlobals "int" = some none
  z_tuple : PySem.W.nsIn K mainGlobals "tuple" = some none
  z_str : PySem.W.nsIn K mainGlobals "str" = some none
  z_bool : PySem.W.nsIn K mainGlobals "bool" = some none
  z_ValueError : PySem.W.nsIn K mainGlobals "ValueError" = some none
  z_reversed : PySem.W.nsIn K mainGlobals "reversed" = some none
section
variable {l : PySem.W.OpenLaw} {w : World} {K : PySem.W.Frag} {h : Heap} {mg : Str → Option Value} {fa ck Pt fk fc bt se : Addr} {T : Cs} {U : Es}
theorem law16 (X : K.In h) (G : h.Ns mainGlobals mg) (hfa : mg "law" = some (.ref fa)) (N : Nm K T U ck Pt fk fc bt se) (hc : PySem.W.CodeHd h ck Pt) (hP : h.get? Pt = some (PySem.W.tabObj #[])) : LamX.LawAtS l w K CX0 7 63 "_law_script" mg fa h := by
  have at_ : ∀ {x : Str} {v : Value}, PySem.W.nsIn K mainGlobals x = some (some v) → mg x = some v := fun e => PySem.W.mg_of X G e
  have no_ : ∀ {x : Str}, PySem.W.nsIn K mainGlobals x = some none → mg x = none := fun e => PySem.W.mg_none_of X G e
  have B : Bt mg := ⟨no_ N.z_len, no_ N.z_sorted, no_ N.z_list, no_ N.z_zip, no_ N.z_set, no_ N.z_min, no_ N.z_all, no_ N.z_range, no_ N.z_isinstance, no_ N.z_int⟩
  have B2 : Bt2 mg := ⟨no_ N.z_tuple, no_ N.z_str, no_ N.z_bool⟩
  have C := N.cf
  have xc : ∀ {x : Str} {A : Addr}, XxP K x A → Xc K mg x A := fun e => ⟨at_ e.1, e.2.1, e.2.2.1, e.2.2.2.1, e.2.2.2.2⟩
  have E : Ex K mg U := ⟨xc N.x_badKey, xc N.x_noHand, xc N.x_noBranch, xc N.x_dropped⟩
  have D : Wd mg := by
    obtain ⟨t1, e1⟩ := N.w_l
    obtain ⟨t2, e2⟩ := N.w_m
    obtain ⟨t3, e3⟩ := N.w_g
    exact ⟨⟨t1, at_ e1⟩, ⟨t2, at_ e2⟩, ⟨t3, at_ e3⟩⟩
  obtain ⟨f_newest, fd_newest, a_newest, F_newest⟩ := N.f_newest
  have b_newest := F_newest.binds (ps := ["line", "moment"]) fun _ _ _ _ _ _ => ar2 (fun _ _ => rfl)
  obtain ⟨f_seen_value, fd_seen_value, a_seen_value, F_seen_value⟩ := N.f_seen_value
  have b_seen_value := F_seen_value.binds (ps := ["branches", "number", "moment", "key"]) fun _ _ _ _ _ _ => ar4 (fun _ _ _ _ => rfl)
  obtain ⟨f_seen_by_hand, fd_seen_by_hand, a_seen_by_hand, F_seen_by_hand⟩ := N.f_seen_by_hand
  have b_seen_by_hand := F_seen_by_hand.binds (ps := ["branches", "hand", "key"]) fun _ _ _ _ _ _ => ar3 (fun _ _ _ => rfl)
  obtain ⟨f_all_seen_by_hand, fd_all_seen_by_hand, a_all_seen_by_hand, F_all_seen_by_hand⟩ := N.f_all_seen_by_hand
  have b_all_seen_by_hand := F_all_seen_by_hand.binds (ps := ["branches", "hand"]) fun _ _ _ _ _ _ => ar2 (fun _ _ => rfl)
  obtain ⟨f_is_value, fd_is_value, a_is_value, F_is_value⟩ := N.f_is_value
  have b_is_value := F_is_value.binds (ps := ["number"]) fun _ _ _ _ _ _ => ar1 (fun _ => rfl)
  obtain ⟨f_check_key, fd_check_key, a_check_key, F_check_key⟩ := N.f_check_key
  have b_check_key := F_check_key.binds (ps := ["key"]) fun _ _ _ _ _ _ => ar1 (fun _ => rfl)
  obtain ⟨f__law_taken, fd__law_taken, a__law_taken, F__law_taken⟩ := N.f__law_taken
  have b__law_taken := F__law_taken.binds (ps := ["_law_row", "_law_many"]) fun _ _ _ _ _ _ => ar2 (fun _ _ => rfl)
  obtain ⟨f__law_whole, fd__law_whole, a__law_whole, F__law_whole⟩ := N.f__law_whole
  have b__law_whole := F__law_whole.binds (ps := ["_law_found"]) fun _ _ _ _ _ _ => ar1 (fun _ => rfl)
  obtain ⟨f__law_same, fd__law_same, a__law_same, F__law_same⟩ := N.f__law_same
  have b__law_same := F__law_same.binds (ps := ["_law_found", "_law_due"]) fun _ _ _ _ _ _ => ar2 (fun _ _ => rfl)
  obtain ⟨f__law_pool, fd__law_pool, a__law_pool, F__law_pool⟩ := N.f__law_pool
  have b__law_pool := F__law_pool.binds (ps := ["_law_row"]) fun _ _ _ _ _ _ => ar1 (fun _ => rfl)
  obtain ⟨f__law_word, fd__law_word, a__law_word, F__law_word⟩ := N.f__law_word
  have b__law_word := F__law_word.binds (ps := ["_law_e"]) fun _ _ _ _ _ _ => ar1 (fun _ => rfl)
  obtain ⟨f__law_of_hand, fd__law_of_hand, a__law_of_hand, F__law_of_hand⟩ := N.f__law_of_hand
  have b__law_of_hand := F__law_of_hand.binds (ps := ["_law_shelf", "_law_way", "_law_hand", "_law_other"]) fun _ _ _ _ _ _ => ar4 (fun _ _ _ _ => rfl)
  obtain ⟨f__law_of_branch, fd__law_of_branch, a__law_of_branch, F__law_of_branch⟩ := N.f__law_of_branch
  have b__law_of_branch := F__law_of_branch.binds (ps := ["_law_shelf", "_law_way", "_law_branch"]) fun _ _ _ _ _ _ => ar3 (fun _ _ _ => rfl)
  obtain ⟨f__law_clash, fd__law_clash, a__law_clash, F__law_clash⟩ := N.f__law_clash
  have b__law_clash := F__law_clash.binds (ps := ["_law_shelf", "_law_keys"]) fun _ _ _ _ _ _ => ar2 (fun _ _ => rfl)
  obtain ⟨f_law, fd_law, a_law, F_law⟩ := N.f_law
  have b_law := F_law.binds (ps := ["_law_script"]) fun _ _ _ _ _ _ => ar1 (fun _ => rfl)
  obtain ⟨f_begin, fd_begin, a_begin, F_begin⟩ := N.m_begin
  have b_begin := F_begin.binds (ps := ["self", "branch"]) fun _ _ _ _ _ _ => ar2 (fun _ _ => rfl)
  obtain ⟨f_twin, fd_twin, a_twin, F_twin⟩ := N.m_twin
  have b_twin := F_twin.binds (ps := ["self", "hand"]) fun _ _ _ _ _ _ => ar2 (fun _ _ => rfl)
  obtain ⟨f_fork, fd_fork, a_fork, F_fork⟩ := N.m_fork
  have b_fork := F_fork.binds (ps := ["self", "hand"]) fun _ _ _ _ _ _ => ar2 (fun _ _ => rfl)
  obtain ⟨f_drop, fd_drop, a_drop, F_drop⟩ := N.m_drop
  have b_drop := F_drop.binds (ps := ["self", "branch"]) fun _ _ _ _ _ _ => ar2 (fun _ _ => rfl)
  obtain ⟨f_close, fd_close, a_close, F_close⟩ := N.m_close
  have b_close := F_close.binds (ps := ["self", "hand"]) fun _ _ _ _ _ _ => ar2 (fun _ _ => rfl)
  obtain ⟨f_look, fd_look, a_look, F_look⟩ := N.m_look
  have b_look := F_look.binds (ps := ["self", "hand", "key"]) fun _ _ _ _ _ _ => ar3 (fun _ _ _ => rfl)
  obtain ⟨f_keys, fd_keys, a_keys, F_keys⟩ := N.m_keys
  have b_keys := F_keys.binds (ps := ["self", "hand"]) fun _ _ _ _ _ _ => ar2 (fun _ _ => rfl)
  obtain ⟨f_differ, fd_differ, a_differ, F_differ⟩ := N.m_differ
  have b_differ := F_differ.binds (ps := ["self", "one", "other"]) fun _ _ _ _ _ _ => ar3 (fun _ _ _ => rfl)
  obtain ⟨f_write, fd_write, a_write, F_write⟩ := N.m_write
  have b_write := F_write.binds (ps := ["self", "hand", "key", "value"]) fun _ _ _ _ _ _ => ar4 (fun _ _ _ _ => rfl)
  obtain ⟨f_commit, fd_commit, a_commit, F_commit⟩ := N.m_commit
  have b_commit := F_commit.binds (ps := ["self", "hand"]) fun _ _ _ _ _ _ => ar2 (fun _ _ => rfl)
  obtain ⟨f_branch_there, fd_branch_there, a_branch_there, F_branch_there⟩ := N.m_branch_there
  have b_branch_there := F_branch_there.binds (ps := ["self", "branch"]) fun _ _ _ _ _ _ => ar2 (fun _ _ => rfl)
  obtain ⟨f_hand_there, fd_hand_there, a_hand_there, F_hand_there⟩ := N.m_hand_there
  have b_hand_there := F_hand_there.binds (ps := ["self", "hand"]) fun _ _ _ _ _ _ => ar2 (fun _ _ => rfl)
  obtain ⟨f_add_hand, fd_add_hand, a_add_hand, F_add_hand⟩ := N.m_add_hand
  have b_add_hand := F_add_hand.binds (ps := ["self", "branch", "moment"]) fun _ _ _ _ _ _ => ar3 (fun _ _ _ => rfl)
  obtain ⟨f_let_go, fd_let_go, a_let_go, F_let_go⟩ := N.m_let_go
  have b_let_go := F_let_go.binds (ps := ["self", "hand"]) fun _ _ _ _ _ _ => ar2 (fun _ _ => rfl)
  obtain ⟨f_settle, fd_settle, a_settle, F_settle⟩ := N.m_settle
  have b_settle := F_settle.binds (ps := ["self", "held"]) fun _ _ _ _ _ _ => ar2 (fun _ _ => rfl)
  obtain ⟨f_Shelf, fd_Shelf, a_Shelf, m_Shelf, F_Shelf⟩ := N.k_Shelf
  have b_Shelf := F_Shelf.binds (ps := ["self"]) fun _ _ _ _ _ _ => ar1 (fun _ => rfl)
  obtain ⟨f_Branch, fd_Branch, a_Branch, m_Branch, F_Branch⟩ := N.k_Branch
  have b_Branch := F_Branch.binds (ps := ["self", "beneath", "moment"]) fun _ _ _ _ _ _ => ar3 (fun _ _ _ => rfl)
  obtain ⟨f_Hand, fd_Hand, a_Hand, m_Hand, F_Hand⟩ := N.k_Hand
  have b_Hand := F_Hand.binds (ps := ["self", "branch", "moment"]) fun _ _ _ _ _ _ => ar3 (fun _ _ _ => rfl)
  obtain ⟨fdc, Fc⟩ := N.c_f
  have bc := Fc.binds (ps := ["self", "key"]) fun _ _ _ _ _ _ => ar2 (fun _ _ => rfl)
  obtain ⟨fdk, Fk⟩ := N.i_f
  have bk := Fk.binds (ps := ["text"]) fun _ _ _ _ _ _ => ar1 (fun _ => rfl)
  have Cl1 : Cl K mg U fc := ⟨at_ N.c_g, N.c_T, N.c_i, N.c_t, N.c_n⟩
  have e := hfa.symm.trans (at_ a_law)
  cases e
  refine ⟨fd_law, [(ck, Pt)], spLaw K Pt, fun p hp => ?_, fun p hp => ?_, fun p hp => ?_, fun s u => ?_, fun H a ns _ _ hT hS => ?_, fun base hKb hNs hTB => ?_⟩
  · rw [List.mem_singleton.mp hp]; exact hP
  · rw [List.mem_singleton.mp hp]; exact N.i_n
  · rw [List.mem_singleton.mp hp]; exact hc
  · obtain ⟨oc, od, kV, doc, pm, an, cdv, ct, osl, rfl, lk, hcd⟩ := F_law.ex
    exact .of_eq rfl
  · exact ⟨a, ns, rfl, hS, ⟨#[], hT (ck, Pt) (List.mem_singleton.mpr rfl), trivial⟩, fun _ => rfl⟩
  have tb := hTB (ck, Pt) (List.mem_singleton.mpr rfl)
  have TB : GxR.TabB base mg ck Pt := ⟨tb.code, tb.bm, tb.gP⟩
  have c_newest : Fx l.prog w K mg base CX0 "newest" 1 ["line", "moment"] (spNewest K) := ⟨f_newest, fd_newest, at_ a_newest, F_newest.kp, b_newest, ok_newest F_newest B⟩
  have c_seen_value : Fx l.prog w K mg base CX0 "seen_value" 2 ["branches", "number", "moment", "key"] (spSeen T) := ⟨f_seen_value, fd_seen_value, at_ a_seen_value, F_seen_value.kp, b_seen_value, ok_seen_value F_seen_value B C ⟨F_newest, at_ a_newest, F_newest.kp, b_newest⟩⟩
  have c_seen_by_hand : Fx l.prog w K mg base CX0 "seen_by_hand" 3 ["branches", "hand", "key"] (spSeenHand T) := ⟨f_seen_by_hand, fd_seen_by_hand, at_ a_seen_by_hand, F_seen_by_hand.kp, b_seen_by_hand, ok_seen_by_hand F_seen_by_hand C c_seen_value⟩
  have c_all_seen_by_hand : Fx l.prog w K mg base CX0 "all_seen_by_hand" 2 ["branches", "hand"] (spAllSeen T) := ⟨f_all_seen_by_hand, fd_all_seen_by_hand, at_ a_all_seen_by_hand, F_all_seen_by_hand.kp, b_all_seen_by_hand, ok_allSeen F_all_seen_by_hand C c_newest⟩
  have c_is_value : Fx l.prog w K mg base CX0 "is_value" 1 ["number"] spIsVal := ⟨f_is_value, fd_is_value, at_ a_is_value, F_is_value.kp, b_is_value, ok_is_value F_is_value D⟩
  have c_check_key : Fx l.prog w K mg base (L2N.CX l.prog w) "check_key" 4 ["key"] (spCheck U Pt) := ⟨f_check_key, fd_check_key, at_ a_check_key, F_check_key.kp, b_check_key, ok_check_key F_check_key E (at_ N.i_g) N.i_k bk (ok_is_key Fk B D TB)⟩
  have c_hand_there : Mx l.prog w K mg base (L2N.CX l.prog w) T.S "hand_there" 1 ["self", "hand"] (spHandThere T U) := ⟨f_hand_there, fd_hand_there, a_hand_there, b_hand_there, ok_hand_there F_hand_there C E⟩
  have c_branch_there : Mx l.prog w K mg base (L2N.CX l.prog w) T.S "branch_there" 1 ["self", "branch"] (spBranchThere T U) := ⟨f_branch_there, fd_branch_there, a_branch_there, b_branch_there, ok_branch_there F_branch_there C E⟩
  have c_look : Mx l.prog w K mg base (L2N.CX l.prog w) T.S "look" 5 ["self", "hand", "key"] (spLook T U Pt) := ⟨f_look, fd_look, a_look, b_look, ok_look F_look C c_hand_there c_check_key c_seen_by_hand⟩
  have c_Hand : Kx l.prog w K mg base "Hand" T.N 1 ["self", "branch", "moment"] (spHandInit T) := ⟨f_Hand, fd_Hand, at_ a_Hand, m_Hand, b_Hand, ok_Hand_init F_Hand C⟩
  have c_add_hand : Mx l.prog w K mg base CX0 T.S "add_hand" 3 ["self", "branch", "moment"] (spAddHand T) := ⟨f_add_hand, fd_add_hand, a_add_hand, b_add_hand, ok_add_hand F_add_hand C c_Hand⟩
  have c_let_go : Mx l.prog w K mg base CX0 T.S "let_go" 1 ["self", "hand"] (spLetGo T) := ⟨f_let_go, fd_let_go, a_let_go, b_let_go, ok_let_go F_let_go C⟩
  have c_begin : Mx l.prog w K mg base (L2N.CX l.prog w) T.S "begin" 4 ["self", "branch"] (spBegin T U) := ⟨f_begin, fd_begin, a_begin, b_begin, ok_begin F_begin C E c_branch_there c_add_hand⟩
  have c_close : Mx l.prog w K mg base (L2N.CX l.prog w) T.S "close" 2 ["self", "hand"] (spClose T U) := ⟨f_close, fd_close, a_close, b_close, ok_close F_close C c_hand_there c_let_go⟩
  have c_write : Mx l.prog w K mg base (L2N.CX l.prog w) T.S "write" 5 ["self", "hand", "key", "value"] (spWrite T U Pt) := ⟨f_write, fd_write, a_write, b_write, ok_write F_write C E c_hand_there c_check_key c_is_value⟩
  have c_settle : Mx l.prog w K mg base (L2N.CX l.prog w) T.S "settle" 3 ["self", "held"] (spSettle T U) := ⟨f_settle, fd_settle, a_settle, b_settle, ok_settle F_settle B C E Cl1 bc (ok_clash Fc Cl1)⟩
  have c_commit : Mx l.prog w K mg base (L2N.CX l.prog w) T.S "commit" 4 ["self", "hand"] (spCommit T U) := ⟨f_commit, fd_commit, a_commit, b_commit, ok_commit F_commit C c_hand_there c_settle c_let_go⟩
  have c_Branch : Kx l.prog w K mg base "Branch" T.B 1 ["self", "beneath", "moment"] (spBranchInit T) := ⟨f_Branch, fd_Branch, at_ a_Branch, m_Branch, b_Branch, ok_Branch_init F_Branch C⟩
  have c_Shelf : Kx l.prog w K mg base "Shelf" T.S 3 ["self"] (spShelfInit T) := ⟨f_Shelf, fd_Shelf, at_ a_Shelf, m_Shelf, b_Shelf, ok_Shelf_init F_Shelf C c_Branch⟩
  have c_twin : Mx l.prog w K mg base (L2N.CX l.prog w) T.S "twin" 4 ["self", "hand"] (spTwin T U) := ⟨f_twin, fd_twin, a_twin, b_twin, ok_twin F_twin C c_hand_there c_add_hand⟩
  have c_fork : Mx l.prog w K mg base (L2N.CX l.prog w) T.S "fork" 3 ["self", "hand"] (spFork T U) := ⟨f_fork, fd_fork, a_fork, b_fork, ok_fork F_fork C c_hand_there c_Branch⟩
  have c_drop : Mx l.prog w K mg base (L2N.CX l.prog w) T.S "drop" 2 ["self", "branch"] (spDrop T U) := ⟨f_drop, fd_drop, a_drop, b_drop, ok_drop F_drop C E c_branch_there⟩
  have c_keys : Mx l.prog w K mg base (L2N.CX l.prog w) T.S "keys" 3 ["self", "hand"] (spKeys T U) := ⟨f_keys, fd_keys, a_keys, b_keys, ok_keysM F_keys B C c_hand_there c_all_seen_by_hand⟩
  have c_differ : Mx l.prog w K mg base (L2N.CX l.prog w) T.S "differ" 2 ["self", "one", "other"] (spDifferX T U) := ⟨f_differ, fd_differ, a_differ, b_differ, ok_differX F_differ C c_hand_there⟩
  have h_seen_value : FxH l.prog w K mg base CX0 "seen_value" 2 ["branches", "number", "moment", "key"] (spSeen T) := ⟨f_seen_value, fd_seen_value, at_ a_seen_value, F_seen_value.kp, b_seen_value, hot_seen_value F_seen_value B C ⟨F_newest, at_ a_newest, F_newest.kp, b_newest⟩⟩
  have h_seen_by_hand : FxH l.prog w K mg base CX0 "seen_by_hand" 3 ["branches", "hand", "key"] (spSeenHand T) := ⟨f_seen_by_hand, fd_seen_by_hand, at_ a_seen_by_hand, F_seen_by_hand.kp, b_seen_by_hand, hot_seen_by_hand F_seen_by_hand C h_seen_value⟩
  have h_check_key : FxH l.prog w K mg base (L2.CX l.prog w) "check_key" 4 ["key"] (spCheck U Pt) := ⟨f_check_key, fd_check_key, at_ a_check_key, F_check_key.kp, b_check_key, hot_check_key F_check_key E (at_ N.i_g) N.i_k bk (hot_is_key Fk B D TB)⟩
  have h_hand_there : MxH l.prog w K mg base (L2.CX l.prog w) T.S "hand_there" 1 ["self", "hand"] (spHandThere T U) := ⟨f_hand_there, fd_hand_there, a_hand_there, b_hand_there, hot_hand_there F_hand_there C E⟩
  have h_look : MxH l.prog w K mg base (L2.CX l.prog w) T.S "look" 5 ["self", "hand", "key"] (spLook T U Pt) := ⟨f_look, fd_look, a_look, b_look, hot_look F_look C h_hand_there h_check_key h_seen_by_hand⟩
  have c__law_taken : Fx l.prog w K mg base CX0 "_law_taken" 1 ["_law_row", "_law_many"] (spTaken K) := ⟨f__law_taken, fd__law_taken, at_ a__law_taken, F__law_taken.kp, b__law_taken, ok_taken F__law_taken B⟩
  have c__law_whole : Fx l.prog w K mg base CX0 "_law_whole" 1 ["_law_found"] spWhole := ⟨f__law_whole, fd__law_whole, at_ a__law_whole, F__law_whole.kp, b__law_whole, ok_whole F__law_whole B B2⟩
  have c__law_same : Fx l.prog w K mg base CX0 "_law_same" 5 ["_law_found", "_law_due"] (spSame 3) := ⟨f__law_same, fd__law_same, at_ a__law_same, F__law_same.kp, b__law_same, ok_same F__law_same B B2 c__law_whole (at_ a__law_same) F__law_same.kp b__law_same 3⟩
  have c__law_pool : Fx l.prog w K mg base CX0 "_law_pool" 2 ["_law_row"] (spPool K) := ⟨f__law_pool, fd__law_pool, at_ a__law_pool, F__law_pool.kp, b__law_pool, ok_pool F__law_pool B c__law_taken⟩
  have hw : FnP l.prog w K mg base CX0 1 f__law_word fd__law_word ["_law_e"] (spWord K U bt) := ok_word F__law_word B E (at_ N.x_nc) (at_ N.c_g) (at_ N.x_bt) (no_ N.z_ValueError)
  have c__law_of_hand : Fx l.prog w K mg base CX0 "_law_of_hand" 5 ["_law_shelf", "_law_way", "_law_hand", "_law_other"] (spOfHd T) := ⟨f__law_of_hand, fd__law_of_hand, at_ a__law_of_hand, F__law_of_hand.kp, b__law_of_hand, ok_ofHd F__law_of_hand C (at_ N.x_se) N.w2 N.w4 (at_ a__law_word) F__law_word.kp b__law_word hw c_twin c_fork c_close c_keys c_commit c_differ⟩
  have c__law_of_branch : Fx l.prog w K mg base CX0 "_law_of_branch" 5 ["_law_shelf", "_law_way", "_law_branch"] (spOfBr T) := ⟨f__law_of_branch, fd__law_of_branch, at_ a__law_of_branch, F__law_of_branch.kp, b__law_of_branch, ok_ofBr F__law_of_branch C (at_ N.x_se) N.w3 N.w4 (at_ a__law_word) F__law_word.kp b__law_word hw c_begin c_drop⟩
  have c__law_clash : Fx l.prog w K mg base CX0 "_law_clash" 6 ["_law_shelf", "_law_keys"] (spClashL T Pt) := ⟨f__law_clash, fd__law_clash, at_ a__law_clash, F__law_clash.kp, b__law_clash, ok_clashL (se := se) F__law_clash C N.c_x N.c_n (at_ N.c_g) N.cc N.w5 (at_ a__law_word) F__law_word.kp b__law_word hw c_begin c_write c_commit h_look⟩
  exact ok_law F_law B (no_ N.z_reversed) C c__law_taken c__law_pool c__law_same c_Shelf c_begin c_write c_commit c_fork c_drop c_look c__law_of_hand c__law_of_branch c__law_clash
end
/-- the end, with what the top says of is_key's own table -/
theorem walk16 {l : PySem.W.OpenLaw} {q : Program} {loose : List Str} {XP : (Str → Option Value) → Heap → Prop} {YP : World → Heap → Prop} {d : DefRec} {K : Params → PySem.W.Frag}
    (hn : l.most = some 63) (hdf : d.params.defaults = []) (hrec : ((recsOf q).find? (fun e => e.name == ("is_key" : Str))).isSome = true) (hY : ∀ (w : World) (h : Heap), YP w h → (K w.params).In h)
    (F : ∀ (w : World) (mg : Str → Option Value) (fa : Addr) (h : Heap), (K w.params).In h → h.Ns mainGlobals mg → mg d.name = some (.ref fa) →
      (∀ c P : Addr, PySem.W.tabIn (K w.params) "is_key" = some (c, P) → PySem.W.CodeHd h c P ∧ h.get? P = some (PySem.W.tabObj #[])) → LamX.LawAtS l w (K w.params) CX0 7 63 "_law_script" mg fa h) :
    PySem.W.WalkO q loose XP YP l.row.toRowW d [] (fun f vs => PySem.call f vs) := by
  refine Att.attach_callB hn hdf fun w s0 s1 mg mb fa o pm cd doc a vs ns G Y ho hd hcd hmg hobj hints hlen hbits hg => ?_
  have KX := hY w _ Y
  obtain ⟨dk, hk⟩ := Option.isSome_iff_exists.mp hrec
  obtain ⟨fd, cs, sp, hT, nT, C, hb, hsp, hF⟩ := F w mg fa _ KX G.T.g hmg fun c P e => PySem.W.tab_of G.T KX hk e
  exact LamX.law_callTs KX G.T.g G.T.b G.T.builtins G.T.nolimit hg hT nT C G.T.bmain hobj hints (Nat.le_trans hlen (by decide)) ⟨rfl, by decide, by decide⟩ hF hb (fun H hH hS => hsp H a ns hlen hbits hH hS) fun H e s' z => z
end Vs
set_option maxHeartbeats 0 in
open_top hd16 for PySem.Challenge.rw_versionshelf_k16_refusals_stand_apart
open PySem PySem.W PyProof.Rows
set_option maxRecDepth 100000 in
set_option maxHeartbeats 0 in
theorem PySem.Challenge.cw_versionshelf_k16_refusals_stand_apart_holds : PySem.Challenge.rw_versionshelf_k16_refusals_stand_apart.Holds :=
  hd16 (by
  k_fill
  refine Vs.walk16 (l := PySem.Challenge.rw_versionshelf_k16_refusals_stand_apart) rfl rfl (by kernel_rfl) (fun w h Y => PySem.W.kIn_of Y) ?F
  intro w mg fa h KX G hmg hT
  have f_newest : Vs.FnA (hd16.heap_39 w.params) "newest" Vs.s_newest := by (refine' Vs.FnA.by ?a ?l ?c ?k; (case a => k_is); (case l => k_is); (case c => k_is); (case k => k_is))
  have f_seen_value : Vs.FnA (hd16.heap_39 w.params) "seen_value" Vs.s_seen_value := by (refine' Vs.FnA.by ?a ?l ?c ?k; (case a => k_is); (case l => k_is); (case c => k_is); (case k => k_is))
  have f_seen_by_hand : Vs.FnA (hd16.heap_39 w.params) "seen_by_hand" Vs.s_seen_by_hand := by (refine' Vs.FnA.by ?a ?l ?c ?k; (case a => k_is); (case l => k_is); (case c => k_is); (case k => k_is))
  have f_all_seen_by_hand : Vs.FnA (hd16.heap_39 w.params) "all_seen_by_hand" Vs.s_all_seen_by_hand := by (refine' Vs.FnA.by ?a ?l ?c ?k; (case a => k_is); (case l => k_is); (case c => k_is); (case k => k_is))
  have f_is_value : Vs.FnA (hd16.heap_39 w.params) "is_value" Vs.s_is_value := by (refine' Vs.FnA.by ?a ?l ?c ?k; (case a => k_is); (case l => k_is); (case c => k_is); (case k => k_is))
  have f_check_key : Vs.FnA (hd16.heap_39 w.params) "check_key" Vs.s_check_key := by (refine' Vs.FnA.by ?a ?l ?c ?k; (case a => k_is); (case l => k_is); (case c => k_is); (case k => k_is))
  have f__law_taken : Vs.FnA (hd16.heap_39 w.params) "_law_taken" Vs.s__law_taken := by (refine' Vs.FnA.by ?a ?l ?c ?k; (case a => k_is); (case l => k_is); (case c => k_is); (case k => k_is))
  have f__law_whole : Vs.FnA (hd16.heap_39 w.params) "_law_whole" Vs.s__law_whole := by (refine' Vs.FnA.by ?a ?l ?c ?k; (case a => k_is); (case l => k_is); (case c => k_is); (case k => k_is))
  have f__law_same : Vs.FnA (hd16.heap_39 w.params) "_law_same" Vs.s__law_same := by (refine' Vs.FnA.by ?a ?l ?c ?k; (case a => k_is); (case l => k_is); (case c => k_is); (case k => k_is))
  have f__law_pool : Vs.FnA (hd16.heap_39 w.params) "_law_pool" Vs.s__law_pool := by (refine' Vs.FnA.by ?a ?l ?c ?k; (case a => k_is); (case l => k_is); (case c => k_is); (case k => k_is))
  have f__law_word : Vs.FnA (hd16.heap_39 w.params) "_law_word" Vs.s__law_word := by (refine' Vs.FnA.by ?a ?l ?c ?k; (case a => k_is); (case l => k_is); (case c => k_is); (case k => k_is))
  have f__law_of_hand : Vs.FnA (hd16.heap_39 w.params) "_law_of_hand" Vs.s__law_of_hand := by (refine' Vs.FnA.by ?a ?l ?c ?k; (case a => k_is); (case l => k_is); (case c => k_is); (case k => k_is))
  have f__law_of_branch : Vs.FnA (hd16.heap_39 w.params) "_law_of_branch" Vs.s__law_of_branch := by (refine' Vs.FnA.by ?a ?l ?c ?k; (case a => k_is); (case l => k_is); (case c => k_is); (case k => k_is))
  have f__law_clash : Vs.FnA (hd16.heap_39 w.params) "_law_clash" Vs.s__law_clash := by (refine' Vs.FnA.by ?a ?l ?c ?k; (case a => k_is); (case l => k_is); (case c => k_is); (case k => k_is))
  have f_law : Vs.FnA (hd16.heap_39 w.params) "law" Vs.s_law := by (refine' Vs.FnA.by ?a ?l ?c ?k; (case a => k_is); (case l => k_is); (case c => k_is); (case k => k_is))
  have z_len : nsIn (hd16.heap_39 w.params) mainGlobals "len" = some none := by k_is
  have z_sorted : nsIn (hd16.heap_39 w.params) mainGlobals "sorted" = some none := by k_is
  have z_list : nsIn (hd16.heap_39 w.params) mainGlobals "list" = some none := by k_is
  have z_zip : nsIn (hd16.heap_39 w.params) mainGlobals "zip" = some none := by k_is
  have z_set : nsIn (hd16.heap_39 w.params) mainGlobals "set" = some none := by k_is
  have z_min : nsIn (hd16.heap_39 w.params) mainGlobals "min" = some none := by k_is
  have z_all : nsIn (hd16.heap_39 w.params) mainGlobals "all" = some none := by k_is
  have z_range : nsIn (hd16.heap_39 w.params) mainGlobals "range" = some none := by k_is
  have z_isinstance : nsIn (hd16.heap_39 w.params) mainGlobals "isinstance" = some none := by k_is
  have z_int : nsIn (hd16.heap_39 w.params) mainGlobals "int" = some none := by k_is
  have z_tuple : nsIn (hd16.heap_39 w.params) mainGlobals "tuple" = some none := by k_is
  have z_str : nsIn (hd16.heap_39 w.params) mainGlobals "str" = some none := by k_is
  have z_bool : nsIn (hd16.heap_39 w.params) mainGlobals "bool" = some none := by k_is
  have z_ValueError : nsIn (hd16.heap_39 w.params) mainGlobals "ValueError" = some none := by k_is
  have z_reversed : nsIn (hd16.heap_39 w.params) mainGlobals "reversed" = some none := by k_is
  obtain ⟨C_Shelf, k_Shelf, cl_Shelf, a_sNow, a_sBrs, a_sBm, a_sHns, a_sHm, a_sJd, a_jOw, a_jRs, m_begin, m_twin, m_fork, m_drop, m_close, m_look, m_keys, m_differ, m_write, m_commit, m_branch_there, m_hand_there, m_add_hand, m_let_go, m_settle⟩ : ∃ C : Addr, Vs.KxA (hd16.heap_39 w.params) "Shelf" C "Shelf.__init__" Vs.s_Shelf___init__ ∧ L2.Cls (hd16.heap_39 w.params) C ∧ L2.NoAttr (hd16.heap_39 w.params) C "now" ∧ L2.NoAttr (hd16.heap_39 w.params) C "branches" ∧ L2.NoAttr (hd16.heap_39 w.params) C "branches_made" ∧ L2.NoAttr (hd16.heap_39 w.params) C "hands" ∧ L2.NoAttr (hd16.heap_39 w.params) C "hands_made" ∧ L2.NoAttr (hd16.heap_39 w.params) C "judged" ∧ L2.NoAttr (hd16.heap_39 w.params) C "owners" ∧ L2.NoAttr (hd16.heap_39 w.params) C "reasons" ∧ Vs.MtA (hd16.heap_39 w.params) C "begin" "Shelf.begin" Vs.s_Shelf_begin ∧ Vs.MtA (hd16.heap_39 w.params) C "twin" "Shelf.twin" Vs.s_Shelf_twin ∧ Vs.MtA (hd16.heap_39 w.params) C "fork" "Shelf.fork" Vs.s_Shelf_fork ∧ Vs.MtA (hd16.heap_39 w.params) C "drop" "Shelf.drop" Vs.s_Shelf_drop ∧ Vs.MtA (hd16.heap_39 w.params) C "close" "Shelf.close" Vs.s_Shelf_close ∧ Vs.MtA (hd16.heap_39 w.params) C "look" "Shelf.look" Vs.s_Shelf_look ∧ Vs.MtA (hd16.heap_39 w.params) C "keys" "Shelf.keys" Vs.s_Shelf_keys ∧ Vs.MtA (hd16.heap_39 w.params) C "differ" "Shelf.differ" Vs.s_Shelf_differ ∧ Vs.MtA (hd16.heap_39 w.params) C "write" "Shelf.write" Vs.s_Shelf_write ∧ Vs.MtA (hd16.heap_39 w.params) C "commit" "Shelf.commit" Vs.s_Shelf_commit ∧ Vs.MtA (hd16.heap_39 w.params) C "branch_there" "Shelf.branch_there" Vs.s_Shelf_branch_there ∧ Vs.MtA (hd16.heap_39 w.params) C "hand_there" "Shelf.hand_there" Vs.s_Shelf_hand_there ∧ Vs.MtA (hd16.heap_39 w.params) C "add_hand" "Shelf.add_hand" Vs.s_Shelf_add_hand ∧ Vs.MtA (hd16.heap_39 w.params) C "let_go" "Shelf.let_go" Vs.s_Shelf_let_go ∧ Vs.MtA (hd16.heap_39 w.params) C "settle" "Shelf.settle" Vs.s_Shelf_settle := by
    refine' ⟨_, ?x, ?y, ?a_sNow, ?a_sBrs, ?a_sBm, ?a_sHns, ?a_sHm, ?a_sJd, ?a_jOw, ?a_jRs, ?m_begin, ?m_twin, ?m_fork, ?m_drop, ?m_close, ?m_look, ?m_keys, ?m_differ, ?m_write, ?m_commit, ?m_branch_there, ?m_hand_there, ?m_add_hand, ?m_let_go, ?m_settle⟩
    (case x => (refine' Vs.KxA.by ?n ?mk ?kc ?a ?i ?l ?c ?k; (case n => k_is); (case mk => k_is); (case kc => k_is); (case a => k_is); (case i => k_is); (case l => k_is); (case c => k_is); (case k => k_is)))
    (case y => (refine' ⟨?a, ?b, ?c, ?d⟩; (case a => k_is); (case b => k_is); (case c => k_is); (case d => k_is)))
    (case a_sNow => (show findIn _ _ _ = _; k_is))
    (case a_sBrs => (show findIn _ _ _ = _; k_is))
    (case a_sBm => (show findIn _ _ _ = _; k_is))
    (case a_sHns => (show findIn _ _ _ = _; k_is))
    (case a_sHm => (show findIn _ _ _ = _; k_is))
    (case a_sJd => (show findIn _ _ _ = _; k_is))
    (case a_jOw => (show findIn _ _ _ = _; k_is))
    (case a_jRs => (show findIn _ _ _ = _; k_is))
    (case m_begin => (refine' Vs.MtA.by ?a ?i ?l ?c ?k; (case a => k_is); (case i => k_is); (case l => k_is); (case c => k_is); (case k => k_is)))
    (case m_twin => (refine' Vs.MtA.by ?a ?i ?l ?c ?k; (case a => k_is); (case i => k_is); (case l => k_is); (case c => k_is); (case k => k_is)))
    (case m_fork => (refine' Vs.MtA.by ?a ?i ?l ?c ?k; (case a => k_is); (case i => k_is); (case l => k_is); (case c => k_is); (case k => k_is)))
    (case m_drop => (refine' Vs.MtA.by ?a ?i ?l ?c ?k; (case a => k_is); (case i => k_is); (case l => k_is); (case c => k_is); (case k => k_is)))
    (case m_close => (refine' Vs.MtA.by ?a ?i ?l ?c ?k; (case a => k_is); (case i => k_is); (case l => k_is); (case c => k_is); (case k => k_is)))
    (case m_look => (refine' Vs.MtA.by ?a ?i ?l ?c ?k; (case a => k_is); (case i => k_is); (case l => k_is); (case c => k_is); (case k => k_is)))
    (case m_keys => (refine' Vs.MtA.by ?a ?i ?l ?c ?k; (case a => k_is); (case i => k_is); (case l => k_is); (case c => k_is); (case k => k_is)))
    (case m_differ => (refine' Vs.MtA.by ?a ?i ?l ?c ?k; (case a => k_is); (case i => k_is); (case l => k_is); (case c => k_is); (case k => k_is)))
    (case m_write => (refine' Vs.MtA.by ?a ?i ?l ?c ?k; (case a => k_is); (case i => k_is); (case l => k_is); (case c => k_is); (case k => k_is)))
    (case m_commit => (refine' Vs.MtA.by ?a ?i ?l ?c ?k; (case a => k_is); (case i => k_is); (case l => k_is); (case c => k_is); (case k => k_is)))
    (case m_branch_there => (refine' Vs.MtA.by ?a ?i ?l ?c ?k; (case a => k_is); (case i => k_is); (case l => k_is); (case c => k_is); (case k => k_is)))
    (case m_hand_there => (refine' Vs.MtA.by ?a ?i ?l ?c ?k; (case a => k_is); (case i => k_is); (case l => k_is); (case c => k_is); (case k => k_is)))
    (case m_add_hand => (refine' Vs.MtA.by ?a ?i ?l ?c ?k; (case a => k_is); (case i => k_is); (case l => k_is); (case c => k_is); (case k => k_is)))
    (case m_let_go => (refine' Vs.MtA.by ?a ?i ?l ?c ?k; (case a => k_is); (case i => k_is); (case l => k_is); (case c => k_is); (case k => k_is)))
    (case m_settle => (refine' Vs.MtA.by ?a ?i ?l ?c ?k; (case a => k_is); (case i => k_is); (case l => k_is); (case c => k_is); (case k => k_is)))
  obtain ⟨C_Branch, k_Branch, cl_Branch, a_bBen, a_bMom, a_bAl, a_bLn, a_bMk⟩ : ∃ C : Addr, Vs.KxA (hd16.heap_39 w.params) "Branch" C "Branch.__init__" Vs.s_Branch___init__ ∧ L2.Cls (hd16.heap_39 w.params) C ∧ L2.NoAttr (hd16.heap_39 w.params) C "beneath" ∧ L2.NoAttr (hd16.heap_39 w.params) C "moment" ∧ L2.NoAttr (hd16.heap_39 w.params) C "alive" ∧ L2.NoAttr (hd16.heap_39 w.params) C "lines" ∧ L2.NoAttr (hd16.heap_39 w.params) C "marks" := by
    refine' ⟨_, ?x, ?y, ?a_bBen, ?a_bMom, ?a_bAl, ?a_bLn, ?a_bMk⟩
    (case x => (refine' Vs.KxA.by ?n ?mk ?kc ?a ?i ?l ?c ?k; (case n => k_is); (case mk => k_is); (case kc => k_is); (case a => k_is); (case i => k_is); (case l => k_is); (case c => k_is); (case k => k_is)))
    (case y => (refine' ⟨?a, ?b, ?c, ?d⟩; (case a => k_is); (case b => k_is); (case c => k_is); (case d => k_is)))
    (case a_bBen => (show findIn _ _ _ = _; k_is))
    (case a_bMom => (show findIn _ _ _ = _; k_is))
    (case a_bAl => (show findIn _ _ _ = _; k_is))
    (case a_bLn => (show findIn _ _ _ = _; k_is))
    (case a_bMk => (show findIn _ _ _ = _; k_is))
  obtain ⟨C_Hand, k_Hand, cl_Hand, a_nBr, a_nMom, a_nDr⟩ : ∃ C : Addr, Vs.KxA (hd16.heap_39 w.params) "Hand" C "Hand.__init__" Vs.s_Hand___init__ ∧ L2.Cls (hd16.heap_39 w.params) C ∧ L2.NoAttr (hd16.heap_39 w.params) C "branch" ∧ L2.NoAttr (hd16.heap_39 w.params) C "moment" ∧ L2.NoAttr (hd16.heap_39 w.params) C "drafts" := by
    refine' ⟨_, ?x, ?y, ?a_nBr, ?a_nMom, ?a_nDr⟩
    (case x => (refine' Vs.KxA.by ?n ?mk ?kc ?a ?i ?l ?c ?k; (case n => k_is); (case mk => k_is); (case kc => k_is); (case a => k_is); (case i => k_is); (case l => k_is); (case c => k_is); (case k => k_is)))
    (case y => (refine' ⟨?a, ?b, ?c, ?d⟩; (case a => k_is); (case b => k_is); (case c => k_is); (case d => k_is)))
    (case a_nBr => (show findIn _ _ _ = _; k_is))
    (case a_nMom => (show findIn _ _ _ = _; k_is))
    (case a_nDr => (show findIn _ _ _ = _; k_is))
  obtain ⟨U, fc, bt, se, x_badKey, x_noHand, x_noBranch, x_dropped, x_nc, x_bt, x_se, c_g, c_T, c_i, c_t, c_n, c_x, cc, w2, w3, w4, w5, c_f⟩ : Vs.AllX16 (hd16.heap_39 w.params) := by
    refine' Vs.AllX16.by ?a1 ?a2 ?a3 ?a4 ?a5 ?a6 ?a7 ?a8 ?b1 ?c1 ?d1 ?e1 ?b2 ?c2 ?d2 ?e2 ?b3 ?c3 ?d3 ?e3 ?b4 ?c4 ?d4 ?e4 ?f1 ?f2 ?f3 ?f4 ?f5 ?s1 ?s2 ?g21 ?g22 ?g23 ?g24 ?g25 ?g28 ?k22 ?k23 ?k24 ?k25 ?k26 ?k27 ?m2 ?g31 ?g32 ?g33 ?g34 ?g35 ?g38 ?k32 ?k33 ?k34 ?k35 ?k36 ?k37 ?m3 ?g41 ?g42 ?g43 ?g44 ?g45 ?g48 ?k42 ?k43 ?k44 ?k45 ?k46 ?k47 ?m4 ?g51 ?g52 ?g53 ?g54 ?g55 ?g58 ?k52 ?k53 ?k54 ?k55 ?k56 ?k57 ?m5
    (case a1 => k_is)
    (case a2 => k_is)
    (case a3 => k_is)
    (case a4 => k_is)
    (case a5 => k_is)
    (case a6 => k_is)
    (case a7 => k_is)
    (case a8 => k_is)
    (case b1 => k_exc)
    (case c1 => k_is)
    (case d1 => k_is)
    (case e1 => k_is)
    (case b2 => k_exc)
    (case c2 => k_is)
    (case d2 => k_is)
    (case e2 => k_is)
    (case b3 => k_exc)
    (case c3 => k_is)
    (case d3 => k_is)
    (case e3 => k_is)
    (case b4 => k_exc)
    (case c4 => k_is)
    (case d4 => k_is)
    (case e4 => k_is)
    (case f1 => (refine' Vs.Oex.by ?l ?r ?s ?x ?t ?k; (case l => k_is); (case r => decide +kernel); (case s => k_is); (case x => k_is); (case t => k_is); (case k => k_is)))
    (case f2 => k_is)
    (case f3 => k_is)
    (case f4 => k_is)
    (case f5 => (refine' ⟨_, L2.fun_mk ?l ?c ?k⟩; (case l => k_is); (case c => k_is); (case k => k_is)))
    (case s1 => k_is)
    (case s2 => k_is)
    (case g21 => k_is)
    (case g22 => k_is)
    (case g23 => k_is)
    (case g24 => k_is)
    (case g25 => k_is)
    (case g28 => k_is)
    (case k22 => kernel_rfl)
    (case k23 => kernel_rfl)
    (case k24 => kernel_rfl)
    (case k25 => kernel_rfl)
    (case k26 => kernel_rfl)
    (case k27 => kernel_rfl)
    (case m2 => kts_exm)
    (case g31 => k_is)
    (case g32 => k_is)
    (case g33 => k_is)
    (case g34 => k_is)
    (case g35 => k_is)
    (case g38 => k_is)
    (case k32 => kernel_rfl)
    (case k33 => kernel_rfl)
    (case k34 => kernel_rfl)
    (case k35 => kernel_rfl)
    (case k36 => kernel_rfl)
    (case k37 => kernel_rfl)
    (case m3 => kts_exm)
    (case g41 => k_is)
    (case g42 => k_is)
    (case g43 => k_is)
    (case g44 => k_is)
    (case g45 => k_is)
    (case g48 => k_is)
    (case k42 => kernel_rfl)
    (case k43 => kernel_rfl)
    (case k44 => kernel_rfl)
    (case k45 => kernel_rfl)
    (case k46 => kernel_rfl)
    (case k47 => kernel_rfl)
    (case m4 => kts_exm)
    (case g51 => k_is)
    (case g52 => k_is)
    (case g53 => k_is)
    (case g54 => k_is)
    (case g55 => k_is)
    (case g58 => k_is)
    (case k52 => kernel_rfl)
    (case k53 => kernel_rfl)
    (case k54 => kernel_rfl)
    (case k55 => kernel_rfl)
    (case k56 => kernel_rfl)
    (case k57 => kernel_rfl)
    (case m5 => kts_exm)
  obtain ⟨fk, ck, Pt, i_g, i_f, i_k, i_t, i_n⟩ : ∃ fk ck Pt : Addr, nsIn (hd16.heap_39 w.params) mainGlobals "is_key" = some (some (.ref fk)) ∧ (∃ fd, Vs.FunC (hd16.heap_39 w.params) "is_key" "is_key" Vs.s_is_key fk fd ck) ∧ keepIn (hd16.heap_39 w.params) (.ref fk) = true ∧ tabIn (hd16.heap_39 w.params) "is_key" = some (ck, Pt) ∧ ((hd16.heap_39 w.params)).lookup Pt = none := by
    refine' Vs.Ikx.by ?a ?b ?c ?d ?e
    (case a => k_is); (case c => k_is)
    (case b => (refine' Vs.FunC.by ?l ?c; (case l => k_is); (case c => k_is)))
    (case d => (refine' Vs.tab_by (st := Vs.s_is_key) (q := "is_key") ?g ?l1 ?l2 ?v; (case g => k_is); (case l1 => k_is); (case l2 => k_is); (case v => rfl)))
    (case e => kernel_rfl)
  have w_l : ∃ t, nsIn (hd16.heap_39 w.params) mainGlobals "LETTERS" = some (some (.str Vs.letters t)) := by (refine' Vs.Ex1.by ?a; (case a => k_is))
  have w_m : ∃ t, nsIn (hd16.heap_39 w.params) mainGlobals "LONGEST_KEY" = some (some (.int 8 t)) := by (refine' Vs.Ex1.by ?a; (case a => k_is))
  have w_g : ∃ t, nsIn (hd16.heap_39 w.params) mainGlobals "GREATEST_VALUE" = some (some (.int 999999 t)) := by (refine' Vs.Ex1.by ?a; (case a => k_is))
  have tt := hT ck Pt i_t
  exact Vs.law16 (T := ⟨C_Shelf, C_Branch, C_Hand, C_Shelf⟩) (U := U) KX G hmg ⟨f_newest, f_seen_value, f_seen_by_hand, f_all_seen_by_hand, f_is_value, f_check_key, f__law_taken, f__law_whole, f__law_same, f__law_pool, f__law_word, f__law_of_hand, f__law_of_branch, f__law_clash, f_law, m_begin, m_twin, m_fork, m_drop, m_close, m_look, m_keys, m_differ, m_write, m_commit, m_branch_there, m_hand_there, m_add_hand, m_let_go, m_settle, k_Shelf, k_Branch, k_Hand, ⟨cl_Shelf, cl_Branch, cl_Hand, cl_Shelf, a_sNow, a_sBrs, a_sBm, a_sHns, a_sHm, a_sJd, a_bBen, a_bMom, a_bAl, a_bLn, a_bMk, a_nBr, a_nMom, a_nDr, a_jOw, a_jRs⟩, x_badKey, x_noHand, x_noBranch, x_dropped, x_nc, x_bt, x_se, c_g, c_T, c_i, c_t, c_n, c_x, cc, w2, w3, w4, w5, c_f, i_g, i_f, i_k, i_t, i_n, w_l, w_m, w_g, z_len, z_sorted, z_list, z_zip, z_set, z_min, z_all, z_range, z_isinstance, z_int, z_tuple, z_str, z_bool, z_ValueError, z_reversed⟩ tt.1 tt.2)
