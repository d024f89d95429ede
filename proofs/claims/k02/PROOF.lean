import PyProof.Rows.All
import Wide.All
import OpenK.AllK
import Wide.FinOn
import HandS.ForMost
import HandS.Lambda
import HandS.EndTab
import HandS.IsInst
import HandS.DictComp
import HandS.DeepEq
import HandS.More
import HandS.Wide
import HandS.RaiseMore
import KE.DatumOrd
import HandS.SortKw
import PyProof.ReprRoads
import HandS.OwnEq
import OpenK.KMeth
import KE.KCallOwn
import KE.SortKeyHeap
import HandS.ListEq
import KE.SortData
import KE.KDictDisplayH
import HandS.Style
import KE.GoesMore
import KE.GoesEnum
import HandS.Walk
import HandS.TryOnly
import HandS.WordsExc
import HandS.ExcField
import HandS.ExcInit
import HandS.ExcIs
import KE.KExcIs
import HandS.TupAny
import HandS.TupLe
import HandS.TupMul
import HandS.ExcValue
import HandS.MakeKwOnly
import HandS.Defaults
import HandS.ExcBuiltin
import HandS.Iter
import PySem.Challenge.RW_twopatches_k02_errors
set_option Elab.async false
set_option linter.all false
set_option maxRecDepth 100000
set_option maxHeartbeats 4000000
namespace TP
open PySem L2
/-! ### what stays -/
def isTbl : HO → Bool
  | .tbl _ => true
  | _ => false
/-- neither a table nor told by a property -/
def isPl : HO → Bool
  | .tbl _ => false
  | .ext _ => false
  | _ => true
/-- which lambdas a code table may hold -/
class TabL where
  R : Addr → Str → Prop
  one : ∀ P q q', R P q → R P q' → q = q'
/-- all that H knows stays; the tables may grow -/
structure Ex [TabL] (H H' : Hp) : Prop where
  go : ∀ a o, H a = some o → isTbl o = false → H' a = some o
  ne : ∀ a, H a ≠ none → H' a ≠ none
  tab : ∀ a q, TabL.R a q → LamX.TabS H a q → LamX.TabS H' a q
/-- no table -/
class NT (o : HO) : Prop where
  h : isTbl o = false
instance {xs} : NT (.lst xs) := ⟨rfl⟩
instance {xs} : NT (.tup xs) := ⟨rfl⟩
instance {kvs} : NT (.dK kvs) := ⟨rfl⟩
instance {C dx fs} : NT (.ins C dx fs) := ⟨rfl⟩
instance {a} : NT (.own a) := ⟨rfl⟩
instance {o u} : NT (.frz o u) := ⟨rfl⟩
instance {φ} : NT (.ext φ) := ⟨rfl⟩
instance {fs} : NT (.xd fs) := ⟨rfl⟩
theorem Ex.at' [TabL] {H H' : Hp} (e : Ex H H') (a : Addr) (o : HO) [z : NT o] (h : H a = some o) : H' a = some o := e.go a o h z.h
instance [TabL] {H H' : Hp} : CoeFun (Ex H H') fun _ => ∀ (a : Addr) (o : HO) [NT o], H a = some o → H' a = some o := ⟨Ex.at'⟩
theorem Ex.refl [TabL] (H : Hp) : Ex H H := ⟨fun _ _ h _ => h, fun _ h => h, fun _ _ _ h => h⟩
theorem Ex.trans [TabL] {H H1 H2 : Hp} (x : Ex H H1) (y : Ex H1 H2) : Ex H H2 := ⟨fun a o h z => y.go a o (x.go a o h z) z, fun a h => y.ne a (x.ne a h), fun a q r h => y.tab a q r (x.tab a q r h)⟩
/-- what is written is no part of a table -/
theorem tab_upd {H : Hp} {P : Addr} {q : Str} {p : Addr} {o : HO} (h : LamX.TabS H P q) (hp : ∀ u, H p = some u → isPl u = true) : LamX.TabS (upd H p o) P q := by
  obtain ⟨ps, h1, h2, h3⟩ := h
  refine ⟨ps, by rw [upd_ne (fun z => by rw [z] at h1; exact nomatch hp _ h1)]; exact h1, h2, fun pos cv hc => ?_⟩
  obtain ⟨c, e1, e2⟩ := h3 pos cv hc
  exact ⟨c, e1, by rw [upd_ne (fun z => by rw [z] at e2; exact nomatch hp _ e2)]; exact e2⟩
theorem Ex.new [TabL] {H : Hp} {p : Addr} {o : HO} (h : H p = none) : Ex H (upd H p o) :=
  ⟨fun a u e _ => by rw [upd_ne (ne_of_none e h)]; exact e, fun a e => by rw [upd_ne (fun z => e (by rw [z]; exact h))]; exact e, fun a q _ t => tab_upd t fun u e => by rw [h] at e; cases e⟩
theorem fresh_back [TabL] {H H' : Hp} {p : Addr} (e : Ex H H') (h : H' p = none) : H p = none := by
  cases z : H p with
  | none => rfl
  | some o => exact absurd h (e.ne p (by rw [z]; exact fun y => nomatch y))
/-- what H does not know may change -/
theorem Ex.mut [TabL] {H H' : Hp} {p : Addr} {o u : HO} (e : Ex H H') (h : H p = none) (hu : H' p = some u) (pl : isPl u = true := by rfl) : Ex H (upd H' p o) :=
  ⟨fun a w ha z => by rw [upd_ne (ne_of_none ha h)]; exact e.go a w ha z, fun a ha => by rw [upd_ne (fun z => ha (by rw [z]; exact h))]; exact e.ne a ha, fun a q r t => tab_upd (e.tab a q r t) fun w hw => by rw [hu] at hw; cases hw; exact pl⟩
theorem ex_rd [TabL] {H H' : Hp} {a : Addr} {u : HO} (e : Ex H H') (h : Rd H a u) (z : isTbl u = false := by rfl) : Rd H' a u := h.imp (fun h => e.go a _ h z) fun ⟨o, h⟩ => ⟨o, e.go a _ h rfl⟩
/-! ### documents, as mathematics -/
inductive D where
  | nil
  | sc (v : V)
  | ls (xs : List V)
  | ob (f : Str → D)
def D.tgt : D → Str → D
  | .ob f => f
  | _ => fun _ => .nil
def D.isNil : D → Bool
  | .nil => true
  | _ => false
def D.isNon : D → Bool
  | .sc .non => true
  | _ => false
/-- the document after a patch -/
def D.app (d : D) : D → D
  | .ob g => .ob fun k => if (g k).isNil then d.tgt k else if (g k).isNon then .nil else D.app (d.tgt k) (g k)
  | p => p
theorem app_ob (d : D) (g : Str → D) : D.app d (.ob g) = .ob fun k => if (g k).isNil then d.tgt k else if (g k).isNon then .nil else D.app (d.tgt k) (g k) := rfl
def D.fup (f : Str → D) (k : Str) (e : D) : Str → D := fun j => if j = k then e else f j

/-- None, an int, a text -/
def isSc : V → Bool
  | .non => true
  | .int _ => true
  | .str _ => true
  | _ => false
abbrev inK (p : Str × V) : Key × V := (Sum.inr p.1, p.2)
abbrev kvsOf (ms : List (Str × V)) : List (Key × V) := ms.map inK

theorem valV_inK (ms : List (Str × V)) (k : Str) : valV (kvsOf ms) (Sum.inr k) = valV ms k := by
  induction ms with
  | nil => rfl
  | cons p r ih =>
    show valV (inK p :: kvsOf r) _ = _
    by_cases e : p.1 = k
    · rw [valV_pos (p := inK p) (show Sum.inr p.1 = Sum.inr k by rw [e]), valV_pos e]
    · rw [valV_neg (p := inK p) (fun z => e (Sum.inr.inj z)), valV_neg e, ih]
theorem putK_inK (ms : List (Str × V)) (k : Str) (v : V) : putK (kvsOf ms) (Sum.inr k) v = kvsOf (putK ms k v) := by
  unfold putK
  have e : ((kvsOf ms).any fun kv => decide (kv.1 = (Sum.inr k : Key))) = (ms.any fun kv => decide (kv.1 = k)) := by
    rw [List.any_map]
    congr 1
    funext p
    by_cases h : p.1 = k
    · simp [h]
    · have h2 : ¬ (Sum.inr p.1 : Key) = Sum.inr k := fun z => h (Sum.inr.inj z)
      simp [h]
  rw [e]
  split
  · show _ = List.map inK (List.map _ ms)
    rw [List.map_map, List.map_map]
    congr 1
    funext p
    by_cases h : p.1 = k
    · simp [h]
    · simp [h]
  · show _ = List.map inK (ms ++ [(k, v)])
    rw [List.map_append]
    rfl
theorem keys_inK (ms : List (Str × V)) : (kvsOf ms).map (fun kv => kV kv.1) = ms.map fun p => V.str p.1 := by
  rw [List.map_map]
  rfl
theorem keys_put (ms : List (Str × V)) (k : Str) (v : V) : ∀ j, j ∈ (putK ms k v).map (·.1) ↔ j = k ∨ j ∈ ms.map (·.1) := by
  intro j
  unfold putK
  split
  · rename_i h
    have e : (ms.map fun kv => if kv.1 = k then (kv.1, v) else kv).map (·.1) = ms.map (·.1) := by
      rw [List.map_map]
      congr 1
      funext p
      by_cases h : p.1 = k <;> simp [h]
    rw [e]
    constructor
    · exact Or.inr
    · rintro (h1 | h1)
      · subst h1
        rw [List.any_eq_true] at h
        obtain ⟨p, hp, hd⟩ := h
        exact List.mem_map.mpr ⟨p, hp, of_decide_eq_true hd⟩
      · exact h1
  · rw [List.map_append]
    simp [or_comm]
theorem nodup_put {ms : List (Str × V)} (k : Str) (v : V) (h : (ms.map (·.1)).Nodup) : ((putK ms k v).map (·.1)).Nodup := by
  unfold putK
  split
  · have e : (ms.map fun kv => if kv.1 = k then (kv.1, v) else kv).map (·.1) = ms.map (·.1) := by
      rw [List.map_map]
      congr 1
      funext p
      by_cases h : p.1 = k <;> simp [h]
    rw [e]
    exact h
  · rename_i hn
    rw [List.map_append, List.nodup_append]
    refine ⟨h, by simp, ?_⟩
    intro a ha b hb e
    simp at hb
    subst hb
    subst e
    apply hn
    obtain ⟨p, hp, hd⟩ := List.mem_map.mp ha
    exact List.any_eq_true.mpr ⟨p, hp, by simp [hd]⟩
theorem valV_mem {ms : List (Str × V)} {k : Str} {u : V} (h : valV ms k = some u) : (k, u) ∈ ms := by
  unfold valV at h
  obtain ⟨p, hp, e⟩ := Option.map_eq_some_iff.mp h
  have h1 := List.mem_of_find?_eq_some hp
  have h2 := List.find?_some hp
  have h3 : p.1 = k := of_decide_eq_true h2
  obtain ⟨a, b⟩ := p
  simp at e h3
  subst e
  subst h3
  exact h1
theorem valV_of_mem {ms : List (Str × V)} {k : Str} {u : V} (nd : (ms.map (·.1)).Nodup) (h : (k, u) ∈ ms) : valV ms k = some u := by
  induction ms with
  | nil => cases h
  | cons p r ih =>
    rw [List.map_cons, List.nodup_cons] at nd
    by_cases e : p.1 = k
    · rw [valV_pos e]
      rcases List.mem_cons.mp h with h | h
      · rw [← h]
      · exact absurd (List.mem_map.mpr ⟨(k, u), h, e.symm⟩) nd.1
    · rw [valV_neg e]
      rcases List.mem_cons.mp h with h | h
      · exact absurd (by rw [← h]) e
      · exact ih nd.2 h
theorem valV_none_of {ms : List (Str × V)} {k : Str} (h : k ∉ ms.map (·.1)) : valV ms k = none := by
  cases e : valV ms k with
  | none => rfl
  | some u => exact absurd (List.mem_map.mpr ⟨(k, u), valV_mem e, rfl⟩) h
theorem valV_some_of {ms : List (Str × V)} {k : Str} (h : k ∈ ms.map (·.1)) : ∃ u, valV ms k = some u := by
  cases e : valV ms k with
  | some u => exact ⟨u, rfl⟩
  | none =>
    obtain ⟨p, hp, e2⟩ := List.mem_map.mp h
    have := valV_any k ms
    rw [e] at this
    simp at this
    exact absurd e2 (this _ _ hp)
theorem sub_len : ∀ {xs ys : List Str}, xs.Nodup → (∀ x ∈ xs, x ∈ ys) → xs.length ≤ ys.length
  | [], _, _, _ => Nat.zero_le _
  | x :: xs, ys, nd, h => by
    rw [List.nodup_cons] at nd
    have hx := h x List.mem_cons_self
    have h2 : ∀ z ∈ xs, z ∈ ys.erase x := fun z hz => (List.mem_erase_of_ne (fun e => nd.1 (by rw [← e]; exact hz))).mpr (h z (List.mem_cons_of_mem _ hz))
    have h3 := sub_len nd.2 h2
    have h4 := List.length_erase_of_mem hx
    have h5 : 0 < ys.length := List.length_pos_of_mem hx
    rw [List.length_cons]
    omega

/-! ### documents in the heap -/
/-- what may stand in a document: its keys, its scalars, how long its lists are -/
structure Gen where
  KS : List Str
  C : V → Bool
  L : Nat
  sc : ∀ v, C v = true → isSc v = true
/-- S: where its objects lie; G: the keys that may stand in it; n: levels -/
def Dc (S : Addr → Prop) (G : Gen) (H : Hp) : Nat → V → D → Prop
  | 0, _, _ => False
  | n + 1, v, d => (G.C v = true ∧ d = .sc v) ∨ (∃ a xs, v = .ref a ∧ S a ∧ H a = some (.lst xs) ∧ (xs.length ≤ G.L ∧ ∀ x ∈ xs, G.C x = true) ∧ d = .ls xs) ∨
    ∃ a ms f, v = .ref a ∧ S a ∧ H a = some (.dK (kvsOf ms)) ∧ (ms.map (·.1)).Nodup ∧ (∀ k ∈ ms.map (·.1), k ∈ G.KS) ∧ d = .ob f ∧ (∀ k, valV ms k = none → f k = .nil) ∧ ∀ k u, valV ms k = some u → Dc S G H n u (f k)
/-- the members ms stand for f -/
structure Mem (S : Addr → Prop) (G : Gen) (H : Hp) (n : Nat) (ms : List (Str × V)) (f : Str → D) : Prop where
  nd : (ms.map (·.1)).Nodup
  ks : ∀ k ∈ ms.map (·.1), k ∈ G.KS
  no : ∀ k, valV ms k = none → f k = .nil
  at' : ∀ k u, valV ms k = some u → Dc S G H n u (f k)
theorem Dc.sc {S G H n v} (h : G.C v = true) : Dc S G H (n + 1) v (.sc v) := .inl ⟨h, rfl⟩
theorem Dc.ls {S : Addr → Prop} {G H n a xs} (hS : S a) (h : H a = some (.lst xs)) (hx : xs.length ≤ G.L ∧ ∀ x ∈ xs, G.C x = true) : Dc S G H (n + 1) (.ref a) (.ls xs) := .inr (.inl ⟨a, xs, rfl, hS, h, hx, rfl⟩)
theorem Dc.ob {S : Addr → Prop} {G H n a ms f} (hS : S a) (h : H a = some (.dK (kvsOf ms))) (m : Mem S G H n ms f) : Dc S G H (n + 1) (.ref a) (.ob f) :=
  .inr (.inr ⟨a, ms, f, rfl, hS, h, m.nd, m.ks, rfl, m.no, m.at'⟩)
/-- the three ways -/
theorem Dc.cases {S G H n v d} {P : Prop} (h : Dc S G H n v d) (h1 : ∀ m, n = m + 1 → G.C v = true → d = .sc v → P)
    (h2 : ∀ m a xs, n = m + 1 → v = .ref a → S a → H a = some (.lst xs) → (xs.length ≤ G.L ∧ ∀ x ∈ xs, G.C x = true) → d = .ls xs → P)
    (h3 : ∀ m a ms f, n = m + 1 → v = .ref a → S a → H a = some (.dK (kvsOf ms)) → Mem S G H m ms f → d = .ob f → P) : P := by
  cases n with
  | zero => exact (show False from h).elim
  | succ m =>
    rcases h with ⟨a, b⟩ | ⟨a, xs, e, s, r, x, d⟩ | ⟨a, ms, f, e, s, r, nd, ks, d, no, at'⟩
    · exact h1 m rfl a b
    · exact h2 m a xs rfl e s r x d
    · exact h3 m a ms f rfl e s r ⟨nd, ks, no, at'⟩ d
theorem Dc.mono {S S' : Addr → Prop} {G : Gen} {H H' : Hp} (hS : ∀ a, S a → S' a) (hH : ∀ a u, S a → isTbl u = false → H a = some u → H' a = some u) : ∀ {n m v d}, n ≤ m → Dc S G H n v d → Dc S' G H' m v d
  | 0, _, _, _, _, h => (show False from h).elim
  | n + 1, 0, _, _, hl, _ => absurd hl (by omega)
  | n + 1, m + 1, v, d, hl, h => by
    rcases h with ⟨a, b⟩ | ⟨a, xs, e, s, r, x, d⟩ | ⟨a, ms, f, e, s, r, nd, ks, d, no, at'⟩
    · exact .inl ⟨a, b⟩
    · exact .inr (.inl ⟨a, xs, e, hS a s, hH a _ s rfl r, x, d⟩)
    · exact .inr (.inr ⟨a, ms, f, e, hS a s, hH a _ s rfl r, nd, ks, d, no, fun k u hu => Dc.mono hS hH (by omega) (at' k u hu)⟩)
theorem Dc.ex [TabL] {S G H H' n v d} (e : Ex H H') (h : Dc S G H n v d) : Dc S G H' n v d := Dc.mono (fun _ s => s) (fun a u _ z r => e.go a u r z) (Nat.le_refl _) h
theorem Dc.lift {S G H n m v d} (hl : n ≤ m) (h : Dc S G H n v d) : Dc S G H m v d := Dc.mono (fun _ s => s) (fun _ _ _ _ r => r) hl h
theorem Dc.imp {S S' : Addr → Prop} {G H n v d} (hS : ∀ a, S a → S' a) (h : Dc S G H n v d) : Dc S' G H n v d := Dc.mono hS (fun _ _ _ _ r => r) (Nat.le_refl _) h
theorem Mem.mono {S S' : Addr → Prop} {G : Gen} {H H' : Hp} {n m ms f} (hS : ∀ a, S a → S' a) (hH : ∀ a u, S a → isTbl u = false → H a = some u → H' a = some u) (hl : n ≤ m) (h : Mem S G H n ms f) : Mem S' G H' m ms f :=
  ⟨h.nd, h.ks, h.no, fun k u z => Dc.mono hS hH hl (h.at' k u z)⟩
theorem Mem.ex [TabL] {S G H H' n ms f} (e : Ex H H') (h : Mem S G H n ms f) : Mem S G H' n ms f := ⟨h.nd, h.ks, h.no, fun k u z => (h.at' k u z).ex e⟩
theorem Mem.imp {S S' : Addr → Prop} {G H n ms f} (hS : ∀ a, S a → S' a) (h : Mem S G H n ms f) : Mem S' G H n ms f := ⟨h.nd, h.ks, h.no, fun k u z => (h.at' k u z).imp hS⟩
theorem Mem.lift {S G H n m ms f} (hl : n ≤ m) (h : Mem S G H n ms f) : Mem S G H m ms f := ⟨h.nd, h.ks, h.no, fun k u z => (h.at' k u z).lift hl⟩
theorem Mem.nil {S G H n} : Mem S G H n [] (fun _ => .nil) := ⟨by simp, fun k z => (nomatch z), fun _ _ => rfl, fun k u z => nomatch z⟩
theorem Mem.len {S G H n ms f} (h : Mem S G H n ms f) : ms.length ≤ G.KS.length := by
  have := sub_len h.nd h.ks
  rwa [List.length_map] at this
theorem Mem.put {S G H n ms f k v e} (h : Mem S G H n ms f) (hk : k ∈ G.KS) (hv : Dc S G H n v e) : Mem S G H n (putK ms k v) (D.fup f k e) := by
  refine ⟨nodup_put k v h.nd, fun j hj => ?_, fun j hj => ?_, fun j u hu => ?_⟩
  · rcases (keys_put ms k v j).mp hj with z | z
    · rw [z]; exact hk
    · exact h.ks j z
  · rw [valV_put] at hj
    unfold D.fup
    by_cases z : j = k
    · rw [if_pos z] at hj; cases hj
    · rw [if_neg z] at hj ⊢
      exact h.no j hj
  · rw [valV_put] at hu
    unfold D.fup
    by_cases z : j = k
    · rw [if_pos z] at hu ⊢
      cases hu
      exact hv
    · rw [if_neg z] at hu ⊢
      exact h.at' j u hu
theorem Dc.ne_nil {S G H n v d} (h : Dc S G H n v d) : d.isNil = false := by
  refine h.cases (fun m _ _ e => ?_) (fun m a xs _ _ _ _ _ e => ?_) (fun m a ms f _ _ _ _ _ e => ?_) <;> subst e <;> rfl
theorem Dc.non {S G H n v d} (h : Dc S G H n v d) : d.isNon = decide (v = .non) := by
  refine h.cases (fun m _ hs e => ?_) (fun m a xs _ ev _ _ _ e => ?_) (fun m a ms f _ ev _ _ _ e => ?_)
  · subst e
    cases v <;> first | rfl | simp [D.isNon]
  · subst e; subst ev
    simp [D.isNon]
  · subst e; subst ev
    simp [D.isNon]
/-- an object of another depth than a's is not in the way of what is read: a may be changed -/
theorem Dc.away {S G H a o} : ∀ {n v d}, Dc S G H n v d → (∀ m e, m ≤ n → ¬ Dc S G H m (.ref a) e) → Dc S G (upd H a o) n v d
  | 0, _, _, h, _ => (show False from h).elim
  | n + 1, v, d, h, hn => by
    have ne : ∀ b, v = .ref b → b ≠ a := fun b e z => hn (n + 1) d (Nat.le_refl _) (by rw [← z, ← e]; exact h)
    have rd : ∀ b u, b ≠ a → H b = some u → (upd H a o) b = some u := fun b u z r => by
      rw [upd_ne z]
      exact r
    rcases h with ⟨x, y⟩ | ⟨b, xs, e, s, r, x, d⟩ | ⟨b, ms, f, e, s, r, nd, ks, d, no, at'⟩
    · exact .inl ⟨x, y⟩
    · exact .inr (.inl ⟨b, xs, e, s, rd b _ (ne b e) r, x, d⟩)
    · exact .inr (.inr ⟨b, ms, f, e, s, rd b _ (ne b e) r, nd, ks, d, no, fun k u hu => Dc.away (at' k u hu) fun m e' hm => hn m e' (by omega)⟩)
/-- the same values stand for the same document -/
theorem Dc.det {S S' G G' H} : ∀ {n m v d e}, Dc S G H n v d → Dc S' G' H m v e → d = e
  | 0, _, _, _, _, h, _ => (show False from h).elim
  | _ + 1, 0, _, _, _, _, h => (show False from h).elim
  | n + 1, m + 1, v, d, e, h, h' => by
    have same : ∀ {a : Addr} {u w : HO}, H a = some u → H a = some w → u = w := fun {a u w} r r' => Option.some.inj (r.symm.trans r')
    rcases h with ⟨x, y⟩ | ⟨b, xs, eb, s, r, x, dd⟩ | ⟨b, ms, f, eb, s, r, nd, ks, dd, no, at'⟩
    · rcases h' with ⟨x', y'⟩ | ⟨b', xs', e', s', r', x', d'⟩ | ⟨b', ms', f', e', s', r', nd', ks', d', no', at''⟩
      · rw [y, y']
      · subst e'; exact nomatch G.sc _ x
      · subst e'; exact nomatch G.sc _ x
    · subst eb
      rcases h' with ⟨x', y'⟩ | ⟨b', xs', e', s', r', x', d'⟩ | ⟨b', ms', f', e', s', r', nd', ks', d', no', at''⟩
      · exact nomatch G'.sc _ x'
      · cases e'
        have z := same r r'
        injection z with z
        rw [dd, d', z]
      · cases e'
        have z := same r r'
        cases z
    · subst eb
      rcases h' with ⟨x', y'⟩ | ⟨b', xs', e', s', r', x', d'⟩ | ⟨b', ms', f', e', s', r', nd', ks', d', no', at''⟩
      · exact nomatch G'.sc _ x'
      · cases e'
        have z := same r r'
        cases z
      · cases e'
        have z := same r r'
        injection z with z
        rw [dd, d']
        congr 1
        funext k
        have ez : valV ms k = valV ms' k := by rw [← valV_inK ms, ← valV_inK ms', z]
        cases hv : valV ms k with
        | none => rw [no k hv, no' k (by rw [← ez]; exact hv)]
        | some u => exact Dc.det (at' k u hv) (at'' k u (by rw [← ez]; exact hv))
/-- the least level at which a value stands for a document -/
theorem Dc.low {S G H v} : ∀ {n d}, Dc S G H n v d → ∃ m, m ≤ n ∧ Dc S G H m v d ∧ ∀ k e, k < m → ¬ Dc S G H k v e
  | 0, _, h => (show False from h).elim
  | n + 1, d, h => by
    by_cases c : ∃ k e, k < n + 1 ∧ Dc S G H k v e
    · obtain ⟨k, e, hk, he⟩ := c
      have := Dc.det h he
      subst this
      obtain ⟨m, h1, h2, h3⟩ := Dc.low (he.lift (by omega : k ≤ n))
      exact ⟨m, by omega, h2, h3⟩
    · exact ⟨n + 1, Nat.le_refl _, h, fun k e hk he => c ⟨k, e, hk, he⟩⟩
/-- the dict at a locked: its members as they stood -/
theorem Mem.lock {S G H n a ms f o} (ha : H a = some (.dK (kvsOf ms))) (hS : S a) (h : Mem S G H n ms f) : Mem S G (upd H a o) n ms f := by
  obtain ⟨m, hm, h2, h3⟩ := (Dc.ob (n := n) hS ha h).low
  refine h2.cases (fun k _ _ e => by cases e) (fun k b xs _ eb _ _ _ e => by cases e) (fun k b ms' f' ek eb _ r' M e => ?_)
  cases eb
  rw [ha] at r'
  have z : kvsOf ms' = kvsOf ms := by injection r' with r'; injection r' with r'; exact r'.symm
  have zz : ∀ j, valV ms' j = valV ms j := fun j => by rw [← valV_inK, ← valV_inK, z]
  injection e with e
  subst e
  exact ⟨h.nd, h.ks, h.no, fun j u hu => ((M.at' j u (by rw [zz]; exact hu)).away fun i e hi he => h3 i e (by omega) he).lift (by omega)⟩
/-- changes elsewhere -/
theorem Dc.off {S G H n v d a o} (h : Dc S G H n v d) (hS : ¬ S a) : Dc S G (upd H a o) n v d := Dc.mono (fun _ z => z) (fun b u s _ r => by rw [upd_ne (fun z => hS (by rw [← z]; exact s))]; exact r) (Nat.le_refl _) h
theorem Mem.off {S G H n ms f a o} (h : Mem S G H n ms f) (hS : ¬ S a) : Mem S G (upd H a o) n ms f := ⟨h.nd, h.ks, h.no, fun k u z => (h.at' k u z).off hS⟩
theorem ex_unlock [TabL] {H H2 : Hp} {a : Addr} {f u : HO} (hu : H a = some u) (e : Ex (upd H a f) H2) (p1 : isPl u = true := by rfl) (p2 : isPl f = true := by rfl) : Ex H (upd H2 a u) := by
  have nt : ∀ {w : HO}, isPl w = true → isTbl w = false := fun {w} h => by cases w <;> first | rfl | exact h | exact nomatch h
  have h2 : H2 a = some f := e.go a f upd_same (nt p2)
  refine ⟨fun b o hb z => ?_, fun b hb => ?_, fun b q r t => ?_⟩
  · by_cases y : b = a
    · subst y
      rw [hu] at hb
      rw [upd_same]
      exact hb
    · rw [upd_ne y]
      exact e.go b o (by rw [upd_ne y]; exact hb) z
  · by_cases y : b = a
    · subst y
      rw [upd_same]
      exact fun z => nomatch z
    · rw [upd_ne y]
      exact e.ne b (by rw [upd_ne y]; exact hb)
  · exact tab_upd (e.tab b q r (tab_upd t fun w hw => by rw [hu] at hw; cases hw; exact p1)) fun w hw => by rw [h2] at hw; cases hw; exact p2
theorem take_keys {ms : List (Str × V)} {i : Nat} {k : Str} {u : V} (h : ms[i]? = some (k, u)) (j : Str) : (j ∈ (ms.take (i + 1)).map (·.1)) ↔ (j ∈ (ms.take i).map (·.1) ∨ j = k) := by
  rw [List.take_add_one, h]
  simp
/-- f at the first i keys, g at the others -/
def mix (ms : List (Str × V)) (i : Nat) (f g : Str → D) : Str → D := fun k => if k ∈ (ms.take i).map (·.1) then f k else g k
theorem mix_zero {ms : List (Str × V)} {f g : Str → D} : mix ms 0 f g = g := by
  funext k
  simp [mix]
theorem mix_succ {ms : List (Str × V)} {i : Nat} {k : Str} {u : V} {f g : Str → D} (h : ms[i]? = some (k, u)) : D.fup (mix ms i f g) k (f k) = mix ms (i + 1) f g := by
  funext j
  unfold D.fup mix
  simp only [take_keys h]
  by_cases z : j = k
  · simp [z]
  · simp [z]
theorem mix_all {ms : List (Str × V)} {f g : Str → D} (h : ∀ k, k ∉ ms.map (·.1) → f k = g k) : mix ms ms.length f g = f := by
  funext j
  unfold mix
  rw [List.take_length]
  by_cases c : j ∈ ms.map (·.1)
  · rw [if_pos c]
  · rw [if_neg c, h j c]
theorem mix_new {ms : List (Str × V)} {i : Nat} {k : Str} {u : V} {f g : Str → D} (nd : (ms.map (·.1)).Nodup) (h : ms[i]? = some (k, u)) : mix ms i f g k = g k := by
  unfold mix
  rw [if_neg]
  intro hk
  have hi : i < ms.length := (List.getElem?_eq_some_iff.mp h).1
  obtain ⟨p, hp, e⟩ := List.mem_map.mp hk
  obtain ⟨j, hj, ej⟩ := List.getElem_of_mem hp
  rw [List.length_take] at hj
  have e2 : (ms.map (·.1))[j]? = some k := by
    rw [List.getElem?_map, List.getElem?_eq_getElem (by omega)]
    rw [List.getElem_take] at ej
    rw [ej, ← e]
    rfl
  have e3 : (ms.map (·.1))[i]? = some k := by
    rw [List.getElem?_map, h]
    rfl
  have := (List.getElem?_inj (by rw [List.length_map]; omega) nd).mp (e2.trans e3.symm)
  omega
theorem Dc.alloc {S G H} : ∀ {n v d}, Dc S G H n v d → Dc (fun x => S x ∧ H x ≠ none) G H n v d
  | 0, _, _, h => h
  | n + 1, v, d, h => by
    have al : ∀ {a : Addr} {o : HO}, H a = some o → H a ≠ none := fun r z => by rw [z] at r; cases r
    rcases h with ⟨x, y⟩ | ⟨b, xs, e, s, r, x, d⟩ | ⟨b, ms, f, e, s, r, nd, ks, d, no, at'⟩
    · exact .inl ⟨x, y⟩
    · exact .inr (.inl ⟨b, xs, e, ⟨s, al r⟩, r, x, d⟩)
    · exact .inr (.inr ⟨b, ms, f, e, ⟨s, al r⟩, r, nd, ks, d, no, fun k u hu => Dc.alloc (at' k u hu)⟩)
theorem Mem.alloc {S G H n ms f} (h : Mem S G H n ms f) : Mem (fun x => S x ∧ H x ≠ none) G H n ms f := ⟨h.nd, h.ks, h.no, fun k u hu => (h.at' k u hu).alloc⟩
theorem app_tgt {d e : D} (h : d.tgt = e.tgt) (p : D) : D.app d p = D.app e p := by
  cases p with
  | ob g =>
    rw [app_ob, app_ob, h]
  | _ => rfl
theorem mix_skip {ms : List (Str × V)} {i : Nat} {k : Str} {u : V} {f g : Str → D} (h : ms[i]? = some (k, u)) (e : f k = g k) : mix ms i f g = mix ms (i + 1) f g := by
  funext j
  unfold mix
  simp only [take_keys h]
  by_cases z : j = k
  · subst z
    simp [e]
  · simp [z]
theorem Ex.both [TabL] {H H' : Hp} {a : Addr} {o u : HO} (e : Ex H H') (hu : H a = some u) (p1 : isPl u = true := by rfl) (p2 : isPl o = true := by rfl) : Ex (upd H a o) (upd H' a o) := by
  have nt : ∀ {w : HO}, isPl w = true → isTbl w = false := fun {w} h => by cases w <;> first | rfl | exact h | exact nomatch h
  have h' : H' a = some u := e.go a u hu (nt p1)
  refine ⟨fun b w h z => ?_, fun b hb => ?_, fun b q r t => ?_⟩
  · by_cases y : b = a
    · subst y
      rw [upd_same] at h ⊢
      exact h
    · rw [upd_ne y] at h ⊢
      exact e.go b w h z
  · by_cases y : b = a
    · subst y
      rw [upd_same]
      exact fun z => nomatch z
    · rw [upd_ne y] at hb ⊢
      exact e.ne b hb
  · have t0 : LamX.TabS H b q := by
      have z := tab_upd (p := a) (o := u) t fun w hw => by rw [upd_same] at hw; cases hw; exact p2
      have e2 : upd (upd H a o) a u = H := by
        rw [upd_upd]
        funext c
        by_cases y : c = a
        · rw [y, upd_same, hu]
        · rw [upd_ne y]
      rwa [e2] at z
    exact tab_upd (e.tab b q r t0) fun w hw => by rw [h'] at hw; cases hw; exact p1
/-- at most p parts -/
def PD : D → Nat → Prop
  | .nil, _ => True
  | .sc _, p => 1 ≤ p
  | .ls _, p => 1 ≤ p
  | .ob f, p => ∃ (ks : List Str) (q : Str → Nat), (∀ k, (f k).isNil = false → k ∈ ks) ∧ (∀ k, PD (f k) (q k)) ∧ 1 + (ks.map q).sum ≤ p
theorem PD.mono : ∀ {d : D} {p q : Nat}, p ≤ q → PD d p → PD d q
  | .nil, _, _, _, _ => trivial
  | .sc _, _, _, h, z => Nat.le_trans z h
  | .ls _, _, _, h, z => Nat.le_trans z h
  | .ob _, _, _, h, ⟨ks, q, a, b, c⟩ => ⟨ks, q, a, b, Nat.le_trans c h⟩
theorem sum_sub (q : Str → Nat) : ∀ {xs ys : List Str}, xs.Nodup → (∀ x ∈ xs, x ∈ ys) → (xs.map q).sum ≤ (ys.map q).sum
  | [], _, _, _ => Nat.zero_le _
  | x :: xs, ys, nd, h => by
    rw [List.nodup_cons] at nd
    have hx := h x List.mem_cons_self
    have h2 : ∀ z ∈ xs, z ∈ ys.erase x := fun z hz => (List.mem_erase_of_ne (fun e => nd.1 (by rw [← e]; exact hz))).mpr (h z (List.mem_cons_of_mem _ hz))
    have h3 := sum_sub q nd.2 h2
    have h4 : (ys.map q).sum = q x + ((ys.erase x).map q).sum := by
      have := (List.perm_cons_erase hx).map q
      rw [this.sum_nat]
      simp
    rw [List.map_cons, List.sum_cons]
    omega
/-- objects nested at most p deep -/
def DD : D → Nat → Prop
  | .ob f, p => 1 ≤ p ∧ ∀ k, DD (f k) (p - 1)
  | _, _ => True
theorem DD.mono : ∀ {d : D} {p q : Nat}, p ≤ q → DD d p → DD d q
  | .nil, _, _, _, _ => trivial
  | .sc _, _, _, _, _ => trivial
  | .ls _, _, _, _, _ => trivial
  | .ob _, _, _, h, ⟨a, b⟩ => ⟨Nat.le_trans a h, fun k => DD.mono (by omega) (b k)⟩
theorem Dc.avoid {S G H a} : ∀ {n v d}, Dc S G H n v d → (∀ m e, m ≤ n → ¬ Dc S G H m (.ref a) e) → Dc (fun x => S x ∧ x ≠ a) G H n v d
  | 0, _, _, h, _ => h
  | n + 1, v, d, h, hn => by
    have ne : ∀ b, v = .ref b → b ≠ a := fun b e z => hn (n + 1) d (Nat.le_refl _) (by rw [← z, ← e]; exact h)
    rcases h with ⟨x, y⟩ | ⟨b, xs, e, s, r, x, d⟩ | ⟨b, ms, f, e, s, r, nd, ks, d, no, at'⟩
    · exact .inl ⟨x, y⟩
    · exact .inr (.inl ⟨b, xs, e, ⟨s, ne b e⟩, r, x, d⟩)
    · exact .inr (.inr ⟨b, ms, f, e, ⟨s, ne b e⟩, r, nd, ks, d, no, fun k u hu => Dc.avoid (at' k u hu) fun m e' hm => hn m e' (by omega)⟩)
theorem Mem.avoid {S G H n a ms f} (ha : H a = some (.dK (kvsOf ms))) (hS : S a) (h : Mem S G H n ms f) : Mem (fun x => S x ∧ x ≠ a) G H n ms f := by
  obtain ⟨m, hm, h2, h3⟩ := (Dc.ob (n := n) hS ha h).low
  refine h2.cases (fun k _ _ e => by cases e) (fun k b xs _ eb _ _ _ e => by cases e) (fun k b ms' f' ek eb _ r' M e => ?_)
  cases eb
  rw [ha] at r'
  have z : kvsOf ms' = kvsOf ms := by injection r' with r'; injection r' with r'; exact r'.symm
  have zz : ∀ j, valV ms' j = valV ms j := fun j => by rw [← valV_inK, ← valV_inK, z]
  injection e with e
  subst e
  exact ⟨h.nd, h.ks, h.no, fun j u hu => ((M.at' j u (by rw [zz]; exact hu)).avoid fun i e hi he => h3 i e (by omega) he).lift (by omega)⟩
theorem not_taken {ms : List (Str × V)} {i : Nat} {k : Str} {u : V} (nd : (ms.map (·.1)).Nodup) (h : ms[i]? = some (k, u)) : k ∉ (ms.take i).map (·.1) := by
  intro hk
  have hi : i < ms.length := (List.getElem?_eq_some_iff.mp h).1
  obtain ⟨p, hp, e⟩ := List.mem_map.mp hk
  obtain ⟨j, hj, ej⟩ := List.getElem_of_mem hp
  rw [List.length_take] at hj
  have e2 : (ms.map (·.1))[j]? = some k := by
    rw [List.getElem?_map, List.getElem?_eq_getElem (by omega)]
    rw [List.getElem_take] at ej
    rw [ej, ← e]
    rfl
  have e3 : (ms.map (·.1))[i]? = some k := by
    rw [List.getElem?_map, h]
    rfl
  have := (List.getElem?_inj (by rw [List.length_map]; omega) nd).mp (e2.trans e3.symm)
  omega
theorem merge_nodup : ∀ (ms pre : List (Str × V)), ((pre ++ ms).map (·.1)).Nodup → mergeK (kvsOf pre) (kvsOf ms) = kvsOf (pre ++ ms)
  | [], pre, _ => by simp [mergeK]
  | p :: ms, pre, h => by
    have h1 : valV pre p.1 = none := valV_none_of fun z => by
      rw [List.map_append, List.nodup_append] at h
      exact h.2.2 _ z _ (by simp) rfl
    have h2 : putK (kvsOf pre) (Sum.inr p.1) p.2 = kvsOf (pre ++ [p]) := by
      rw [putK_inK, putK_new _ h1]
    have h3 := merge_nodup ms (pre ++ [p]) (by simpa using h)
    show mergeK (putK (kvsOf pre) (Sum.inr p.1) p.2) (kvsOf ms) = _
    rw [h2, h3]
    simp
theorem Mem.drop {S G H n ms f} (h : Mem S G H n ms f) (k : Str) : Mem S G H n (ms.filter fun p => decide (p.1 ≠ k)) (D.fup f k .nil) := by
  have sub : ∀ {j : Str} {u : V}, valV (ms.filter fun p => decide (p.1 ≠ k)) j = some u → valV ms j = some u ∧ j ≠ k := fun {j u} z => by
    have hm := valV_mem z
    rw [List.mem_filter] at hm
    exact ⟨valV_of_mem h.nd hm.1, of_decide_eq_true hm.2⟩
  refine ⟨h.nd.sublist (List.filter_sublist.map _), fun j hj => ?_, fun j hj => ?_, fun j u hu => ?_⟩
  · obtain ⟨p, hp, e⟩ := List.mem_map.mp hj
    exact h.ks j (List.mem_map.mpr ⟨p, (List.mem_filter.mp hp).1, e⟩)
  · unfold D.fup
    by_cases z : j = k
    · rw [if_pos z]
    · rw [if_neg z]
      cases e : valV ms j with
      | none => exact h.no j e
      | some u =>
        have : j ∈ (ms.filter fun p => decide (p.1 ≠ k)).map (·.1) := List.mem_map.mpr ⟨(j, u), List.mem_filter.mpr ⟨valV_mem e, decide_eq_true z⟩, rfl⟩
        obtain ⟨w, hw⟩ := valV_some_of this
        rw [hj] at hw
        cases hw
  · obtain ⟨h1, h2⟩ := sub hu
    unfold D.fup
    rw [if_neg h2]
    exact h.at' j u h1
end TP

namespace TP
open PySem PySem.Spec PyProof.Rows L2
/-! ### defs that are only called where no repr is under way -/
structure FnOkG (P : Program) (w : World) (K : PySem.W.Frag) (mg : Str → Option Value) (base : Heap) (CX : CXT) (k : Nat) (f : Addr) (fd : FuncData) (ps : List Str) (sp : Sp) : Prop where
  len : ∀ vs H Q E, sp vs H Q E → vs.length = ps.length
  run : ∀ (A : Around) (outer : List Env) (s : Shared) (H : Hp) (args : Args) (us : List Value) (vs : List V) (Q : VK) (E : XK), A.guards = some [] → Room k A → Env0 P w K mg base A outer s H →
    BindsTo s fd args (ps.zip us) → Vals vs us → sp vs H Q E → codeAny (model P w) A (.call (.ref f) args) (CR CX outer P w H s Q E) s
section
variable {P : Program} {w : World} {K : PySem.W.Frag} {mg : Str → Option Value} {base : Heap} {CX : CXT}
theorem okG {x qual : Str} {st : Stmt} {f : Addr} {fd : FuncData} {N ps : List Str} {k : Nat} {sp : Sp} (F : Fun K x qual st f fd) (S : FnScope N ps (defScope st)) (len : ∀ vs H Q E, sp vs H Q E → vs.length = ps.length)
    (body : ∀ (cdv : Value) (A : Around) (outer : List Env) (s : Shared) (H : Hp) (vs : List V) (Q : VK) (E : XK), A.guards = some [] → Room k (A.deeper (envOfC qual (defScope st) s.heap.objs.size f cdv)) → sp vs H Q E →
      ∃ t, PSs (cxOf CX P w K mg base N qual (defScope st) f cdv A outer s H E).nox (defBody st) t ∧ t { nx := fun _ H' => Q .non H', rt := Q } (start N vs) H) : FnOkG P w K mg base CX (k + 1) f fd ps sp := by
  obtain ⟨oc, od, kV, doc, pm, an, cdv, ct, osl, rfl, lk, hcd⟩ := F.ex
  refine ⟨len, fun A outer s H args us vs Q E hg room e0 hb rel want => ?_⟩
  have hl := len _ _ _ _ want
  have kin : K.In s.heap := e0.mod.kin.keeps fun b o e => (e0.bs b o e).1
  have nol : s.heap.NoLimit := e0.mod.nolimit.keeps fun b o e => (e0.bs b o e).1
  refine codeAny_call_function room.depth (kin _ _ lk) rfl S.co S.gen rfl (PySem.W.codeRec_of kin hcd) (hb _ _ _ _ ?_)
  refine wpAny_newFunctionEnv_cells S.kind (fun ⟨n, v⟩ hy => (S.par n (List.of_mem_zip hy).1).imp id fun q => ⟨q, PySem.W.cellsFrom_some _ _ _ (.inl q)⟩) fun env he s1 x => ?_
  subst he
  refine ⟨nol.keeps x.toInCall.keep, codeAny_func ?_⟩
  obtain ⟨t, ht, hq⟩ := body cdv A outer s H vs Q E hg (room.deeper _) want
  refine wpAny_mono (ht.nox.run [] s1 (start N vs) H _ (inv_start S room.hd e0 hl rel x) hq) (fun fl s' h => ?_) fun _ _ h => h
  cases fl with
  | ret u => exact let ⟨v, _, H', J, rv, q⟩ := h; ⟨v, H', J.os, J.bare, J.base, J.hok, rv, q⟩
  | next => exact let ⟨_, H', J, q⟩ := h; ⟨V.non, H', J.os, J.bare, J.base, J.hok, rfl, q⟩
  | brk => exact let ⟨_, _, _, q⟩ := h; False.elim q
  | cont => exact let ⟨_, _, _, q⟩ := h; False.elim q
/-- a call of such a def -/
theorem pe_callG {X : Cx} {k : Nat} {f : Addr} {fd : FuncData} {ps : List Str} {sp : Sp} {E : XK} {x : Str} {p pos : Pos} {e : Expr} {es : List Expr} {t : TA} (F : FnOkG X.prog X.w X.K X.mg X.base CX k f fd ps sp) (hgd : X.A.guards = some []) (hr : Room k X.A) (hg : Gl X x)
    (hm : X.mg x = some (.ref f)) (hk : PySem.W.keepIn X.K (.ref f) = true) (hb : Binds X.K fd ps []) (hx : Passes CX X E) (ha : PA X (e :: es) t) (hdb : (x == ("__debug__" : Str)) = false := by decide)
    (he : starEach (e :: es) X.env = (false, eval e X.env) :: starEach es X.env := by rfl) (hpl : (backTo pos (starEach es X.env)).any (·.1) = false := by rfl) :
    PE X (.Call (.Name x p) (e :: es) [] pos) (tCall sp [] E t) := by
  refine ⟨fun pins s σ H Q I h => ?_⟩
  refine wpAny_Call_Name_kw (ld_glob I hg hm ?_ hdb)
  refine PySem.W.callWith_K (h₀ := X.base) I.ok.mod.kin hk (thn (ha.run pos pins s σ H _ I h) fun us s1 ⟨vs, H1, I1, r1, q1⟩ => ⟨I1.kIn, ?_⟩) he hpl
  have q1 : sp (vs ++ []) H1 Q E := q1
  rw [List.append_nil] at q1
  have hl : (us ++ []).length = ps.length := by rw [List.append_nil, ← Paired.length r1]; exact F.len _ _ _ _ q1
  have bt := hb s1 us I1.kIn hl
  rw [List.append_nil] at bt
  refine wpAny_call (codeAny_mono (F.run X.A X.stack s1 H1 ⟨us, []⟩ us vs Q E hgd hr I1.env0 bt r1 q1) fun r s' h' => ?_)
  cases r with
  | error er => exact hx pins σ _ _ er s' I1 h'
  | ok fl =>
    cases fl with
    | ret u => exact I1.after h'
    | next => exact False.elim h'
    | brk => exact False.elim h'
    | cont => exact False.elim h'
/-- the script's list as it stands at the entry -/
def ScrAt (K : PySem.W.Frag) (H : Hp) (a : Addr) (xs : List V) : Prop := ∃ its : List Value, Vals xs its ∧ xs.length ≤ 1000 ∧
  (K.lookup a = some { cls := .type "list", data := .seq its.toArray } ∨ H a = some (.frz { cls := .type "list", data := .seq its.toArray } (.lst xs)))
theorem ScrAt.ex [TabL] {K H H' a xs} (e : Ex H H') (h : ScrAt K H a xs) : ScrAt K H' a xs := let ⟨i, r, l, z⟩ := h; ⟨i, r, l, z.imp id fun y => e.go a _ y rfl⟩
/-- the head's end, for a law whose own def asks that no repr is under way -/
theorem walk_G {l : PySem.W.OpenLaw} {n k : Nat} {q : Program} {loose : List Str} {XP : (Str → Option Value) → Heap → Prop} {YP : World → Heap → Prop} {d : DefRec} {K : Params → PySem.W.Frag} {sp : PySem.W.Frag → Sp} {x : Str}
    (hn : l.most = some n) (hn2 : n ≤ 1000) (hdf : d.params.defaults = []) (hr : Room k callerA) (hY : ∀ (w : World) (h : Heap), YP w h → (K w.params).In h)
    (F : ∀ (w : World) (mg : Str → Option Value) (fa : Addr) (h : Heap), (K w.params).In h → h.Ns mainGlobals mg → mg d.name = some (.ref fa) →
      ∃ fd : FuncData, (∀ (s : Shared) (u : Value), BindsTo s fd ⟨[u], []⟩ [(x, u)]) ∧
        ∀ base : Heap, (K w.params).In base → base.Ns mainGlobals mg → FnOkG l.prog w (K w.params) mg base CX0 k fa fd [x] (sp (K w.params)))
    (hsp : ∀ (K : PySem.W.Frag) (H : Hp) (a : Addr) (ns : List Int), ns.length ≤ n → Only H → ScrAt K H a (ns.map V.int) → sp K [.ref a] H (fun v _ => v = .bl true) fun _ _ _ => False) :
    PySem.W.WalkO q loose XP YP l.row.toRowW d [] (fun f vs => PySem.call f vs) := by
  refine Att.attach_call hn hdf fun w s₀ s₁ mg mb fa o pm cd doc a vs ns G Y ho hd hcd hmg hobj hints hlen hg => ?_
  have KX := hY w _ Y
  obtain ⟨fd, hbind, hF⟩ := F w mg fa _ KX G.T.g hmg
  have hl1 : (ns.map V.int).length ≤ 1000 := by rw [List.length_map]; exact Nat.le_trans hlen hn2
  have hl : ns.length ≤ sizeLine := Nat.le_trans (Nat.le_trans hlen hn2) (by decide)
  have rel := vals_ints hints
  -- what may be tracked at the entry: the script's list, if the module does not own it
  have main : ∀ H : Hp, Only H → ScrAt (K w.params) H a (ns.map V.int) → HOk l.prog w H s₁.heap → (∀ b, H b ≠ none → b = a ∧ (K w.params).lookup a = none) →
      codeAny (model l.prog w) callerA (.call (.ref fa) ⟨[.ref a], []⟩) (fun r s' => r = .ok (.ret (.bool true)) ∧ OldK s₁.heap s'.heap ∧ s'.os = s₁.os ∧ AllBare s'.gens) s₁ := fun H hO hS hok only => by
    have free : ∀ {b : Addr} {ob : Obj}, s₁.heap.get? b = some ob → (b = a → ∃ es ep, ob.data = .dict es ep) → H b = none := fun {b ob} e z => by
      cases hb : H b with
      | none => rfl
      | some u =>
        have eb := (only b (by rw [hb]; exact fun y => nomatch y)).1
        obtain ⟨es, ep, dz⟩ := z eb
        rw [eb, hobj] at e
        cases e
        exact nomatch dz
    have ns' : ∀ {b : Addr} {m : Str → Option Value}, s₁.heap.Ns b m → (hidT s₁.heap H).Ns b m := fun {b m} h => by
      obtain ⟨ob, es, ep, e1, e2, e3⟩ := h
      exact ⟨ob, es, ep, hidT_get e1 (free e1 fun _ => ⟨es, ep, e2⟩), e2, e3⟩
    have kin : (K w.params).In (hidT s₁.heap H) := fun b ob e => hidT_get (KX b ob e) (by
      cases hb : H b with
      | none => rfl
      | some u =>
        obtain ⟨eb, e0⟩ := only b (by rw [hb]; exact fun y => nomatch y)
        rw [eb, e0] at e
        cases e)
    have env : Env0 l.prog w (K w.params) mg (hidT s₁.heap H) callerA [] s₁ H :=
      ⟨rfl, ⟨kin, ns' G.T.g, ⟨mb, ns' G.T.b, G.T.builtins⟩, G.T.nolimit.imp fun _ h => ⟨ns' h.1, h.2⟩⟩, fun _ _ e => of_hidT e, Nat.le_of_eq (hidT_size _ _), trivial, fun _ hb => absurd hb (by simp [frs]), hok, .of_eq hg⟩
    refine codeAny_mono ((hF _ kin (ns' G.T.g)).run callerA [] s₁ H ⟨[.ref a], []⟩ [.ref a] [.ref a] _ _ rfl hr env (hbind s₁ (.ref a)) (.cons rfl .nil) (hsp _ H a ns hlen hO hS)) fun r s' h => ?_
    match r, h with
    | .ok (.ret u), h =>
      obtain ⟨v, H', os, bare, un, hok', rv, qv⟩ := h
      have qv : v = .bl true := qv
      subst qv
      obtain rfl : u = Value.bool true := rv
      refine ⟨rfl, OldK.of_keep fun b ob e => ?_, os, bare⟩
      rcases hO b with z | ⟨ob', xs, z⟩
      · exact un.keep b ob e z (by simp [frs]) (by simp)
      · have h1 := (hok b _ z).1
        have h2 := (hok' b _ (un.frzs b ob' _ z)).1
        rw [e] at h1
        cases h1
        exact h2
    | .error _, h => exact h.elim
    | .ok .next, h => exact h.elim
    | .ok .brk, h => exact h.elim
    | .ok .cont, h => exact h.elim
  have lenV := hints.length
  cases hk : (K w.params).lookup a with
  | some ob =>
    have e := KX a ob hk
    rw [hobj] at e
    cases e
    exact main (fun _ => none) (fun _ => .inl rfl) ⟨vs, rel, hl1, .inl hk⟩ (fun _ _ z => nomatch z) fun _ z => absurd rfl z
  | none =>
    have one : ∀ {b : Addr} {u : HO}, (if b = a then some (HO.frz { cls := .type "list", data := .seq vs.toArray } (.lst (ns.map V.int))) else none) = some u → b = a ∧ u = .frz { cls := .type "list", data := .seq vs.toArray } (.lst (ns.map V.int)) := fun {b u} z => by
      by_cases hb : b = a
      · rw [if_pos hb] at z
        exact ⟨hb, (Option.some.inj z).symm⟩
      · rw [if_neg hb] at z
        cases z
    refine main (fun b => if b = a then some (.frz { cls := .type "list", data := .seq vs.toArray } (.lst (ns.map V.int))) else none) (fun b => ?_) ⟨vs, rel, hl1, .inr (if_pos rfl)⟩ (fun b u z => ?_) fun b z => ?_
    · by_cases hb : b = a
      · exact .inr ⟨_, _, if_pos hb⟩
      · exact .inl (if_neg hb)
    · obtain ⟨rfl, rfl⟩ := one z
      exact ⟨hobj, by rw [List.length_map]; exact hl, vs, _, rel, hobj⟩
    · obtain ⟨u, hu⟩ := Option.ne_none_iff_exists'.mp z
      exact ⟨(one hu).1, hk⟩
end
end TP

namespace TP
open PySem PySem.Spec PyProof.Rows L2
theorem tabs0 {H : Hp} {P : Addr} {q : Str} (h : H P = some (.tbl #[])) : LamX.TabS H P q := LamX.TabS.nil h
/-- a code object's head, from what is told of it -/
theorem code_hd {K : PySem.W.Frag} {h : Heap} {c P : Addr} {od : Option Addr} {vs : Array Value} {sl : Array (Option Value)} {file : Str} {tf : Tok} {flags : Int} {tg : Tok} {inF : Bool} {text : Int} {tt : Tok} (X : K.In h) (l : K.lookup c = some ⟨.type "code", od, .fields vs, sl⟩) (h0 : vs[11]? = some (.ref P)) (h1 : vs.getD 11 .none = .ref P) (h2 : vs.getD 18 .none = .str file tf) (h3 : vs.getD 7 .none = .int flags tg) (h4 : vs.getD 9 .none = .bool inF) (h5 : vs.getD 10 .none = .int text tt) (ne : c ≠ P) : PySem.W.CodeHd h c P :=
  ⟨_, vs, file, tf, flags, tg, inF, text, tt, X c _ l, rfl, rfl, h0, h1, h2, h3, h4, h5, ne⟩
/-- what is tracked at the entry: the script's list, and one code table -/
def OnlyT (Pt : Addr) (H : Hp) : Prop := ∀ b, H b = none ∨ (b = Pt ∧ H b = some (.tbl #[])) ∨ ∃ o xs, H b = some (.frz o (.lst xs))
/-- the head's end, for a law whose own def asks that no repr is under way, and a code table -/
theorem walk_GT {l : PySem.W.OpenLaw} {n k : Nat} {q : Program} {loose : List Str} {XP : (Str → Option Value) → Heap → Prop} {YP : World → Heap → Prop} {d : DefRec} {K : Params → PySem.W.Frag} {sp : PySem.W.Frag → Addr → Sp} {x : Str}
    (hn : l.most = some n) (hn2 : n ≤ 1000) (hdf : d.params.defaults = []) (hr : Room k callerA) (hY : ∀ (w : World) (h : Heap), YP w h → (K w.params).In h)
    (F : ∀ (w : World) (mg : Str → Option Value) (fa : Addr) (h : Heap), YP w h → (K w.params).In h → h.Ns mainGlobals mg → mg d.name = some (.ref fa) →
      ∃ (c Pt : Addr), h.get? Pt = some (PySem.W.tabObj #[]) ∧ (K w.params).lookup Pt = none ∧ PySem.W.CodeHd h c Pt ∧ ∃ fd : FuncData, (∀ (s : Shared) (u : Value), BindsTo s fd ⟨[u], []⟩ [(x, u)]) ∧
        ∀ base : Heap, (K w.params).In base → base.Ns mainGlobals mg → LamX.TabB base mg c Pt → FnOkG l.prog w (K w.params) mg base CX0 k fa fd [x] (sp (K w.params) Pt))
    (hsp : ∀ (K : PySem.W.Frag) (H : Hp) (a Pt : Addr) (ns : List Int), ns.length ≤ n → H Pt = some (.tbl #[]) → ScrAt K H a (ns.map V.int) → sp K Pt [.ref a] H (fun v _ => v = .bl true) fun _ _ _ => False) :
    PySem.W.WalkO q loose XP YP l.row.toRowW d [] (fun f vs => PySem.call f vs) := by
  refine Att.attach_call hn hdf fun w s₀ s₁ mg mb fa o pm cd doc a vs ns G Y ho hd hcd hmg hobj hints hlen hg => ?_
  have KX := hY w _ Y
  obtain ⟨c, Pt, hPt, hKP, hcode, fd, hbind, hF⟩ := F w mg fa _ Y KX G.T.g hmg
  have hl1 : (ns.map V.int).length ≤ 1000 := by rw [List.length_map]; exact Nat.le_trans hlen hn2
  have hl : ns.length ≤ sizeLine := Nat.le_trans (Nat.le_trans hlen hn2) (by decide)
  have rel := vals_ints hints
  have naP : a ≠ Pt := fun z => by
    rw [z, hPt] at hobj
    cases hobj
  have main : ∀ H : Hp, OnlyT Pt H → H Pt = some (.tbl #[]) → ScrAt (K w.params) H a (ns.map V.int) → HOk l.prog w H s₁.heap → (∀ b, H b ≠ none → b = Pt ∨ (b = a ∧ (K w.params).lookup a = none)) →
      codeAny (model l.prog w) callerA (.call (.ref fa) ⟨[.ref a], []⟩) (fun r s' => r = .ok (.ret (.bool true)) ∧ OldK s₁.heap s'.heap ∧ s'.os = s₁.os ∧ AllBare s'.gens) s₁ := fun H hO hT hS hok only => by
    have free : ∀ {b : Addr} {ob : Obj}, s₁.heap.get? b = some ob → (b = a ∨ b = Pt → False) → H b = none := fun {b ob} e z => by
      cases hb : H b with
      | none => rfl
      | some u => exact ((only b (by rw [hb]; exact fun y => nomatch y)).elim (fun y => z (.inr y)) fun y => z (.inl y.1)).elim
    have ns' : ∀ {b : Addr} {m : Str → Option Value}, s₁.heap.Ns b m → (hidT s₁.heap H).Ns b m := fun {b m} h => by
      obtain ⟨ob, es, ep, e1, e2, e3⟩ := h
      exact ⟨ob, es, ep, hidT_get e1 (free e1 fun z => by
        rcases z with z | z
        · rw [z, hobj] at e1; cases e1; cases e2
        · rw [z, hPt] at e1; cases e1; cases e2), e2, e3⟩
    have kin : (K w.params).In (hidT s₁.heap H) := fun b ob e => hidT_get (KX b ob e) (by
      cases hb : H b with
      | none => rfl
      | some u =>
        rcases only b (by rw [hb]; exact fun y => nomatch y) with z | ⟨z, z0⟩
        · rw [z, hKP] at e; cases e
        · rw [z, z0] at e; cases e)
    have obs : ∀ {b : Addr} {ob : Obj}, s₁.heap.get? b = some ob → ob.cls ≠ .type "list" → ob.cls ≠ .none → (hidT s₁.heap H).get? b = some ob := fun {b ob} e n1 n2 => hidT_get e (free e fun z => by
        rcases z with z | z
        · rw [z, hobj] at e; cases e; exact n1 rfl
        · rw [z, hPt] at e; cases e; exact n2 rfl)
    have tb : LamX.TabB (hidT s₁.heap H) mg c Pt := by
      obtain ⟨og, es, ep, g1, g2, _⟩ := G.T.g
      obtain ⟨bm, ob, b1, b2, b3, b4, b5, b6⟩ := G.T.bmain
      obtain ⟨oc, vs', r1, r2, r3, r4, r5, r6, r7, e1, e2, e3⟩ := hcode
      refine ⟨⟨oc, vs', r1, r2, r3, r4, r5, r6, r7, obs e1 (by rw [e2]; exact fun z => nomatch z) (by rw [e2]; exact fun z => nomatch z), e2, e3⟩, ⟨bm, ob, b1, b2, ?_, ?_, obs b3 (by rw [b4]; exact fun z => by injection z with z; exact absurd z (by decide)) (by rw [b4]; exact fun z => nomatch z), b4, b5, b6⟩, ?_⟩
      · intro z; rw [z, g1] at b3; cases b3; rw [g2] at b6; cases b6
      · intro z; rw [z, hPt] at b3; cases b3; cases b6
      · intro z; rw [z, hPt] at g1; cases g1; cases g2
    have env : Env0 l.prog w (K w.params) mg (hidT s₁.heap H) callerA [] s₁ H :=
      ⟨rfl, ⟨kin, ns' G.T.g, ⟨mb, ns' G.T.b, G.T.builtins⟩, G.T.nolimit.imp fun _ h => ⟨ns' h.1, h.2⟩⟩, fun _ _ e => of_hidT e, Nat.le_of_eq (hidT_size _ _), trivial, fun _ hb => absurd hb (by simp [frs]), hok, .of_eq hg⟩
    refine codeAny_mono ((hF _ kin (ns' G.T.g) tb).run callerA [] s₁ H ⟨[.ref a], []⟩ [.ref a] [.ref a] _ _ rfl hr env (hbind s₁ (.ref a)) (.cons rfl .nil) (hsp _ H a Pt ns hlen hT hS)) fun r s' h => ?_
    match r, h with
    | .ok (.ret u), h =>
      obtain ⟨v, H', os, bare, un, hok', rv, qv⟩ := h
      have qv : v = .bl true := qv
      subst qv
      obtain rfl : u = Value.bool true := rv
      refine ⟨rfl, ⟨fun b ob e => ?_, fun b ob e => un.there b ob e (by simp)⟩, os, bare⟩
      rcases hO b with z | ⟨z, _⟩ | ⟨ob', xs, z⟩
      · exact .inl (un.keep b ob e z (by simp [frs]) (by simp))
      · subst z
        obtain ⟨more, hm⟩ := un.tbls b _ hT
        have h2 := hok' b _ hm
        rw [hPt] at e
        cases e
        exact .inr (.inl ⟨let ⟨o, vs, _, _, _, _, _, _, _, e1, e2, e3, e4, _⟩ := hcode; ⟨c, o, vs, e1, e2, e3, e4⟩, rfl, #[], more, rfl, h2⟩)
      · have h1 := (hok b _ z).1
        have h2 := (hok' b _ (un.frzs b ob' _ z)).1
        rw [e] at h1
        cases h1
        exact .inl h2
    | .error _, h => exact h.elim
    | .ok .next, h => exact h.elim
    | .ok .brk, h => exact h.elim
    | .ok .cont, h => exact h.elim
  have lenV := hints.length
  cases hk : (K w.params).lookup a with
  | some ob =>
    have e := KX a ob hk
    rw [hobj] at e
    cases e
    refine main (fun b => if b = Pt then some (.tbl #[]) else none) (fun b => ?_) (if_pos rfl) ⟨vs, rel, hl1, .inl hk⟩ (fun b u z => ?_) fun b z => ?_
    all_goals try dsimp only at z
    · by_cases hb : b = Pt
      · exact .inr (.inl ⟨hb, if_pos hb⟩)
      · exact .inl (if_neg hb)
    · by_cases hb : b = Pt
      · rw [if_pos hb] at z
        cases z
        rw [hb]
        exact hPt
      · rw [if_neg hb] at z; cases z
    · by_cases hb : b = Pt
      · exact .inl hb
      · rw [if_neg hb] at z; exact absurd rfl z
  | none =>
    refine main (fun b => if b = Pt then some (.tbl #[]) else if b = a then some (.frz { cls := .type "list", data := .seq vs.toArray } (.lst (ns.map V.int))) else none) (fun b => ?_) (if_pos rfl) ⟨vs, rel, hl1, .inr (show (if a = Pt then some (HO.tbl #[]) else if a = a then _ else none) = _ by rw [if_neg naP, if_pos rfl])⟩ (fun b u z => ?_) fun b z => ?_
    all_goals try dsimp only at z
    · by_cases hb : b = Pt
      · exact .inr (.inl ⟨hb, if_pos hb⟩)
      · by_cases hb2 : b = a
        · exact .inr (.inr ⟨_, _, by dsimp only; rw [if_neg hb, if_pos hb2]⟩)
        · exact .inl (by dsimp only; rw [if_neg hb, if_neg hb2])
    · by_cases hb : b = Pt
      · rw [if_pos hb] at z
        cases z
        rw [hb]
        exact hPt
      · rw [if_neg hb] at z
        by_cases hb2 : b = a
        · rw [if_pos hb2] at z
          cases z
          subst hb2
          exact ⟨hobj, by rw [List.length_map]; exact hl, vs, _, rel, hobj⟩
        · rw [if_neg hb2] at z; cases z
    · by_cases hb : b = Pt
      · exact .inl hb
      · rw [if_neg hb] at z
        by_cases hb2 : b = a
        · exact .inr ⟨hb2, hk⟩
        · rw [if_neg hb2] at z; exact absurd rfl z
end TP

namespace TP
open PySem PySem.Spec PyProof.Rows L2
/-- what holds of every heap: nothing that is tracked lies where sys.modules lies -/
def tSys (t : TE) : TE := fun σ H Q => t σ H fun v H' => (∀ a o, H' a = some o → a ≠ sysModules) → Q v H'
theorem pe_sys {X : Cx} {e : Expr} {t : TE} (hS : ∃ o, X.base.get? sysModules = some o) (h : PE X e t) : PE X e (tSys t) := by
  refine ⟨fun pins s σ H Q I hw => thn (h.run pins s σ H _ I hw) fun u s1 ⟨v, H', I', rv, q⟩ => ⟨v, H', I', rv, q fun a o e z => ?_⟩⟩
  obtain ⟨o1, h1⟩ := hS
  have := (I'.bs _ _ h1).2
  rw [← z, e] at this
  cases this
/-- as walk_GT, and sys.modules stands in the base: the head's end, for a law whose own def asks that no repr is under way, and a code table -/
theorem walk_GTS {l : PySem.W.OpenLaw} {n k : Nat} {q : Program} {loose : List Str} {XP : (Str → Option Value) → Heap → Prop} {YP : World → Heap → Prop} {d : DefRec} {K : Params → PySem.W.Frag} {sp : PySem.W.Frag → Addr → Sp} {x : Str}
    (himp : importsNone q = true) (hn : l.most = some n) (hn2 : n ≤ 1000) (hdf : d.params.defaults = []) (hr : Room k callerA) (hY : ∀ (w : World) (h : Heap), YP w h → (K w.params).In h)
    (F : ∀ (w : World) (mg : Str → Option Value) (fa : Addr) (h : Heap), YP w h → (K w.params).In h → h.Ns mainGlobals mg → mg d.name = some (.ref fa) →
      ∃ (c Pt : Addr), h.get? Pt = some (PySem.W.tabObj #[]) ∧ (K w.params).lookup Pt = none ∧ PySem.W.CodeHd h c Pt ∧ ∃ fd : FuncData, (∀ (s : Shared) (u : Value), BindsTo s fd ⟨[u], []⟩ [(x, u)]) ∧
        ∀ base : Heap, (K w.params).In base → base.Ns mainGlobals mg → LamX.TabB base mg c Pt → (∃ o, base.get? sysModules = some o) → FnOkG l.prog w (K w.params) mg base CX0 k fa fd [x] (sp (K w.params) Pt))
    (hsp : ∀ (K : PySem.W.Frag) (H : Hp) (a Pt : Addr) (ns : List Int), ns.length ≤ n → H Pt = some (.tbl #[]) → ScrAt K H a (ns.map V.int) → sp K Pt [.ref a] H (fun v _ => v = .bl true) fun _ _ _ => False) :
    PySem.W.WalkO q loose XP YP l.row.toRowW d [] (fun f vs => PySem.call f vs) := by
  refine Att.attach_call hn hdf fun w s₀ s₁ mg mb fa o pm cd doc a vs ns G Y ho hd hcd hmg hobj hints hlen hg => ?_
  have KX := hY w _ Y
  obtain ⟨c, Pt, hPt, hKP, hcode, fd, hbind, hF⟩ := F w mg fa _ Y KX G.T.g hmg
  have hl1 : (ns.map V.int).length ≤ 1000 := by rw [List.length_map]; exact Nat.le_trans hlen hn2
  have hl : ns.length ≤ sizeLine := Nat.le_trans (Nat.le_trans hlen hn2) (by decide)
  have rel := vals_ints hints
  have naP : a ≠ Pt := fun z => by
    rw [z, hPt] at hobj
    cases hobj
  have main : ∀ H : Hp, OnlyT Pt H → H Pt = some (.tbl #[]) → ScrAt (K w.params) H a (ns.map V.int) → HOk l.prog w H s₁.heap → (∀ b, H b ≠ none → b = Pt ∨ (b = a ∧ (K w.params).lookup a = none)) →
      codeAny (model l.prog w) callerA (.call (.ref fa) ⟨[.ref a], []⟩) (fun r s' => r = .ok (.ret (.bool true)) ∧ OldK s₁.heap s'.heap ∧ s'.os = s₁.os ∧ AllBare s'.gens) s₁ := fun H hO hT hS hok only => by
    have free : ∀ {b : Addr} {ob : Obj}, s₁.heap.get? b = some ob → (b = a ∨ b = Pt → False) → H b = none := fun {b ob} e z => by
      cases hb : H b with
      | none => rfl
      | some u => exact ((only b (by rw [hb]; exact fun y => nomatch y)).elim (fun y => z (.inr y)) fun y => z (.inl y.1)).elim
    have ns' : ∀ {b : Addr} {m : Str → Option Value}, s₁.heap.Ns b m → (hidT s₁.heap H).Ns b m := fun {b m} h => by
      obtain ⟨ob, es, ep, e1, e2, e3⟩ := h
      exact ⟨ob, es, ep, hidT_get e1 (free e1 fun z => by
        rcases z with z | z
        · rw [z, hobj] at e1; cases e1; cases e2
        · rw [z, hPt] at e1; cases e1; cases e2), e2, e3⟩
    have kin : (K w.params).In (hidT s₁.heap H) := fun b ob e => hidT_get (KX b ob e) (by
      cases hb : H b with
      | none => rfl
      | some u =>
        rcases only b (by rw [hb]; exact fun y => nomatch y) with z | ⟨z, z0⟩
        · rw [z, hKP] at e; cases e
        · rw [z, z0] at e; cases e)
    have obs : ∀ {b : Addr} {ob : Obj}, s₁.heap.get? b = some ob → ob.cls ≠ .type "list" → ob.cls ≠ .none → (hidT s₁.heap H).get? b = some ob := fun {b ob} e n1 n2 => hidT_get e (free e fun z => by
        rcases z with z | z
        · rw [z, hobj] at e; cases e; exact n1 rfl
        · rw [z, hPt] at e; cases e; exact n2 rfl)
    have tb : LamX.TabB (hidT s₁.heap H) mg c Pt := by
      obtain ⟨og, es, ep, g1, g2, _⟩ := G.T.g
      obtain ⟨bm, ob, b1, b2, b3, b4, b5, b6⟩ := G.T.bmain
      obtain ⟨oc, vs', r1, r2, r3, r4, r5, r6, r7, e1, e2, e3⟩ := hcode
      refine ⟨⟨oc, vs', r1, r2, r3, r4, r5, r6, r7, obs e1 (by rw [e2]; exact fun z => nomatch z) (by rw [e2]; exact fun z => nomatch z), e2, e3⟩, ⟨bm, ob, b1, b2, ?_, ?_, obs b3 (by rw [b4]; exact fun z => by injection z with z; exact absurd z (by decide)) (by rw [b4]; exact fun z => nomatch z), b4, b5, b6⟩, ?_⟩
      · intro z; rw [z, g1] at b3; cases b3; rw [g2] at b6; cases b6
      · intro z; rw [z, hPt] at b3; cases b3; cases b6
      · intro z; rw [z, hPt] at g1; cases g1; cases g2
    have sys : ∃ o, (hidT s₁.heap H).get? sysModules = some o := by
      obtain ⟨mm, hm, _⟩ := (G.T.seer himp).mods
      obtain ⟨o, _, _, e, _⟩ := ns' hm
      exact ⟨o, e⟩
    have env : Env0 l.prog w (K w.params) mg (hidT s₁.heap H) callerA [] s₁ H :=
      ⟨rfl, ⟨kin, ns' G.T.g, ⟨mb, ns' G.T.b, G.T.builtins⟩, G.T.nolimit.imp fun _ h => ⟨ns' h.1, h.2⟩⟩, fun _ _ e => of_hidT e, Nat.le_of_eq (hidT_size _ _), trivial, fun _ hb => absurd hb (by simp [frs]), hok, .of_eq hg⟩
    refine codeAny_mono ((hF _ kin (ns' G.T.g) tb sys).run callerA [] s₁ H ⟨[.ref a], []⟩ [.ref a] [.ref a] _ _ rfl hr env (hbind s₁ (.ref a)) (.cons rfl .nil) (hsp _ H a Pt ns hlen hT hS)) fun r s' h => ?_
    match r, h with
    | .ok (.ret u), h =>
      obtain ⟨v, H', os, bare, un, hok', rv, qv⟩ := h
      have qv : v = .bl true := qv
      subst qv
      obtain rfl : u = Value.bool true := rv
      refine ⟨rfl, ⟨fun b ob e => ?_, fun b ob e => un.there b ob e (by simp)⟩, os, bare⟩
      rcases hO b with z | ⟨z, _⟩ | ⟨ob', xs, z⟩
      · exact .inl (un.keep b ob e z (by simp [frs]) (by simp))
      · subst z
        obtain ⟨more, hm⟩ := un.tbls b _ hT
        have h2 := hok' b _ hm
        rw [hPt] at e
        cases e
        exact .inr (.inl ⟨let ⟨o, vs, _, _, _, _, _, _, _, e1, e2, e3, e4, _⟩ := hcode; ⟨c, o, vs, e1, e2, e3, e4⟩, rfl, #[], more, rfl, h2⟩)
      · have h1 := (hok b _ z).1
        have h2 := (hok' b _ (un.frzs b ob' _ z)).1
        rw [e] at h1
        cases h1
        exact .inl h2
    | .error _, h => exact h.elim
    | .ok .next, h => exact h.elim
    | .ok .brk, h => exact h.elim
    | .ok .cont, h => exact h.elim
  have lenV := hints.length
  cases hk : (K w.params).lookup a with
  | some ob =>
    have e := KX a ob hk
    rw [hobj] at e
    cases e
    refine main (fun b => if b = Pt then some (.tbl #[]) else none) (fun b => ?_) (if_pos rfl) ⟨vs, rel, hl1, .inl hk⟩ (fun b u z => ?_) fun b z => ?_
    all_goals try dsimp only at z
    · by_cases hb : b = Pt
      · exact .inr (.inl ⟨hb, if_pos hb⟩)
      · exact .inl (if_neg hb)
    · by_cases hb : b = Pt
      · rw [if_pos hb] at z
        cases z
        rw [hb]
        exact hPt
      · rw [if_neg hb] at z; cases z
    · by_cases hb : b = Pt
      · exact .inl hb
      · rw [if_neg hb] at z; exact absurd rfl z
  | none =>
    refine main (fun b => if b = Pt then some (.tbl #[]) else if b = a then some (.frz { cls := .type "list", data := .seq vs.toArray } (.lst (ns.map V.int))) else none) (fun b => ?_) (if_pos rfl) ⟨vs, rel, hl1, .inr (show (if a = Pt then some (HO.tbl #[]) else if a = a then _ else none) = _ by rw [if_neg naP, if_pos rfl])⟩ (fun b u z => ?_) fun b z => ?_
    all_goals try dsimp only at z
    · by_cases hb : b = Pt
      · exact .inr (.inl ⟨hb, if_pos hb⟩)
      · by_cases hb2 : b = a
        · exact .inr (.inr ⟨_, _, by dsimp only; rw [if_neg hb, if_pos hb2]⟩)
        · exact .inl (by dsimp only; rw [if_neg hb, if_neg hb2])
    · by_cases hb : b = Pt
      · rw [if_pos hb] at z
        cases z
        rw [hb]
        exact hPt
      · rw [if_neg hb] at z
        by_cases hb2 : b = a
        · rw [if_pos hb2] at z
          cases z
          subst hb2
          exact ⟨hobj, by rw [List.length_map]; exact hl, vs, _, rel, hobj⟩
        · rw [if_neg hb2] at z; cases z
    · by_cases hb : b = Pt
      · exact .inl hb
      · rw [if_neg hb] at z
        by_cases hb2 : b = a
        · exact .inr ⟨hb2, hk⟩
        · rw [if_neg hb2] at z; exact absurd rfl z
end TP

namespace TP
open PySem PySem.Spec PyProof.Rows L2
/-- as walk_G, and sys.modules stands in the base -/
theorem walk_GS {l : PySem.W.OpenLaw} {n k : Nat} {q : Program} {loose : List Str} {XP : (Str → Option Value) → Heap → Prop} {YP : World → Heap → Prop} {d : DefRec} {K : Params → PySem.W.Frag} {sp : PySem.W.Frag → Sp} {x : Str}
    (himp : importsNone q = true) (hn : l.most = some n) (hn2 : n ≤ 1000) (hdf : d.params.defaults = []) (hr : Room k callerA) (hY : ∀ (w : World) (h : Heap), YP w h → (K w.params).In h)
    (F : ∀ (w : World) (mg : Str → Option Value) (fa : Addr) (h : Heap), (K w.params).In h → h.Ns mainGlobals mg → mg d.name = some (.ref fa) →
      ∃ fd : FuncData, (∀ (s : Shared) (u : Value), BindsTo s fd ⟨[u], []⟩ [(x, u)]) ∧
        ∀ base : Heap, (K w.params).In base → base.Ns mainGlobals mg → (∃ o, base.get? sysModules = some o) → FnOkG l.prog w (K w.params) mg base CX0 k fa fd [x] (sp (K w.params)))
    (hsp : ∀ (K : PySem.W.Frag) (H : Hp) (a : Addr) (ns : List Int), ns.length ≤ n → Only H → ScrAt K H a (ns.map V.int) → sp K [.ref a] H (fun v _ => v = .bl true) fun _ _ _ => False) :
    PySem.W.WalkO q loose XP YP l.row.toRowW d [] (fun f vs => PySem.call f vs) := by
  refine Att.attach_call hn hdf fun w s₀ s₁ mg mb fa o pm cd doc a vs ns G Y ho hd hcd hmg hobj hints hlen hg => ?_
  have KX := hY w _ Y
  obtain ⟨fd, hbind, hF⟩ := F w mg fa _ KX G.T.g hmg
  have hl1 : (ns.map V.int).length ≤ 1000 := by rw [List.length_map]; exact Nat.le_trans hlen hn2
  have hl : ns.length ≤ sizeLine := Nat.le_trans (Nat.le_trans hlen hn2) (by decide)
  have rel := vals_ints hints
  -- what may be tracked at the entry: the script's list, if the module does not own it
  have main : ∀ H : Hp, Only H → ScrAt (K w.params) H a (ns.map V.int) → HOk l.prog w H s₁.heap → (∀ b, H b ≠ none → b = a ∧ (K w.params).lookup a = none) →
      codeAny (model l.prog w) callerA (.call (.ref fa) ⟨[.ref a], []⟩) (fun r s' => r = .ok (.ret (.bool true)) ∧ OldK s₁.heap s'.heap ∧ s'.os = s₁.os ∧ AllBare s'.gens) s₁ := fun H hO hS hok only => by
    have free : ∀ {b : Addr} {ob : Obj}, s₁.heap.get? b = some ob → (b = a → ∃ es ep, ob.data = .dict es ep) → H b = none := fun {b ob} e z => by
      cases hb : H b with
      | none => rfl
      | some u =>
        have eb := (only b (by rw [hb]; exact fun y => nomatch y)).1
        obtain ⟨es, ep, dz⟩ := z eb
        rw [eb, hobj] at e
        cases e
        exact nomatch dz
    have ns' : ∀ {b : Addr} {m : Str → Option Value}, s₁.heap.Ns b m → (hidT s₁.heap H).Ns b m := fun {b m} h => by
      obtain ⟨ob, es, ep, e1, e2, e3⟩ := h
      exact ⟨ob, es, ep, hidT_get e1 (free e1 fun _ => ⟨es, ep, e2⟩), e2, e3⟩
    have kin : (K w.params).In (hidT s₁.heap H) := fun b ob e => hidT_get (KX b ob e) (by
      cases hb : H b with
      | none => rfl
      | some u =>
        obtain ⟨eb, e0⟩ := only b (by rw [hb]; exact fun y => nomatch y)
        rw [eb, e0] at e
        cases e)
    have sys : ∃ o, (hidT s₁.heap H).get? sysModules = some o := by
      obtain ⟨mm, hm, _⟩ := (G.T.seer himp).mods
      obtain ⟨o, _, _, e, _⟩ := ns' hm
      exact ⟨o, e⟩
    have env : Env0 l.prog w (K w.params) mg (hidT s₁.heap H) callerA [] s₁ H :=
      ⟨rfl, ⟨kin, ns' G.T.g, ⟨mb, ns' G.T.b, G.T.builtins⟩, G.T.nolimit.imp fun _ h => ⟨ns' h.1, h.2⟩⟩, fun _ _ e => of_hidT e, Nat.le_of_eq (hidT_size _ _), trivial, fun _ hb => absurd hb (by simp [frs]), hok, .of_eq hg⟩
    refine codeAny_mono ((hF _ kin (ns' G.T.g) sys).run callerA [] s₁ H ⟨[.ref a], []⟩ [.ref a] [.ref a] _ _ rfl hr env (hbind s₁ (.ref a)) (.cons rfl .nil) (hsp _ H a ns hlen hO hS)) fun r s' h => ?_
    match r, h with
    | .ok (.ret u), h =>
      obtain ⟨v, H', os, bare, un, hok', rv, qv⟩ := h
      have qv : v = .bl true := qv
      subst qv
      obtain rfl : u = Value.bool true := rv
      refine ⟨rfl, OldK.of_keep fun b ob e => ?_, os, bare⟩
      rcases hO b with z | ⟨ob', xs, z⟩
      · exact un.keep b ob e z (by simp [frs]) (by simp)
      · have h1 := (hok b _ z).1
        have h2 := (hok' b _ (un.frzs b ob' _ z)).1
        rw [e] at h1
        cases h1
        exact h2
    | .error _, h => exact h.elim
    | .ok .next, h => exact h.elim
    | .ok .brk, h => exact h.elim
    | .ok .cont, h => exact h.elim
  have lenV := hints.length
  cases hk : (K w.params).lookup a with
  | some ob =>
    have e := KX a ob hk
    rw [hobj] at e
    cases e
    exact main (fun _ => none) (fun _ => .inl rfl) ⟨vs, rel, hl1, .inl hk⟩ (fun _ _ z => nomatch z) fun _ z => absurd rfl z
  | none =>
    have one : ∀ {b : Addr} {u : HO}, (if b = a then some (HO.frz { cls := .type "list", data := .seq vs.toArray } (.lst (ns.map V.int))) else none) = some u → b = a ∧ u = .frz { cls := .type "list", data := .seq vs.toArray } (.lst (ns.map V.int)) := fun {b u} z => by
      by_cases hb : b = a
      · rw [if_pos hb] at z
        exact ⟨hb, (Option.some.inj z).symm⟩
      · rw [if_neg hb] at z
        cases z
    refine main (fun b => if b = a then some (.frz { cls := .type "list", data := .seq vs.toArray } (.lst (ns.map V.int))) else none) (fun b => ?_) ⟨vs, rel, hl1, .inr (if_pos rfl)⟩ (fun b u z => ?_) fun b z => ?_
    · by_cases hb : b = a
      · exact .inr ⟨_, _, if_pos hb⟩
      · exact .inl (if_neg hb)
    · obtain ⟨rfl, rfl⟩ := one z
      exact ⟨hobj, by rw [List.length_map]; exact hl, vs, _, rel, hobj⟩
    · obtain ⟨u, hu⟩ := Option.ne_none_iff_exists'.mp z
      exact ⟨(one hu).1, hk⟩
end TP

namespace TP
open PySem PySem.Spec PyProof.Rows L2
/-! ### new lists away from one address -/
section
variable {X : Cx} {es : List Expr} {t : TA} {pos : Pos}
def tLstS (t : TA) : TE := fun σ H Q => t σ H fun xs H1 => xs.length ≤ sizeLine ∧ ∀ p, H1 p = none → p ≠ sysModules → Q (.ref p) (upd H1 p (.lst xs))
theorem pe_lstS (h : PA X es t) : PE X (.List es pos) (tLstS t) := by
  refine ⟨fun pins s σ H Q I hq => wpAny_List_spliced (thn (h.run pos pins s σ H _ I hq) fun us s1 ⟨xs, H1, I1, r, z, q⟩ => ⟨by rw [← r.length]; exact z, ?_⟩)⟩
  exact ⟨.ref s1.heap.objs.size, upd H1 s1.heap.objs.size (.lst xs), I1.laid (t' := s1.toks) (fun b u e => Heap.get?_push_of_some _ e) (Nat.le_refl _) ⟨z, us, 0, r, Heap.get?_push_size _ rfl⟩, rfl, q _ (I1.hok.fresh (Nat.le_refl _)) (Nat.ne_of_gt I1.big)⟩
end
/-! ### data, dicts among it, as the heap holds it -/
mutual
inductive Pd (H : Hp) : V → PyData → Prop
  | non : Pd H .non .none
  | int (i : Int) : Pd H (.int i) (.int i)
  | str (x : Str) : Pd H (.str x) (.str x)
  | bl (b : Bool) : Pd H (.bl b) (.bool b)
  | lst {a : Addr} {xs : List V} {ds : List PyData} : a ≠ sysModules → Rd H a (.lst xs) → PdAll H xs ds → Pd H (.ref a) (.list ds)
  | tup {a : Addr} {xs : List V} {ds : List PyData} : Rd H a (.tup xs) → PdAll H xs ds → Pd H (.ref a) (.tuple ds)
  | dct {a : Addr} {ms : List (Str × V)} {ds : List PyData} : Rd H a (.dK (kvsOf ms)) → PdAll H (ms.map (·.2)) ds → Pd H (.ref a) (.dict ((ms.map fun p => PyData.str p.1).zip ds))
inductive PdAll (H : Hp) : List V → List PyData → Prop
  | nil : PdAll H [] []
  | cons {v : V} {vs : List V} {d : PyData} {ds : List PyData} : Pd H v d → PdAll H vs ds → PdAll H (v :: vs) (d :: ds)
end
theorem PdAll.length {H : Hp} : ∀ {vs : List V} {ds : List PyData}, PdAll H vs ds → vs.length = ds.length
  | _, _, .nil => rfl
  | _, _, .cons _ h => congrArg Nat.succ h.length
mutual
theorem Pd.ex [TabL] {H H' : Hp} (e : Ex H H') : ∀ {v : V} {d : PyData}, Pd H v d → Pd H' v d
  | _, _, .non => .non
  | _, _, .int i => .int i
  | _, _, .str x => .str x
  | _, _, .bl b => .bl b
  | _, _, .lst n r h => .lst n (ex_rd e r) (PdAll.ex e h)
  | _, _, .tup r h => .tup (ex_rd e r) (PdAll.ex e h)
  | _, _, .dct r h => .dct (ex_rd e r) (PdAll.ex e h)
theorem PdAll.ex [TabL] {H H' : Hp} (e : Ex H H') : ∀ {vs : List V} {ds : List PyData}, PdAll H vs ds → PdAll H' vs ds
  | _, _, .nil => .nil
  | _, _, .cons h k => .cons (Pd.ex e h) (PdAll.ex e k)
end
theorem reads_keys {P : Program} {w : World} {h : Heap} : ∀ {es : List DictEntry} {ms : List (Str × V)} {vs : List (Key × Value)}, Pairs (mixKind P w) es vs → KV (kvsOf ms) vs →
    ReadsAll h (es.map (·.key)) (ms.map fun p => PyData.str p.1) [] ∧ Vals (ms.map (·.2)) (es.map (·.val))
  | _, [], _, p, k => by
    cases k
    cases p
    exact ⟨.nil, .nil⟩
  | _, m :: ms, _, p, k => by
    cases k with
    | @cons _ q _ qs hk ht =>
      cases p with
      | @cons e _ es _ h1 h2 h3 =>
        obtain ⟨r1, r2⟩ := reads_keys (h := h) h3 ht
        obtain ⟨e1, e2⟩ := hk
        have h1' : keyIs (Sum.inr m.1) e.key = true := by rw [← e1] at h1; exact h1
        rcases keyIs_shape h1' with ⟨i, t, z, _⟩ | ⟨x, t, z, ek⟩
        · cases z
        · have z' : m.1 = x := Sum.inr.inj z
          refine ⟨?_, .cons (by show L2.RelV m.2 e.val; rw [h2]; exact e2) r2⟩
          show ReadsAll h (e.key :: _) (PyData.str m.1 :: _) ([] ++ [])
          rw [ek, z']
          exact .cons (.str _ _) r1
mutual
theorem Pd.reads {X : Cx} {pins : List (Addr × Obj)} {σ : L2.St} {H : Hp} {s : Shared} (I : Inv X pins σ H s) : ∀ {v : V} {d : PyData} {u : Value}, Pd H v d → RelV v u → ∃ as, Reads s.heap u d as ∧ sysModules ∉ as
  | _, _, _, .non, r => by cases (show _ = Value.none from r); exact ⟨_, .none, by simp⟩
  | _, _, _, .int i, r => by obtain ⟨t, e⟩ := (show ∃ t, _ = Value.int i t from r); cases e; exact ⟨_, .int i t, by simp⟩
  | _, _, _, .str x, r => by obtain ⟨t, e⟩ := (show ∃ t, _ = Value.str x t from r); cases e; exact ⟨_, .str x t, by simp⟩
  | _, _, _, .bl b, r => by cases (show _ = Value.bool b from r); exact ⟨_, .bool b, by simp⟩
  | _, _, _, @Pd.lst _ a xs ds n rd h, r => by
    cases (show _ = Value.ref a from r)
    obtain ⟨_, its, m, rv, e⟩ := (show ObjOk X.prog X.w H s.heap a (.lst xs) from rd.ok I.hok)
    obtain ⟨as, q, ns⟩ := PdAll.reads I h rv
    exact ⟨_, Reads.list (vs := its.toArray) e rfl rfl (by simpa using q), by simp [ns, n.symm]⟩
  | _, _, _, @Pd.tup _ a xs ds rd h, r => by
    cases (show _ = Value.ref a from r)
    obtain ⟨_, its, rv, o, e1, e2, m, e3⟩ := (show ObjOk X.prog X.w H s.heap a (.tup xs) from rd.ok I.hok)
    obtain ⟨as, q, ns⟩ := PdAll.reads I h rv
    exact ⟨_, Reads.tuple (vs := its.toArray) e1 e2 e3 (by simpa using q), ns⟩
  | _, _, _, @Pd.dct _ a ms ds rd h, r => by
    cases (show _ = Value.ref a from r)
    obtain ⟨_, hs, vs, kv, o, es, ep, e1, e2, e3, _, pr, _⟩ := (show ObjOk X.prog X.w H s.heap a (.dK (kvsOf ms)) from rd.ok I.hok)
    obtain ⟨r1, rv⟩ := reads_keys (h := s.heap) pr kv
    obtain ⟨as, q, ns⟩ := PdAll.reads I h rv
    have hl := h.length
    have k1 : ((ms.map fun p => PyData.str p.1).zip ds).map (·.1) = ms.map fun p => PyData.str p.1 := by
      rw [List.map_fst_zip]
      rw [List.length_map] at hl
      rw [List.length_map]; omega
    have k2 : ((ms.map fun p => PyData.str p.1).zip ds).map (·.2) = ds := by
      rw [List.map_snd_zip]
      rw [List.length_map] at hl
      rw [List.length_map]; omega
    have hne : sysModules ≠ a := fun z => by rw [← z] at hs; simp at hs
    exact ⟨_, Reads.dict (as := []) (bs := as) e1 e2.1 e3 (by rw [k1]; exact r1) (by rw [k2]; exact q), by simp [ns, hne]⟩
theorem PdAll.reads {X : Cx} {pins : List (Addr × Obj)} {σ : L2.St} {H : Hp} {s : Shared} (I : Inv X pins σ H s) : ∀ {vs : List V} {ds : List PyData} {us : List Value}, PdAll H vs ds → Vals vs us → ∃ as, ReadsAll s.heap us ds as ∧ sysModules ∉ as
  | _, _, _, .nil, r => by cases r; exact ⟨_, .nil, by simp⟩
  | _, _, _, .cons h k, r => by
    cases r with
    | cons r1 r2 =>
      obtain ⟨as, q1, n1⟩ := Pd.reads I h r1
      obtain ⟨bs, q2, n2⟩ := PdAll.reads I k r2
      exact ⟨_, .cons q1 q2, by simp [n1, n2]⟩
end
/-- repr(x) -/
def rRepr : List V → Hp → VK → Prop := fun xs H Q => ∃ x d, xs = [x] ∧ Pd H x d ∧ d.showable = true ∧ d.shown.length ≤ sizeLine ∧ d.depth ≤ 40 ∧ Q (.str d.shown) H
section
variable {X : Cx}
theorem call_reprD (hg : X.A.guards = some []) (hu : X.A.units + 64 < cLine) : CallR X (.builtin "repr") rRepr := by
  intro pins s σ H xs us Q I r h
  obtain ⟨x, d, rfl, hp, hs, hz, hd, q⟩ := h
  obtain ⟨u, rfl, r1⟩ := vals1 r
  obtain ⟨as, rd, ns⟩ := hp.reads I r1
  cases hp with
  | non =>
    cases (show _ = Value.none from r1)
    exact PySem.P.repr_of_none ⟨.str _, H, I.tok _, ⟨_, rfl⟩, by simpa only [PyData.shown] using q⟩
  | int i =>
    obtain ⟨t, e⟩ := (show ∃ t, _ = Value.int i t from r1)
    cases e
    exact PySem.P.repr_of_int (by simpa [PyData.showable] using hs) ⟨.str _, H, I.tok _, ⟨_, rfl⟩, by simpa only [PyData.shown] using q⟩
  | str y =>
    obtain ⟨t, e⟩ := (show ∃ t, _ = Value.str y t from r1)
    cases e
    exact PySem.P.repr_of_str ⟨.str _, H, I.tok _, ⟨_, rfl⟩, by simpa only [PyData.shown] using q⟩ (by simpa only [PyData.shown] using hz)
  | bl b =>
    cases (show _ = Value.bool b from r1)
    exact PySem.P.repr_of_bool ⟨.str _, H, I.tok _, ⟨_, rfl⟩, by simpa only [PyData.shown] using q⟩
  | lst n rdd al =>
    cases (show _ = Value.ref _ from r1)
    exact repr_of_reads' rd hs (fun _ => ns) hg (by omega) (fun _ _ e => e) (fun h' u tk hk => ⟨.str _, H, I.kept (t' := tk) hk, ⟨_, rfl⟩, q⟩) hz
  | tup rdd al =>
    cases (show _ = Value.ref _ from r1)
    exact repr_of_reads' rd hs (fun _ => ns) hg (by omega) (fun _ _ e => e) (fun h' u tk hk => ⟨.str _, H, I.kept (t' := tk) hk, ⟨_, rfl⟩, q⟩) hz
  | dct rdd al =>
    cases (show _ = Value.ref _ from r1)
    exact repr_of_reads' rd hs (fun _ => ns) hg (by omega) (fun _ _ e => e) (fun h' u tk hk => ⟨.str _, H, I.kept (t' := tk) hk, ⟨_, rfl⟩, q⟩) hz
end
/-! ### documents compared -/
theorem flat_sc {v : V} (z : isSc v = true) : flatB v = true := by cases v <;> first | rfl | cases z
theorem scal_sc {v : V} (z : isSc v = true) : scal v v = true := by cases v <;> first | rfl | cases z
theorem ob_keys {S S' : Addr → Prop} {G G' : Gen} {H : Hp} {n m : Nat} {ms ms' : List (Str × V)} {f : Str → D} (h : Mem S G H n ms f) (h' : Mem S' G' H m ms' f) : ms.length = ms'.length ∧ ∀ p ∈ kvsOf ms, ∃ u, valV (kvsOf ms') p.1 = some u ∧ ∃ d, Dc S G H n p.2 d ∧ Dc S' G' H m u d := by
  have look : ∀ k ∈ ms.map (·.1), ∃ u w, valV ms k = some u ∧ valV ms' k = some w := fun k hk => by
    obtain ⟨u, hu⟩ := valV_some_of hk
    cases hv : valV ms' k with
    | some w => exact ⟨u, w, hu, rfl⟩
    | none =>
      have z := (h.at' k u hu).ne_nil
      rw [h'.no k hv] at z
      cases z
  have look' : ∀ k ∈ ms'.map (·.1), k ∈ ms.map (·.1) := fun k hk => by
    obtain ⟨u, hu⟩ := valV_some_of hk
    cases hv : valV ms k with
    | some w => exact List.mem_map.mpr ⟨_, valV_mem hv, rfl⟩
    | none =>
      have z := (h'.at' k u hu).ne_nil
      rw [h.no k hv] at z
      cases z
  have l1 := sub_len h.nd fun k hk => by
    obtain ⟨_, w, _, hw⟩ := look k hk
    exact (List.mem_map.mpr ⟨_, valV_mem hw, rfl⟩ : k ∈ ms'.map (·.1))
  have l2 := sub_len h'.nd look'
  rw [List.length_map, List.length_map] at l1 l2
  refine ⟨by omega, fun p hp => ?_⟩
  obtain ⟨⟨k, u⟩, hq, e⟩ := List.mem_map.mp hp
  subst e
  obtain ⟨u', w, hu, hw⟩ := look k (List.mem_map.mpr ⟨_, hq, rfl⟩)
  rw [valV_of_mem h.nd hq] at hu
  cases hu
  exact ⟨w, by rw [valV_inK]; exact hw, _, h.at' k u (valV_of_mem h.nd hq), h'.at' k w hw⟩
theorem items_at {C : V → Bool} (sc : ∀ v, C v = true → isSc v = true) {A : Around} {s : Shared} : ∀ {zs : List V} {us ws : List Value}, (∀ z ∈ zs, C z = true) → Vals zs us → Vals zs ws → ∀ j (h1 : j < us.length) (h2 : j < ws.length), SeqAt.EqAt A s us[j] ws[j] true
  | [], _, _, _, r, _, j, h1, _ => by cases r; exact absurd h1 (Nat.not_lt_zero j)
  | z :: zs, _, _, hz, .cons r rs, .cons r' rs', 0, _, _ => eqAt_same r r' (flat_sc (sc z (hz z List.mem_cons_self)))
  | z :: zs, _, _, hz, .cons r rs, .cons r' rs', j + 1, h1, h2 => items_at sc (fun w hw => hz w (List.mem_cons_of_mem _ hw)) rs rs' j (Nat.lt_of_succ_lt_succ h1) (Nat.lt_of_succ_lt_succ h2)
section
variable {X : Cx} {pins : List (Addr × Obj)} {σ : L2.St} {H : Hp} {s : Shared}
theorem items_same (I : Inv X pins σ H s) {C : V → Bool} (sc : ∀ v, C v = true → isSc v = true) {A : Around} : ∀ {zs : List V} {us ws : List Value}, (∀ z ∈ zs, C z = true) → Vals zs us → Vals zs ws → ∀ j (h1 : j < us.length) (h2 : j < ws.length), SeqAt.EqP X.prog X.w A s us[j] ws[j] true
  | [], _, _, _, r, _, j, h1, _ => by cases r; exact absurd h1 (Nat.not_lt_zero j)
  | z :: zs, _, _, hz, .cons r rs, .cons r' rs', 0, _, _ => (eqAt_same r r' (flat_sc (sc z (hz z List.mem_cons_self)))).eqP
  | z :: zs, _, _, hz, .cons r rs, .cons r' rs', j + 1, h1, h2 => items_same I sc (fun w hw => hz w (List.mem_cons_of_mem _ hw)) rs rs' j (Nat.lt_of_succ_lt_succ h1) (Nat.lt_of_succ_lt_succ h2)
/-- two objects that stand for one document -/
theorem docs_rc (I : Inv X pins σ H s) {S S' : Addr → Prop} {G G' : Gen} {n m : Nat} {a b : Addr} {d : D} (ih : ∀ (A : Around) (x y : V) (e : D) (v u : Value), A.units + n < cLine → Dc S G H n x e → Dc S' G' H m y e → RelV x v → RelV y u → SeqAt.EqP X.prog X.w A s v u true)
    {A : Around} (hu : A.units + (n + 1) < cLine) (h : Dc S G H (n + 1) (.ref a) d) (h' : Dc S' G' H (m + 1) (.ref b) d) (E Q : Value → Shared → Prop) (q : Q (.bool true) s) : wpAny (model X.prog X.w) A (richCompare .Eq (.ref a) (.ref b)) Q E s := by
  rcases h with ⟨hx, rfl⟩ | ⟨a', xs, e1, s1, r, hx, rfl⟩ | ⟨a', ms, f, e1, s1, r, nd, ks, rfl, no, at'⟩
  · exact nomatch G.sc _ hx
  · cases e1
    rcases h' with ⟨hy, e⟩ | ⟨b', ys, e2, s', r', hy, e⟩ | ⟨b', ms', f', e2, s', r', nd', ks', e, no', at''⟩
    · cases e
    · cases e2
      injection e with e
      subst e
      obtain ⟨us, r1, p1, _⟩ := I.list (.inl (.inl r))
      obtain ⟨ws, r2, p2, _⟩ := I.list (.inl (.inl r'))
      refine SeqAt.rcP_lists (e := fun _ => true) p1.isList p2.isList (by rw [List.size_toArray, List.size_toArray, ← r1.length, ← r2.length]) (by omega) (fun j h1 h2 => ?_) E Q ?_
      · simpa using items_same I G.sc (A := A.in1) hx.2 r1 r2 j (by simpa using h1) (by simpa using h2)
      · rw [show ((List.range us.toArray.size).all fun _ => true) = true from List.all_eq_true.mpr fun _ _ => rfl]
        exact q
    · cases e
  · cases e1
    rcases h' with ⟨hy, e⟩ | ⟨b', ys, e2, s', r', hy, e⟩ | ⟨b', ms', f', e2, s', r', nd', ks', e, no', at''⟩
    · cases e
    · cases e
    · cases e2
      injection e with e
      subst e
      obtain ⟨_, ya, va, ra, da⟩ := dk_rd I.hok (.inl r)
      obtain ⟨_, yb, vb, rb, db⟩ := dk_rd I.hok (.inl r')
      obtain ⟨hl, hp⟩ := ob_keys (Mem.mk nd ks no at') (Mem.mk nd' ks' no' at'')
      refine PySem.W.rcP_dicts (knd := mixKind X.prog X.w) (r := true) ya yb da db (by omega) (fun _ => hits_run (F := fun x y => ∃ e, Dc S G H n x e ∧ Dc S' G' H m y e) (fun x y v u z rx ry => ?_) rb ra hp) E Q ?_
      · obtain ⟨e, z1, z2⟩ := z
        exact ih _ _ _ _ _ _ (show A.units + 1 + n < cLine by omega) z1 z2 rx ry
      · have e : va.length = vb.length := by rw [← ra.length, ← rb.length, List.length_map, List.length_map]; exact hl
        rw [show (va.length == vb.length && true) = true from by rw [e]; simp]
        exact q
theorem docs_eq (I : Inv X pins σ H s) {S S' : Addr → Prop} {G G' : Gen} : ∀ (n m : Nat) (A : Around) (x y : V) (d : D) (v u : Value), A.units + n < cLine → Dc S G H n x d → Dc S' G' H m y d → RelV x v → RelV y u → SeqAt.EqP X.prog X.w A s v u true
  | 0, _, _, _, _, _, _, _, _, h, _, _, _ => (show False from h).elim
  | _ + 1, 0, _, _, _, _, _, _, _, _, h, _, _ => (show False from h).elim
  | n + 1, m + 1, A, x, y, d, v, u, hu, h, h', rx, ry => by
    by_cases hs : ∃ z, d = .sc z
    · obtain ⟨z, rfl⟩ := hs
      have hx : G.C x = true ∧ x = z := by
        rcases h with ⟨hx, e⟩ | ⟨a, xs, _, _, _, _, e⟩ | ⟨a, ms, f, _, _, _, _, _, e, _⟩
        · injection e with e; exact ⟨hx, e.symm⟩
        · cases e
        · cases e
      have hy : y = z := by
        rcases h' with ⟨_, e⟩ | ⟨a, xs, _, _, _, _, e⟩ | ⟨a, ms, f, _, _, _, _, _, e, _⟩
        · injection e with e; exact e.symm
        · cases e
        · cases e
      rw [hy, ← hx.2] at ry
      exact (eqAt_same rx ry (flat_sc (G.sc _ hx.1))).eqP
    · have ref : ∀ {S : Addr → Prop} {G : Gen} {k : Nat} {x : V}, Dc S G H k x d → ∃ a, x = .ref a := fun {S G k x} z => by
        refine z.cases (fun _ _ _ e => absurd ⟨_, e⟩ hs) (fun _ a _ _ e _ _ _ _ => ⟨a, e⟩) (fun _ a _ _ _ e _ _ _ _ => ⟨a, e⟩)
      obtain ⟨a, rfl⟩ := ref h
      obtain ⟨b, rfl⟩ := ref h'
      cases (show v = Value.ref a from rx)
      cases (show u = Value.ref b from ry)
      by_cases e : a = b
      · subst e
        exact (SeqAt.EqAt.same _).eqP
      · exact SeqAt.eqP_refs e (docs_rc I (fun A x y e v u hu => docs_eq I n m A x y e v u hu) hu h h')
/-- != of two documents that are equal -/
def rNeDoc : R2 := fun x y H Q => ∃ (S S' : Addr → Prop) (G G' : Gen) (n m : Nat) (d : D), n ≤ 40 ∧ Dc S G H n x d ∧ Dc S' G' H m y d ∧ Q (.bl false) H
theorem op_neDoc (hu : X.A.units + 64 < cLine) : OpR X (compareOp .NotEq) rNeDoc := by
  intro pins s σ H x y v u Q I rx ry h
  obtain ⟨S, S', G, G', n, m, d, hn, h, h', q⟩ := h
  cases n with
  | zero => exact (show False from h).elim
  | succ n =>
  cases m with
  | zero => exact (show False from h').elim
  | succ m =>
    rcases id h with ⟨hx, rfl⟩ | ⟨a, xs, rfl, s1, r, hx, rfl⟩ | ⟨a, ms, f, rfl, s1, r, nd, ks, rfl, no, at'⟩
    · rcases h' with ⟨hy, e⟩ | ⟨b, ys, rfl, s', r', hy, e⟩ | ⟨b, ms', f', rfl, s', r', nd', ks', e, no', at''⟩
      · injection e with e
        subst e
        exact op_ne pins s σ H x x v u Q I rx ry ⟨scal_sc (G.sc _ hx), by simpa using q⟩
      · cases e
      · cases e
    · rcases h' with ⟨hy, e⟩ | ⟨b, ys, rfl, s', r', hy, e⟩ | ⟨b, ms', f', rfl, s', r', nd', ks', e, no', at''⟩
      · cases e
      · injection e with e
        subst e
        cases (show v = Value.ref a from rx)
        cases (show u = Value.ref b from ry)
        obtain ⟨us, r1, p1, _⟩ := I.list (.inl (.inl r))
        obtain ⟨ws, r2, p2, _⟩ := I.list (.inl (.inl r'))
        refine SeqAt.RcNeAt.lists (e := fun _ => true) p1.isList p2.isList (by rw [List.size_toArray, List.size_toArray, ← r1.length, ← r2.length]) (by omega) (fun j h1 h2 => ?_) _ _ _ _ ?_
        · simpa using items_at G.sc (A := X.A.in1) (s := s) hx.2 r1 r2 j (by simpa using h1) (by simpa using h2)
        · rw [show ((List.range us.toArray.size).all fun _ => true) = true from List.all_eq_true.mpr fun _ _ => rfl]
          exact ⟨.bl false, H, I, rfl, q⟩
      · cases e
    · rcases h' with ⟨hy, e⟩ | ⟨b, ys, rfl, s', r', hy, e⟩ | ⟨b, ms', f', rfl, s', r', nd', ks', e, no', at''⟩
      · cases e
      · cases e
      · injection e with e
        subst e
        cases (show v = Value.ref a from rx)
        cases (show u = Value.ref b from ry)
        obtain ⟨_, ya, va, ra, da⟩ := dk_rd I.hok (.inl r)
        obtain ⟨_, yb, vb, rb, db⟩ := dk_rd I.hok (.inl r')
        obtain ⟨hl, hp⟩ := ob_keys (Mem.mk nd ks no at') (Mem.mk nd' ks' no' at'')
        have e : va.length = vb.length := by rw [← ra.length, ← rb.length, List.length_map, List.length_map]; exact hl
        refine wpAny_richCompare_same_room (op := .NotEq) da.typeIs db.typeIs PySem.F.slot_dict_ne (wpAny_call_entry PySem.F.slot_dict_ne da.typeIs PySem.F.entry_dict_ne ?_ (PySem.F.args_dict_ne_2 _ _)) (by omega)
        refine wpAny_bind ?_
        unfold Builtin.Dict.dictSlotArgs
        refine wpAny_bind (wpAny_notOrdered_dict da.typeIs (wpAny_pure (wpAny_bind (wpAny_isInstance (T := "dict") db.typeIs PySem.F.sub_dict_dict ?_))))
        simp only [Bool.not_true, Bool.false_eq_true, if_false]
        refine wpAny_bind (wpAny_pure (wpAny_bind (wpAny_pure (wpAny_bind (PySem.W.samePairsP (r := true) ya yb da db (fun _ => hits_run (F := fun x y => ∃ e, Dc S G H n x e ∧ Dc S' G' H m y e) (fun x y v u z rx ry => ?_) rb ra hp) ?_)))))
        · obtain ⟨e, z1, z2⟩ := z
          exact docs_eq I n m _ _ _ _ _ _ (show X.A.units + 1 + n < cLine by omega) z1 z2 rx ry
        · refine wpAny_pure ⟨_, rfl, (fun x => nomatch x), ?_⟩
          exact ⟨.bl false, H, I, by rw [e]; simp [L2.RelV], q⟩
end
/-! ### max(xs, default=d) of whole numbers -/
section
variable {X : Cx}
def rMaxDef (K : PySem.W.Frag) : List V → List V → Hp → VK → Prop := fun vs zs H Q => ∃ (a : Addr) (ns : List Int) (d : Int), vs = [V.ref a] ∧ zs = [.int d] ∧ SqL K H a (ns.map V.int) ∧
  (ns = [] → Q (.int d) H) ∧ ∀ z ∈ ns, (∀ y ∈ ns, y ≤ z) → Q (.int z) H
theorem int_holds {h : Heap} : ∀ {ns : List Int} {us : List Value}, Vals (ns.map V.int) us → PySem.W.HoldAll h us ns
  | [], _, r => by cases r; exact .nil
  | n :: ns, _, r => by
    cases r with
    | cons r rs =>
      obtain ⟨t, e⟩ := (show ∃ t, _ = Value.int n t from r)
      subst e
      exact .cons ⟨_, .int n t⟩ (int_holds rs)
theorem maxOf_spec : ∀ (ns : List Int) (n : Int), PySem.W.maxOf n ns ∈ n :: ns ∧ ∀ y ∈ n :: ns, y ≤ PySem.W.maxOf n ns
  | [], n => ⟨List.mem_cons_self, fun y hy => by rw [List.mem_singleton.mp hy]; exact Int.le_refl _⟩
  | m :: ns, n => by
    show (PySem.W.maxOf (if PySem.W.DatumOrd.lt n m = true then m else n) ns) ∈ _ ∧ ∀ y ∈ _, y ≤ PySem.W.maxOf (if PySem.W.DatumOrd.lt n m = true then m else n) ns
    have e : (PySem.W.DatumOrd.lt n m = true) ↔ n < m := by
      show decide (n < m) = true ↔ n < m
      exact decide_eq_true_iff
    obtain ⟨h1, h2⟩ := maxOf_spec ns (if PySem.W.DatumOrd.lt n m = true then m else n)
    by_cases c : PySem.W.DatumOrd.lt n m = true
    · rw [if_pos c] at h1 h2 ⊢
      refine ⟨List.mem_cons_of_mem _ h1, fun y hy => ?_⟩
      rcases List.mem_cons.mp hy with rfl | hy
      · exact Int.le_trans (Int.le_of_lt (e.mp c)) (h2 m List.mem_cons_self)
      · exact h2 y hy
    · rw [if_neg c] at h1 h2 ⊢
      refine ⟨(List.mem_cons.mp h1).elim (fun z => by rw [z]; exact List.mem_cons_self) fun z => List.mem_cons_of_mem _ (List.mem_cons_of_mem _ z), fun y hy => ?_⟩
      rcases List.mem_cons.mp hy with rfl | hy
      · exact h2 _ List.mem_cons_self
      · rcases List.mem_cons.mp hy with rfl | hy
        · have := h2 n List.mem_cons_self
          have c' : ¬ n < y := fun z => c (e.mpr z)
          omega
        · exact h2 y (List.mem_cons_of_mem _ hy)
theorem cr_maxDef (hu : X.A.units + 64 < cLine) (hh : X.A.handled = none) : CallRK X (.builtin "max") [Str.ofString "default"] (rMaxDef X.K) := by
  intro pins s σ H vs zs us ws Q I r rz h
  obtain ⟨a, ns, d, rfl, rfl, hs, h0, hq⟩ := h
  obtain rfl := Vals.ref1 r
  obtain ⟨w1, rfl, t, rfl⟩ := vals1 rz
  obtain ⟨its, rv, hl, hz⟩ := I.list hs
  refine PySem.W.max_list_datum_default (xs := ns) hh hl.isList (by simpa using int_holds rv) (show X.A.units + 1 + 0 < cLine by omega) (fun e h' tk hk => ⟨.int d, H, I.kept (t' := tk) hk, ⟨t, rfl⟩, h0 e⟩) fun y ys i v h' tk e hi hv hk => ?_
  obtain ⟨as, rd⟩ := hv
  obtain ⟨m1, m2⟩ := maxOf_spec ys y
  refine ⟨.int (PySem.W.maxOf y ys), H, I.kept (t' := tk) hk, ?_, hq _ (by rw [e]; exact m1) (by rw [e]; exact m2)⟩
  cases rd with
  | int i t => exact ⟨t, rfl⟩
end
/-! ### the script -/
def rCatScr (K : PySem.W.Frag) : R2 := fun x y H Q => ∃ l b xs zs, x = .ref l ∧ y = .ref b ∧ ScrAt K H l xs ∧ H b = some (.lst zs) ∧ zs.length ≤ 1000 ∧ ∀ p, H p = none → Q (.ref p) (upd H p (.lst (xs ++ zs)))
theorem op_catScr {X : Cx} : OpR X (binaryOp .Add) (rCatScr X.K) := by
  intro pins s σ H x y v u Q I rx ry h
  obtain ⟨l, b, xs, zs, rfl, rfl, ⟨its, r, lx, hH⟩, hB, lz, q⟩ := h
  cases (show v = Value.ref l from rx)
  cases (show u = Value.ref b from ry)
  obtain ⟨z2, its2, n2, r2, hl2, e2⟩ := I.lstM hB
  have e : s.heap.get? l = some { cls := .type "list", data := .seq its.toArray } := by
    rcases hH with hH | hH
    · exact I.kIn l _ hH
    · exact (I.hok l _ hH).1
  have hz : xs.length + zs.length ≤ sizeLine := Nat.le_trans (show _ ≤ 2000 by omega) (by decide)
  have l1 := r.length
  refine PySem.P.add_list e e2 ?_ (by rw [List.size_toArray, List.size_toArray]; omega)
  rw [show its.toArray ++ its2.toArray = (its ++ its2).toArray by simp]
  exact ⟨.ref _, _, I.lnew (t' := s.toks) (r.append r2) (by rw [List.length_append]; omega), rfl, q _ I.fresh⟩
/-! ### walks over a locked dict with text keys -/
section
variable {d D : Addr} {o : Obj} {ms : List (Str × V)} {g : TG} {tt : TT} {te tk tv : TE} {vs : List Nat} {σ : L2.St} {H1 : Hp} {Qd : Hp → Prop}
theorem keyAt {i : Nat} {k : Key} {v : V} (h : (kvsOf ms)[i]? = some (k, v)) : ∃ x, ms[i]? = some (x, v) ∧ k = Sum.inr x := by
  rw [List.getElem?_map] at h
  cases e : ms[i]? with
  | none => rw [e] at h; cases h
  | some p =>
    rw [e] at h
    obtain ⟨x, w⟩ := p
    cases h
    exact ⟨x, rfl, rfl⟩
theorem dc_keys (Pv : Nat → Hp → Prop) (h0 : Pv 0 (upd H1 D (.dK []))) (hl : ∀ i H, i ≤ ms.length → Pv i H → H d = some (.frz o (.dK (kvsOf ms))))
    (hs : ∀ i k u H, ms[i]? = some (k, u) → Pv i H → g (.str k) (wipe σ vs) H fun σ2 H2 => wipe σ2 vs = wipe σ vs ∧ tt σ2 H2 fun b H3 =>
      if b = true then tk σ2 H3 fun y H4 => tv σ2 H4 fun z H5 => ∃ kvs k, y = kV k ∧ H5 D = some (.dK kvs) ∧ kvs.length < sizeLine ∧ Pv (i + 1) (upd H5 D (.dK (putK kvs k z))) else Pv (i + 1) H3)
    (hd : ∀ H, Pv ms.length H → Qd H) :
    ∃ W : Nat → Nat → Hp → Prop, (∃ m, W 0 m (upd H1 D (.dK []))) ∧ ∀ i m H, W i m H →
      ((Itk d o (kvsOf ms)).stop i H ∧ Qd H) ∨ ((Itk d o (kvsOf ms)).go i H ∧ ∃ Nx : Hp → Prop, (∀ H', Nx H' → ∃ m', m' < m ∧ W (i + 1) m' H') ∧ ∀ x H', (Itk d o (kvsOf ms)).yld i H x H' → g x (wipe σ vs) H' fun σ2 H2 => wipe σ2 vs = wipe σ vs ∧ tt σ2 H2 fun b H3 =>
        if b = true then tk σ2 H3 fun y H4 => tv σ2 H4 fun z H5 => ∃ kvs k, y = kV k ∧ H5 D = some (.dK kvs) ∧ kvs.length < sizeLine ∧ Nx (upd H5 D (.dK (putK kvs k z))) else Nx H3) := by
  refine ⟨fun i m H => m + i = ms.length ∧ Pv i H, ⟨ms.length, rfl, h0⟩, ?_⟩
  rintro i m H ⟨e, p⟩
  have q := hl i H (by omega) p
  have len : (kvsOf ms).length = ms.length := List.length_map ..
  cases m with
  | zero =>
    have e' : i = ms.length := by omega
    subst e'
    exact .inl ⟨⟨q, by omega⟩, hd H p⟩
  | succ m =>
    refine .inr ⟨⟨q, by omega⟩, Pv (i + 1), fun H' p' => ⟨m, by omega, by omega, p'⟩, fun x H' y => ?_⟩
    obtain ⟨rfl, k, v, h1, rfl⟩ := y
    obtain ⟨z, h2, rfl⟩ := keyAt h1
    exact hs i z v _ h2 p
theorem lc_keys (Pv : Nat → Hp → Prop) (h0 : Pv 0 (upd H1 D (.lst []))) (hl : ∀ i H, i ≤ ms.length → Pv i H → H d = some (.frz o (.dK (kvsOf ms))))
    (hs : ∀ i k u H, ms[i]? = some (k, u) → Pv i H → g (.str k) (wipe σ vs) H fun σ2 H2 => wipe σ2 vs = wipe σ vs ∧ tt σ2 H2 fun b H3 =>
      if b = true then te σ2 H3 fun y H4 => ∃ acc, H4 D = some (.lst acc) ∧ acc.length < sizeLine ∧ Pv (i + 1) (upd H4 D (.lst (acc ++ [y]))) else Pv (i + 1) H3)
    (hd : ∀ H, Pv ms.length H → Qd H) :
    ∃ W : Nat → Nat → Hp → Prop, (∃ m, W 0 m (upd H1 D (.lst []))) ∧ ∀ i m H, W i m H →
      ((Itk d o (kvsOf ms)).stop i H ∧ Qd H) ∨ ((Itk d o (kvsOf ms)).go i H ∧ ∃ Nx : Hp → Prop, (∀ H', Nx H' → ∃ m', m' < m ∧ W (i + 1) m' H') ∧ ∀ x H', (Itk d o (kvsOf ms)).yld i H x H' → g x (wipe σ vs) H' fun σ2 H2 => wipe σ2 vs = wipe σ vs ∧ tt σ2 H2 fun b H3 =>
        if b = true then te σ2 H3 fun y H4 => ∃ acc, H4 D = some (.lst acc) ∧ acc.length < sizeLine ∧ Nx (upd H4 D (.lst (acc ++ [y]))) else Nx H3) := by
  refine ⟨fun i m H => m + i = ms.length ∧ Pv i H, ⟨ms.length, rfl, h0⟩, ?_⟩
  rintro i m H ⟨e, p⟩
  have q := hl i H (by omega) p
  have len : (kvsOf ms).length = ms.length := List.length_map ..
  cases m with
  | zero =>
    have e' : i = ms.length := by omega
    subst e'
    exact .inl ⟨⟨q, by omega⟩, hd H p⟩
  | succ m =>
    refine .inr ⟨⟨q, by omega⟩, Pv (i + 1), fun H' p' => ⟨m, by omega, by omega, p'⟩, fun x H' y => ?_⟩
    obtain ⟨rfl, k, v, h1, rfl⟩ := y
    obtain ⟨z, h2, rfl⟩ := keyAt h1
    exact hs i z v _ h2 p
theorem for_keys {tb : TS} {E : Ends} {H : Hp} (Pv : Nat → L2.St → Hp → Prop) (h0 : Pv 0 σ H) (hl : ∀ i σ H, i ≤ ms.length → Pv i σ H → H d = some (.frz o (.dK (kvsOf ms))))
    (hs : ∀ i k u σ H, ms[i]? = some (k, u) → Pv i σ H → g (.str k) σ H fun σ2 H2 => tb { E with nx := Pv (i + 1), ct := Pv (i + 1), bk := E.nx } σ2 H2) (hd : ∀ σ H, Pv ms.length σ H → E.nx σ H) :
    ∃ W : Nat → Nat → L2.St → Hp → Prop, (∃ m, W 0 m σ H) ∧ ∀ i m σ H, W i m σ H →
      ((Itk d o (kvsOf ms)).stop i H ∧ E.nx σ H) ∨ ((Itk d o (kvsOf ms)).go i H ∧ ∃ N : L2.St → Hp → Prop, (∀ σ' H', N σ' H' → ∃ m', m' < m ∧ W (i + 1) m' σ' H') ∧ ∀ x H', (Itk d o (kvsOf ms)).yld i H x H' → g x σ H' fun σ2 H2 => tb { E with nx := N, ct := N, bk := E.nx } σ2 H2) := by
  refine ⟨fun i m σ H => m + i = ms.length ∧ Pv i σ H, ⟨ms.length, rfl, h0⟩, ?_⟩
  rintro i m σ H ⟨e, p⟩
  have q := hl i σ H (by omega) p
  have len : (kvsOf ms).length = ms.length := List.length_map ..
  cases m with
  | zero =>
    have e' : i = ms.length := by omega
    subst e'
    exact .inl ⟨⟨q, by omega⟩, hd σ H p⟩
  | succ m =>
    refine .inr ⟨⟨q, by omega⟩, Pv (i + 1), fun σ' H' p' => ⟨m, by omega, by omega, p'⟩, fun x H' y => ?_⟩
    obtain ⟨rfl, k, v, h1, rfl⟩ := y
    obtain ⟨z, h2, rfl⟩ := keyAt h1
    exact hs i z v σ _ h2 p
end
/-! ### name = {k: v for ..} on one line -/
section
variable {X : Cx}
theorem sw_dc {kx vx : Expr} {gs : List Comprehension} {scope : Scope} {pos py : Pos} {y : Str} {l : Nat} {env : Env} (hk : env.scope.kind = .function) (hy : env.scope.names.lookup y = some .local) (hl : (py.line == pos.line) = true)
    (ha : (scope.names.any fun (n, k) => n == y && (k == .local || k == .cell)) = false) : swapsWith (.DictComp kx vx gs scope pos) (some (.Name y py)) l env = pure true := by
  have k1 : env.kindOf y = some .local := hy
  have k2 : env.blockKind = .function := by
    unfold Env.blockKind
    rw [hk]
    rfl
  unfold swapsWith
  simp only [k2, k1, ha, Expr.pos, hl]
  rfl
theorem ps_setDc {i : Nat} {y : Str} {py : Pos} {kx vx tg iter : Expr} {ifs : List Expr} {scope : Scope} {own : List (Str × Nat)} {pos spos : Pos} {wi : TI} {g : TG} {tt : TT} {tk tv : TE} (hc : X.calm = true) (hN : X.N.Nodup) (hy : X.N[i]? = some y) (hyl : X.env.scope.names.lookup y = some .local)
    (hsw : swapsWith (.DictComp kx vx [⟨tg, iter, ifs, 0⟩] scope pos) (some (.Name y py)) spos.line X.env = pure true) (hi : PI X tg iter wi) (ok : BlkOk X.N X.env.scope scope own)
    (hg : ∀ (s : Shared) (H : Hp) (C : Addr) (cl : List (Str × Addr)) (fp : List Addr), PG (X.blk s H scope (compEnvC scope cl C X.env) fp) tg g)
    (ht : ∀ (s : Shared) (H : Hp) (C : Addr) (cl : List (Str × Addr)) (fp : List Addr), PTs (X.blk s H scope (compEnvC scope cl C X.env) fp) ifs tt)
    (hk : ∀ (s : Shared) (H : Hp) (C : Addr) (cl : List (Str × Addr)) (fp : List Addr), PE (X.blk s H scope (compEnvC scope cl C X.env) fp) kx tk)
    (he : ∀ (s : Shared) (H : Hp) (C : Addr) (cl : List (Str × Addr)) (fp : List Addr), PE (X.blk s H scope (compEnvC scope cl C X.env) fp) vx tv) (hs : ∀ x, foldedSetIterable iter X.env x = pure x := by intro _; rfl) :
    PS X (.Assign [.Name y py] (.DictComp kx vx [⟨tg, iter, ifs, 0⟩] scope pos) spos) (tAsg (tDc wi g tt tk tv (own.map (·.2))) (gName i)) := by
  refine ⟨fun pins s σ H E I h => ?_⟩
  rw [exec_Assign_Name_used _ _ _ _ hsw]
  refine wpAny_bind (wpAny_standAt (wpAny_bind ?_))
  refine wpAny_bind (thn (dc_core (use := some (assign (.Name y py) X.env)) (Qf := fun _ s' => SP X pins E .next s') hc hN I hi ok hg ht hk he hs (show tDc wi g tt tk tv (own.map (·.2)) σ H (fun x H1 => gName i x σ H1 E.nx) from h) fun L C s' m H' I' q hn f => ?_) fun _ s' hq => wpAny_pure (wpAny_pure hq))
  refine wpAny_assign_Name (store_ok2 (v := V.ref L) I' hN hy (.inl hyl) rfl (fun s2 I2 ⟨a, sb, ha⟩ => ?_) (.inr hyl))
  obtain ⟨f0, f1, f2, f3, f4, f5⟩ := f
  have ne : C ≠ a := ha.elim (fun z => by rw [z]; exact f1) fun z e => f4 y a z e.symm
  exact ⟨m, hn.sameBut sb ne, fun h3 sb3 => ⟨_, H', I2.turned (t' := s2.toks) (fun b o hb e => (sb3.2 b hb).trans e) f0 f1 f3 f4 f5, q⟩⟩
end
/-! ### isinstance of what stands for a document -/
theorem tyx_dk {K : PySem.W.Frag} {H : Hp} {a : Addr} {kvs : List (Key × V)} (r : Rd H a (.dK kvs)) : TyX K H (.ref a) (.type "dict") := by
  rcases r with r | ⟨o, r⟩
  · exact .base (.dK r)
  · exact .fDict r
theorem tyx_ls {K : PySem.W.Frag} {H : Hp} {a : Addr} {xs : List V} (r : Rd H a (.lst xs)) : TyX K H (.ref a) (.type "list") := by
  rcases r with r | ⟨o, r⟩
  · exact .base (.lst r)
  · exact .base (.frz r)
theorem tyx_sc {K : PySem.W.Frag} {H : Hp} {v : V} (h : isSc v = true) : ∃ t, (t = "NoneType" ∨ t = "int" ∨ t = "str") ∧ TyX K H v (.type t) := by
  cases v <;> first | cases h | skip
  · exact ⟨_, .inl rfl, .base .non⟩
  · exact ⟨_, .inr (.inl rfl), .base (.int _)⟩
  · exact ⟨_, .inr (.inr rfl), .base (.str _)⟩
def D.isOb : D → Bool
  | .ob _ => true
  | _ => false
def D.isLs : D → Bool
  | .ls _ => true
  | _ => false
theorem isiD {S : Addr → Prop} {G : Gen} {H : Hp} {n : Nat} {v : V} {d : D} (K : PySem.W.Frag) (h : Dc S G H n v d) : ∃ t, TyX K H v t ∧ PySem.W.kitOne K t (.type "dict") = some d.isOb := by
  refine h.cases (fun m _ hs e => ?_) (fun m a xs _ e _ r _ e' => ?_) (fun m a ms f _ e _ r _ e' => ?_)
  · subst e
    obtain ⟨t, ht, ty⟩ := tyx_sc (K := K) (H := H) (G.sc _ hs)
    refine ⟨_, ty, kit_ty (r := false) ?_⟩
    rcases ht with rfl | rfl | rfl <;> decide +kernel
  · subst e; subst e'
    exact ⟨_, tyx_ls (.inl r), kit_ty (r := false) (by decide +kernel)⟩
  · subst e; subst e'
    exact ⟨_, tyx_dk (.inl r), kit_ty (r := true) (by decide +kernel)⟩
theorem isiL {S : Addr → Prop} {G : Gen} {H : Hp} {n : Nat} {v : V} {d : D} (K : PySem.W.Frag) (h : Dc S G H n v d) : ∃ t, TyX K H v t ∧ PySem.W.kitOne K t (.type "list") = some d.isLs := by
  refine h.cases (fun m _ hs e => ?_) (fun m a xs _ e _ r _ e' => ?_) (fun m a ms f _ e _ r _ e' => ?_)
  · subst e
    obtain ⟨t, ht, ty⟩ := tyx_sc (K := K) (H := H) (G.sc _ hs)
    refine ⟨_, ty, kit_ty (r := false) ?_⟩
    rcases ht with rfl | rfl | rfl <;> decide +kernel
  · subst e; subst e'
    exact ⟨_, tyx_ls (.inl r), kit_ty (r := true) (by decide +kernel)⟩
  · subst e; subst e'
    exact ⟨_, tyx_dk (.inl r), kit_ty (r := false) (by decide +kernel)⟩
theorem t_yes {σ : L2.St} {H : Hp} {A B : Hp → Prop} (h : A H) : tYes σ H (fun b H3 => if b = true then A H3 else B H3) := by
  show (if true = true then A H else B H)
  rw [if_pos rfl]
  exact h
/-- d if isinstance(d, dict) else {} -/
theorem t_dictor [TabL] {K : PySem.W.Frag} {S : Addr → Prop} {G : Gen} {H : Hp} {n : Nat} {v : V} {d : D} {i : Nat} {σ : L2.St} {Q : VK} (hσ : σ[i]? = some (some v)) (hv : Dc S G H (n + 1) v d)
    (h : ∀ a1 ms1 St H1, Ex H H1 → H1 a1 = some (.dK (kvsOf ms1)) → St a1 → Mem St G H1 n ms1 d.tgt → (∀ x, St x → (S x ∧ H x ≠ none) ∨ H x = none) → (∀ x, St x → H1 x ≠ none) → Q (.ref a1) H1) :
    tIf (tB (tCB (rIsi K) (tCons (tVar i) (tCons (tC (.ty "dict")) tNil)))) (tVar i) tDNewK σ H Q := by
  obtain ⟨t1, ty1, kit1⟩ := isiD K hv
  refine ⟨v, hσ, v, .ty "dict", t1, _, _, rfl, .ty _, ty1, kit1, _, rfl, ?_⟩
  have none_way : d.isOb = false → d.tgt = (fun _ => .nil) → (if d.isOb = true then tVar i σ H Q else tDNewK σ H Q) := fun e e2 => by
    rw [e]
    refine iteF fun p hp => ?_
    exact h p [] (fun x => x = p) _ (Ex.new hp) upd_same rfl (by rw [e2]; exact Mem.nil) (fun x hx => .inr (by rw [hx]; exact hp)) fun x hx => by rw [hx, upd_same]; exact fun z => nomatch z
  refine hv.cases (fun m _ _ e => ?_) (fun m a xs _ _ _ _ _ e => ?_) (fun m a ms f em ev hS r M e => ?_)
  · exact none_way (by rw [e]; rfl) (by rw [e]; rfl)
  · exact none_way (by rw [e]; rfl) (by rw [e]; rfl)
  · subst e; subst ev; cases em
    refine iteT ⟨_, hσ, ?_⟩
    exact h a ms (fun x => S x ∧ H x ≠ none) H (Ex.refl H) r ⟨hS, by rw [r]; exact fun z => nomatch z⟩ ⟨M.nd, M.ks, M.no, fun k u hu => (M.at' k u hu).alloc⟩ (fun x hx => .inl hx) fun x hx => hx.2
theorem ifT {c : Bool} {A B : Prop} (hc : c = true) (h : A) : if c = true then A else B := by
  rw [if_pos hc]
  exact h
theorem ifF {c : Bool} {A B : Prop} (hc : c = false) (h : B) : if c = true then A else B := by
  rw [hc, if_neg Bool.false_ne_true]
  exact h
/-- what every heap knows of its dicts -/
def tKnow (t : TE) : TE := fun σ H Q => t σ H fun v H' => (∀ a kvs, H' a = some (.dK kvs) → a ≠ sysModules) → Q v H'
theorem pe_know {X : Cx} {e : Expr} {t : TE} (h : PE X e t) : PE X e (tKnow t) := by
  refine ⟨fun pins s σ H Q I hw => thn (h.run pins s σ H _ I hw) fun u s1 ⟨v, H', I', rv, q⟩ => ⟨v, H', I', rv, q fun a kvs e z => ?_⟩⟩
  obtain ⟨_, z', _⟩ := (show ObjOk X.prog X.w H' s1.heap a (.dK kvs) from I'.hok a _ e)
  rw [z] at z'
  simp at z'
theorem pairs_map {α β : Type} {F G : α → β → Prop} : ∀ {xs : List α} {ys : List β}, Paired F xs ys → (∀ a b, a ∈ xs → F a b → G a b) → Paired G xs ys
  | _, _, .nil, _ => .nil
  | _, _, .cons h t, f => .cons (f _ _ List.mem_cons_self h) (pairs_map t fun a b ha => f a b (List.mem_cons_of_mem _ ha))
theorem pairs_at {α β : Type} {F : α → β → Prop} {x : α} : ∀ {xs : List α} {ys : List β}, Paired F xs ys → x ∈ xs → ∃ y, F x y
  | _, _, .nil, h => nomatch h
  | _, _, .cons h t, hx => (List.mem_cons.mp hx).elim (fun e => ⟨_, by rw [e]; exact h⟩) fun hx => pairs_at t hx
end TP

namespace TP
open PySem PySem.Spec PyProof.Rows L2
/-! ### operators that a class of the program defines -/
def rAddOwn (C : Addr) (sp : Sp) (E : XK) : R2 := fun x y H Q => ∃ a dx fs b dy gs, x = .ref a ∧ y = .ref b ∧ H a = some (.ins C dx fs) ∧ H b = some (.ins C dy gs) ∧ sp [x, y] H (fun v H' => (∃ r, v = .ref r) ∧ Q v H') E
theorem inst_at {X : Cx} {pins : List (Addr × Obj)} {σ : L2.St} {H : Hp} {s : Shared} {a C dx : Addr} {fs : List (Str × V)} (I : Inv X pins σ H s) (h : H a = some (.ins C dx fs)) : ∃ od, PySem.W.InstAt s.heap a (PySem.W.instObj C dx) C (some od) := by
  have o := I.hok a _ h
  simp only [ObjOk] at o
  obtain ⟨_, _, _, o1, mA, o2, _⟩ := o
  obtain ⟨od, ho⟩ : ∃ od, s.heap.get? dx = some od := by
    obtain ⟨y, hy⟩ := I.hok dx _ (by assumption)
    exact ⟨y, hy⟩
  exact ⟨od, ⟨o1, rfl, rfl, ho⟩⟩
theorem op_addOwn {X : Cx} {CX : CXT} {k : Nat} {f C : Addr} {fd : FuncData} {sp : Sp} {E : XK} {ps : List Str}
    (G : FnOk X.prog X.w X.K X.mg X.base CX k f fd ps sp) (hr : Room k X.A) (b : Binds X.K fd ps []) (px : Passes CX X E)
    (sf : PySem.W.selfFirst X.K C = true) (hf : PySem.W.findIn X.K (.ref C) (PySem.dunder "add") = some (some (.ref f))) (fn : PySem.W.isFn X.K (.ref f) = true) :
    OpR X (binaryOp .Add) (rAddOwn C sp E) := by
  intro pins s σ H x y v u Q I rx ry h
  obtain ⟨a, dx, fs, b', dy, gs, rfl, rfl, ha, hb, hs⟩ := h
  cases (show v = Value.ref a from rx)
  cases (show u = Value.ref b' from ry)
  obtain ⟨m, fr⟩ := I.fr
  obtain ⟨oa, ia⟩ := inst_at I ha
  obtain ⟨ob, ib⟩ := inst_at I hb
  refine PySem.W.binop_K fr I.ok.mod.1 ia ib.type sf hf fn ?_
  refine PySem.wpAny_mono (run_fn (vs := [.ref a, .ref b']) (dvs := []) (ds := []) G hr b .nil px I (.cons rx (.cons ry .nil)) (by simpa using hs)) ?_ (fun _ _ z => z)
  rintro v s1 ⟨v', H', I', rv, ⟨r, rfl⟩, q⟩
  cases (show v = Value.ref r from rv)
  exact ⟨_, _, I', rv, q⟩
/-! ### lambda pair: pair[0] -/
abbrev lamPs (p : Pos) : Arguments := { posonlyargs := [], args := [{ arg := "pair", annotation := none, pos := p : PySem.Arg }], vararg := none, kwonlyargs := [], kw_defaults := [], kwarg := none, defaults := [] : PySem.Arguments }
abbrev lamB (p q r : Pos) : Expr := .Subscript (.Name "pair" p) (.Constant (.int 0) 0 q) r
abbrev lamSc : Scope := { kind := PySem.ScopeKind.function, names := [(PySem.Str.ofString "pair", PySem.NameKind.local)], isGenerator := false, isCoroutine := false, more := [] : PySem.Scope }
theorem lam_first {prog : Program} {w : World} {A : Around} {h : Heap} {g : Array GenState} {dr : Drawn} {tk : Nat} {os : OsState} {f p c' : Addr} {nm qual k : Str} {t : Tok} {us : List Value} {pm ctv : Value} {p0 p1 p2 p3 : Pos}
    (hd : A.depth < recursionLimit) (hf : h.get? f = some (PySem.W.kla_obj nm qual (lamPs p0) (lamB p1 p2 p3) lamSc [] pm c' ctv)) (hc : h.CodeRec (.ref c') qual) (nl : h.NoLimit) (ht : IsTup h p (Value.str k t :: us).toArray) :
    wpAny (model prog w) A (call (.ref f) [.ref p]) (PySem.W.KeyPure (.str k) ⟨h, g, dr, tk, os⟩) (fun _ _ => False) ⟨h, g, dr, tk, os⟩ := by
  refine PySem.wpAny_call (PySem.W.kla_callFunE hd hf rfl rfl rfl rfl hc ?_)
  have hb : bindArgs (PySem.W.kla_fn nm qual (lamPs p0) (lamB p1 p2 p3) lamSc [] pm (Value.ref c') ctv) { pos := [.ref p] } = pure [(("pair" : Str), Value.ref p)] := by
    rfl
  rw [hb]
  refine PySem.wpAny_pure (PySem.wpAny_newFunctionEnv ?_ ?_ fun h' ns sb => ⟨nl.fresh _ sb, ?_⟩)
  · intro x hx
    simp at hx
    subst hx
    exact fun z => nomatch z
  · intro x hx
    simp at hx
    subst hx
    rfl
  have keep : ∀ (b : Addr) (o : Obj), h.get? b = some o → h'.get? b = some o := fun b o hb => by
    have lt := PySem.Heap.lt_size hb
    rw [sb.2 b (Nat.ne_of_lt lt)]
    exact PySem.Heap.get?_push_of_some _ hb
  refine PySem.W.kla_codeExpr (PyProof.Rows.Subscript_ (PyProof.Rows.ldG (v := .ref p) ns rfl (PySem.wpAny_Constant_int ?_)))
  obtain ⟨o, ho, oc, n, od⟩ := ht
  refine PyProof.Rows.item_tupleL (l := Value.str k t :: us) (j := 0) ⟨o, keep p o ho, oc, n, od⟩ (by decide) (by decide) (by simp [seqIndex?]) rfl ?_
  refine ⟨h', _, rfl, keep, ?_⟩
  exact .str _ _
/-- the lambda is made: a code object more in the table at P, at the first time -/
theorem lam_make3 [TabL] {X : Cx} {pins : List (Addr × Obj)} {σ : L2.St} {H : Hp} {s : Shared} {c P : Addr} {p0 p1 p2 p3 pos : Pos} {E Q : Value → Shared → Prop}
    (I : Inv X pins σ H s) (TB : LamX.TabB X.base X.mg c P) (hc : X.env.code = .ref c) (hR : TabL.R P (X.env.qual ++ Str.ofString "<lambda>")) (tb : LamX.TabS H P (X.env.qual ++ Str.ofString "<lambda>"))
    (k : ∀ f c' pm ctv H1 s', Inv X pins σ H1 s' → Ex H H1 → s'.heap.get? f = some (PySem.W.kla_obj "<lambda>" (X.env.qual ++ Str.ofString "<lambda>") (lamPs p0) (lamB p1 p2 p3) lamSc [] pm c' ctv) → s'.heap.CodeRec (.ref c') (X.env.qual ++ Str.ofString "<lambda>") → Q (.ref f) s') :
    wpAny (model X.prog X.w) X.A (eval (.Lambda (lamPs p0) (lamB p1 p2 p3) lamSc pos) X.env) Q E s := by
  obtain ⟨ps, hP, tri, hq⟩ := tb
  have oP := I.hok P _ hP
  simp only [ObjOk] at oP
  have keep := I.bk
  have hcl : closureFor lamSc X.env = pure [] := by rfl
  refine PySem.W.kla_eval rfl ?_
  have hd := TB.code.keeps keep
  have bm := TB.bm.keeps keep
  have ns : s.heap.Ns mainGlobals X.mg := I.ok.mod.glob.keeps keep
  cases e : codeAmong pos ps.toList with
  | none =>
    refine PySem.W.kla_makeFunction hcl I.ok.glob ns hc hd oP tri e TB.gP bm fun c' ctv h' tk eb lc lc2 cr hP' => ?_
    have Pne : P ≠ c' := fun z => by
      have := PySem.Heap.lt_size oP
      rw [z] at this
      exact Nat.lt_irrefl _ (Nat.lt_of_lt_of_le this lc)
    have new : ∀ b, s.heap.objs.size ≤ b → H b = none := fun b hb => by
      cases z : H b with
      | none => rfl
      | some o => exact absurd ((I.hok b _ z).lt) (Nat.not_lt.mpr hb)
    obtain ⟨c2, oc, vs, t, ce, g1, g2, g3⟩ := cr
    cases ce
    have I2 := LamX.inv_table (t' := tk) (q := X.env.qual ++ Str.ofString "<lambda>") (h' := h'.push (PySem.W.kla_obj "<lambda>" (X.env.qual ++ Str.ofString "<lambda>") (lamPs p0) (lamB p1 p2 p3) lamSc [] ((X.mg (Str.ofString "__name__")).getD Value.none) c' ctv)) I hP (fun b o n h => PySem.Heap.get?_push_of_some _ (eb b o n h)) (PySem.Heap.get?_push_of_some _ hP') lc ⟨oc, vs, t, PySem.Heap.get?_push_of_some _ g1, g2, g3⟩
    refine k _ c' _ ctv _ _ I2 ⟨fun b o hb z => ?_, fun b hb => ?_, fun b q r t => ?_⟩ (PySem.Heap.get?_push_size _ rfl) ⟨c', oc, vs, t, rfl, PySem.Heap.get?_push_of_some _ g1, g2, g3⟩
    · rw [upd_ne (ne_of_none hb (new c' lc)), upd_ne (fun y => by rw [y, hP] at hb; cases hb; cases z)]
      exact hb
    · by_cases y : b = c'
      · rw [y, upd_same]
        exact fun z => nomatch z
      · rw [upd_ne y]
        by_cases y2 : b = P
        · rw [y2, upd_same]
          exact fun z => nomatch z
        · rw [upd_ne y2]
          exact hb
    · obtain ⟨ps', t1, t2, t3⟩ := t
      by_cases y : b = P
      · subst y
        rw [hP] at t1
        cases t1
        have hqq := TabL.one _ _ _ r hR
        subst hqq
        refine ⟨ps ++ #[rawInt ↑pos.line, rawInt ↑pos.col, Value.ref c'], by rw [upd_ne Pne, upd_same], ?_, fun pos' cv hcv => ?_⟩
        · rw [Array.toList_append]
          exact PySem.TriplesOk_snoc _ _ _ _ t2
        · rw [Array.toList_append] at hcv
          rcases LamX.among_app _ t2 hcv with h | h
          · obtain ⟨d, e1, e2⟩ := t3 pos' cv h
            refine ⟨d, e1, ?_⟩
            rw [upd_ne (ne_of_none e2 (new c' lc)), upd_ne (fun z => by rw [z, hP] at e2; cases e2)]
            exact e2
          · exact ⟨c', h, upd_same⟩
      · refine ⟨ps', by rw [upd_ne (ne_of_none t1 (new c' lc)), upd_ne y]; exact t1, t2, fun pos' cv h => ?_⟩
        obtain ⟨d, e1, e2⟩ := t3 pos' cv h
        refine ⟨d, e1, ?_⟩
        rw [upd_ne (ne_of_none e2 (new c' lc)), upd_ne (fun z => by rw [z, hP] at e2; cases e2)]
        exact e2
  | some cv =>
    obtain ⟨c', rfl, hc'⟩ := hq pos cv e
    refine PySem.W.kla_makeFunctionHit hcl I.ok.glob ns hc hd oP tri e bm fun ctv h' tk ex sz => ?_
    have ex2 : ∀ (b : Addr) (o : Obj), s.heap.get? b = some o → (h'.push (PySem.W.kla_obj "<lambda>" (X.env.qual ++ Str.ofString "<lambda>") (lamPs p0) (lamB p1 p2 p3) lamSc [] ((X.mg (Str.ofString "__name__")).getD Value.none) c' ctv)).get? b = some o := fun b o h => PySem.Heap.get?_push_of_some _ (ex b o h)
    refine k _ c' _ ctv H _ (I.kept ex2) (Ex.refl H) (PySem.Heap.get?_push_size _ rfl) ?_
    have oc := I.hok c' _ hc'
    simp only [LamX.CodeO, ObjOk] at oc
    obtain ⟨⟨o1, vs, t, g1, g2, g3⟩, _⟩ := oc
    exact ⟨c', o1, vs, t, rfl, ex2 _ _ g1, g2, g3⟩
/-- sorted(e, key=lambda pair: pair[0]), of a list of pairs that begin with a text -/
abbrev Bs : Type := Addr × Str × V
abbrev bkey : Bs → PyData := fun b => .str b.2.1
def sortB (bs : List Bs) : List Bs := bs.mergeSort (PySem.W.dataLe false bkey)
def tSortL [TabL] (P : Addr) (q : Str) (t : TA) : TE := fun σ H Q => t σ H fun xs H1 => ∃ (a : Addr) (bs : List Bs), xs = [.ref a] ∧ H1 a = some (.lst (bs.map fun b => V.ref b.1)) ∧ (∀ b ∈ bs, H1 b.1 = some (.tup [.str b.2.1, b.2.2])) ∧ LamX.TabS H1 P q ∧
  ∀ H2 D, Ex H1 H2 → H2 D = none → Q (.ref D) (upd H2 D (.lst ((sortB bs).map fun b => V.ref b.1)))
theorem each_of {H : Hp} {bs : List Bs} {its : List Value} {R : Value → Bs → Prop} (h : Vals (bs.map fun b => V.ref b.1) its) (r : ∀ b ∈ bs, R (.ref b.1) b) : PySem.W.EachIs R its bs := by
  induction bs generalizing its with
  | nil => cases h; exact .nil
  | cons b bs ih =>
    cases h with
    | cons a c =>
      cases (show _ = Value.ref b.1 from a)
      exact .cons (r b List.mem_cons_self) (ih c fun x hx => r x (List.mem_cons_of_mem _ hx))
theorem vals_of {bs : List Bs} {its : List Value} {R : Value → Bs → Prop} (h : PySem.W.EachIs R its bs) (r : ∀ v b, R v b → v = .ref b.1) : Vals (bs.map fun b => V.ref b.1) its := by
  induction h with
  | nil => exact .nil
  | cons a _ ih => exact .cons (r _ _ a) ih
theorem pe_sortL [TabL] {X : Cx} {c P : Addr} {e : Expr} {t : TA} {p0 p1 p2 p3 p4 p5 p6 p7 : Pos}
    (he : PA X [e] t) (hg : Gl X "sorted") (hm : X.mg "sorted" = none) (hb : PySem.bootBuiltins "sorted" = some (.builtin "sorted"))
    (TB : LamX.TabB X.base X.mg c P) (hc : X.env.code = .ref c) (hR : TabL.R P (X.env.qual ++ Str.ofString "<lambda>")) (hr : Room 1 X.A)
    (a1 : backTo p7 (starEach [e] X.env) = (false, eval e X.env) :: backTo p7 (starEach [] X.env) := by rfl)
    (a2 : ((backTo p7 (starEach [e] X.env)).any fun x => x.1) = false := by rfl) :
    PE X (.Call (.Name "sorted" p0) [e] [{ arg := some "key", value := .Lambda (lamPs p1) (lamB p2 p3 p4) lamSc p5, pos := p6 }] p7) (tSortL P (X.env.qual ++ Str.ofString "<lambda>") t) := by
  refine ⟨fun pins s σ H Q I h => ?_⟩
  refine PySem.wpAny_Call_ofName (ld_blt I hg hm hb ?_)
  refine PyProof.Rows.callWith_kw (PySem.wpAny_mono (he.run p7 pins s σ H _ I h) ?_ fun _ _ z => z) a1 a2 rfl rfl
  rintro us s1 ⟨vs, H1, I1, rv, a, bs, rfl, ha, hbs, tb, k⟩
  cases rv with
  | cons ra rn =>
  cases rn
  cases (show _ = Value.ref a from ra)
  refine PyProof.Rows.kws_cons (lam_make3 I1 TB hc hR tb fun f c' pm ctv H2 s2 I2 ex hf cr => PyProof.Rows.kws_nil ?_)
  obtain ⟨its, rits, ⟨o, n, ho, oc, _, od⟩, hl⟩ := I2.list (.inl (.inl (ex a _ ha)))
  show wpAny _ _ (call (Value.builtin "sorted") [Value.ref a] [("key", Value.ref f)]) _ _ _
  refine PySem.W.sorted_key_data (bs := bs) (vs := its) (R := fun v b => v = .ref b.1 ∧ ∃ k t us, k = b.2.1 ∧ IsTup s2.heap b.1 (Value.str k t :: us).toArray) (b := false) bkey ⟨o, ho, oc, n, od⟩ (each_of (H := H2) rits fun b hb => ⟨rfl, ?_⟩) ?_ ?_ (by simpa using hl) ?_ (PyProof.Rows.ksk_s1 _ _) (fun x => PyProof.Rows.ksk_l1 _ _) (fun x => PyProof.Rows.ksk_t1 _ _) ?_ ?_
  · obtain ⟨jts, rj, tj, _⟩ := I2.tuple (.inl (.inl (ex b.1 _ (hbs b hb))))
    cases rj with
    | cons r1 r2 =>
    obtain ⟨t, rfl⟩ := (show ∃ t, _ = Value.str b.2.1 t from r1)
    exact ⟨_, t, _, rfl, tj⟩
  · intro d hd d' hd'
    obtain ⟨b, _, rfl⟩ := List.mem_map.mp hd
    obtain ⟨b', _, rfl⟩ := List.mem_map.mp hd'
    rfl
  · refine .inr fun d hd => ?_
    obtain ⟨b, _, rfl⟩ := List.mem_map.mp hd
    exact ⟨(fun z => nomatch z), fun xs z => nomatch z⟩
  · intro b hb
    have := hr.un
    show X.A.units + 2 + 0 < cLine
    omega
  · rintro v b ⟨rfl, k, t, us, rfl, ht⟩ hb h tk hx
    refine lam_first (t := t) (us := us) ?_ (hx _ _ hf) (cr.keeps hx) (I2.nolimit.at fun o z => hx _ o z) ?_
    · have := hr.dp
      show X.A.depth < recursionLimit
      omega
    · obtain ⟨o, h1, h2⟩ := ht
      exact ⟨o, hx _ _ h1, h2⟩
  · intro out c2 h' tk hx hn hl' hlen he'
    refine ⟨.ref _, _, I2.laid (a := s2.heap.objs.size + 1) (o := .lst ((sortB bs).map fun b => V.ref b.1)) hx (Nat.le_succ _) ?_, rfl, ?_⟩
    · simp only [ObjOk]
      refine ⟨?_, out, c2, vals_of he' fun v b z => z.1, hl'⟩
      unfold sortB
      rw [List.length_map, List.length_mergeSort]
      simpa using hl
    · refine k H2 _ ex ?_
      cases z : H2 (s2.heap.objs.size + 1) with
      | none => rfl
      | some o => exact absurd (I2.hok _ _ z).lt (Nat.not_lt.mpr (Nat.le_succ _))
end TP

namespace TP
open PySem PySem.Spec PyProof.Rows L2
/-! ### an object is called -/
def tInst (C : Addr) (sp : Sp) (E : XK) (t : TE) (i : Nat) : TE := fun σ H Q => t σ H fun y H1 => ∃ a dx fs v, y = .ref a ∧ H1 a = some (.ins C dx fs) ∧ σ[i]? = some (some v) ∧ sp [y, v] H1 Q E
theorem pe_inst {X : Cx} {CX : CXT} {k i : Nat} {f C : Addr} {fd : FuncData} {sp : Sp} {E : XK} {ps : List Str} {fe : Expr} {x : Str} {p pos : Pos} {t : TE}
    (hf : PE X fe t) (G : FnOk X.prog X.w X.K X.mg X.base CX k f fd ps sp) (hr : Room k X.A) (b : Binds X.K fd ps []) (px : Passes CX X E)
    (fc : PySem.W.findIn X.K (.ref C) "__call__" = some (some (.ref f))) (fn : PySem.W.isFn X.K (.ref f) = true) (fi : PySem.W.fnIn X.K f = true)
    (hx : X.N[i]? = some x) (hk : List.lookup x X.env.scope.names = some .local) (hv : Vis X.env.scope x)
    (nd : (x == Str.ofString "__debug__") = false := by rfl)
    (ev : eval (.Call fe [.Name x p] [] pos) X.env = (do
          let f ← eval fe X.env
          callWith pos f [] (backTo pos (starEach [.Name x p] X.env)) (backToKw pos (keywordEach [] X.env))) := by rfl) :
    PE X (.Call fe [.Name x p] [] pos) (tInst C sp E t i) := by
  refine ⟨fun pins s σ H Q I h => PyProof.Rows.Call_ (PySem.wpAny_mono (hf.run pins s σ H _ I h) ?_ fun _ _ z => z) ev⟩
  rintro u s1 ⟨y, H1, I1, ry, a, dx, fs, v, rfl, ha, hσ, hs⟩
  cases (show u = Value.ref a from ry)
  obtain ⟨oa, ia⟩ := inst_at I1 ha
  obtain ⟨m, ns, hm⟩ := I1.loc
  obtain ⟨w, rw', lk⟩ := hm i x v hx hσ hv
  have hmx : m x = some w := by
    rcases lk with ⟨_, z⟩ | ⟨z, _⟩
    · exact z
    · rw [show X.env.kindOf x = some .local from hk] at z
      rcases z with z | z <;> cases z
  refine PySem.W.kco_callWith I1.kIn ia rfl fc (PyProof.Rows.spliced_more (PyProof.Rows.ldG ns hmx (PyProof.Rows.spliced_none ⟨⟨I1.kIn, ia⟩, ?_⟩) I1.ok.kind hk nd))
  refine PySem.wpAny_call (PySem.W.kco_code I1.kIn ia rfl fc fn fi (PySem.codeAny_mono (G.run X.A X.stack s1 H1 ⟨[.ref a, w], []⟩ [.ref a, w] [.ref a, v] Q E hr I1.env0 ?_ (.cons ry (.cons rw' .nil)) hs) ?_))
  · have := G.len _ _ _ _ hs
    exact b s1 [.ref a, w] I1.kIn (by simpa using this)
  · rintro r s2 h
    match r, h with
    | .ok (.ret u), ⟨v2, H2, os, bare, un, hok, rv, q⟩ =>
      refine ⟨v2, H2, ?_, rv, q⟩
      have := I1.call (t' := s2.toks) (d' := s2.drawn) un hok bare fun b hb => nomatch hb
      rw [← os] at this
      exact this
    | .error e, h => exact px pins σ H1 s1 e s2 I1 h
end TP

namespace TP
open PySem PySem.Spec PyProof.Rows L2
def topS (i : Nat) : Stmt := PySem.Challenge.pw_twopatches_k02_errors.main.body.getD i (.Pass ⟨0, 0, 0, 0⟩)
/-- a def of the text, as the top has left it -/
structure Df (K : PySem.W.Frag) (mg : Str → Option Value) (x : Str) (st : Stmt) (ps : List Str) (f : Addr) (fd : FuncData) : Prop where
  F : Fun K x x st f fd
  m : mg x = some (.ref f)
  b : Binds K fd ps []
/-- the built-in names are the built-in things -/
def Bi (mg : Str → Option Value) : Prop := ∀ x ∈ (["isinstance", "dict", "list", "int", "str", "bool", "sorted", "sum", "max", "all", "len", "range", "abs", "repr", "tuple"] : List Str), mg x = none
theorem Bi.of {mg : Str → Option Value} (h : Bi mg) (x : Str) (hx : x ∈ (["isinstance", "dict", "list", "int", "str", "bool", "sorted", "sum", "max", "all", "len", "range", "abs", "repr", "tuple"] : List Str) := by decide +kernel) : mg x = none := h x hx
/-- new since H -/
abbrev Nw (H : Hp) : Addr → Prop := fun a => H a = none
theorem Nw.ex [TabL] {H H' : Hp} (e : Ex H H') {a : Addr} (h : Nw H' a) : Nw H a := fresh_back e h
section
variable [TabL] {P : Program} {w : World} {K : PySem.W.Frag} {mg : Str → Option Value} {base : Heap}
theorem fn_zero {k : Nat} {f : Addr} {fd : FuncData} {ps : List Str} {sp : Sp} (h : ∀ vs H Q E, ¬ sp vs H Q E) : FnOk P w K mg base CX0 k f fd ps sp :=
  ⟨fun vs H Q E z => (h _ _ _ _ z).elim, fun _ _ _ _ _ _ _ _ _ _ _ _ _ z => (h _ _ _ _ z).elim⟩
/-! ### copied -/
def spPatched (G : Gen) (n : Nat) : Sp := fun vs H Q _ => ∃ (S1 S2 : Addr → Prop) (v1 v2 : V) (d p : D), vs = [v1, v2] ∧ Dc S1 G H n v1 d ∧ Dc S2 G H n v2 p ∧ (∀ x, S1 x → S2 x → False) ∧ ∀ r H', Ex H H' → Dc (Nw H) G H' n r (d.app p) → Q r H'
def spCopied (G : Gen) (n : Nat) : Sp := fun vs H Q _ => ∃ (S : Addr → Prop) (v : V) (d : D), vs = [v] ∧ Dc S G H n v d ∧ ∀ r H', Ex H H' → Dc (Nw H) G H' n r d → Q r H'
theorem sizeK {G : Gen} (h : G.KS.length ≤ 5000) {S H n ms f} (m : Mem S G H n ms f) : (kvsOf ms).length < sizeLine := by
  have := m.len
  rw [List.length_map]
  exact Nat.lt_of_le_of_lt (show _ ≤ 5000 by omega) (by decide)
end
theorem vals_get {xs : List V} {us : List Value} (h : Vals xs us) : ∀ {j : Nat} {x : V}, xs[j]? = some x → ∃ y, us[j]? = some y ∧ RelV x y := by
  induction h with
  | nil => intro j x e; simp at e
  | cons a _ ih =>
    intro j x e
    cases j with
    | zero =>
      rw [List.getElem?_cons_zero] at e
      cases e
      exact ⟨_, rfl, a⟩
    | succ j => rw [List.getElem?_cons_succ] at e ⊢; exact ih e
end TP

namespace TP
open PySem PySem.Spec PyProof.Rows L2
/-! ### values of two kinds that decline -/
theorem rc_eq_no {M : Model} {A : Around} {E : Value → Shared → Prop} {s : Shared} {a b : Value} {Ta Tb ida idb : String} {Q : Value → Shared → Prop} (ta : s.TypeIs a Ta) (tb : s.TypeIs b Tb) (ne : (Value.type Ta != Value.type Tb) = true) (sub : isSubtype (.type Tb) (.type Ta) = pure false)
    (sa : Slot Ta (cmpInfo .Eq).2.1 ida) (sb : Slot Tb (cmpInfo .Eq).2.2 idb) (one : oneThing? .Eq a b = none) (hu : A.units < cLine)
    (h1 : ∀ Q : Value → Shared → Prop, Q .notImplemented s → wpAny M A (call (.builtin ida) [a, b]) Q E s) (h2 : ∀ Q : Value → Shared → Prop, Q .notImplemented s → wpAny M A (call (.builtin idb) [b, a]) Q E s)
    (hs : ∀ Q : Bool → Shared → Prop, Q false s → wpAny M A (isSame a b) Q E s) (q : Q (.bool false) s) : wpAny M A (richCompare .Eq a b) Q E s := by
  unfold richCompare
  refine wpAny_holding (wpAny_bind (wpAny_cRoomFor hu ?_))
  rw [one]
  refine wpAny_bind (wpAny_typeOf ta (wpAny_bind (wpAny_typeOf tb ?_)))
  simp only [ne, if_true, sub]
  refine wpAny_bind (wpAny_pure ?_)
  simp only [Bool.false_eq_true, if_false, Bool.not_false, if_true]
  refine wpAny_bind (wpAny_tryCompare_declines ta sa (h1 _ ⟨rfl, ?_⟩))
  refine wpAny_bind (wpAny_tryCompare_declines tb sb (h2 _ ⟨rfl, ?_⟩))
  refine wpAny_bind (wpAny_rule (wpAny_bind (hs _ (wpAny_pure q))))
theorem rc_ne_no {M : Model} {A : Around} {E : Value → Shared → Prop} {s : Shared} {a b : Value} {Ta Tb ida idb : String} {Q : Value → Shared → Prop} (ta : s.TypeIs a Ta) (tb : s.TypeIs b Tb) (ne : (Value.type Ta != Value.type Tb) = true) (sub : isSubtype (.type Tb) (.type Ta) = pure false)
    (sa : Slot Ta (cmpInfo .NotEq).2.1 ida) (sb : Slot Tb (cmpInfo .NotEq).2.2 idb) (one : oneThing? .NotEq a b = none) (hu : A.units < cLine)
    (h1 : ∀ Q : Value → Shared → Prop, Q .notImplemented s → wpAny M A (call (.builtin ida) [a, b]) Q E s) (h2 : ∀ Q : Value → Shared → Prop, Q .notImplemented s → wpAny M A (call (.builtin idb) [b, a]) Q E s)
    (hs : ∀ Q : Bool → Shared → Prop, Q false s → wpAny M A (isSame a b) Q E s) (q : Q (.bool true) s) : wpAny M A (richCompare .NotEq a b) Q E s := by
  unfold richCompare
  refine wpAny_holding (wpAny_bind (wpAny_cRoomFor hu ?_))
  rw [one]
  refine wpAny_bind (wpAny_typeOf ta (wpAny_bind (wpAny_typeOf tb ?_)))
  simp only [ne, if_true, sub]
  refine wpAny_bind (wpAny_pure ?_)
  simp only [Bool.false_eq_true, if_false, Bool.not_false, if_true]
  refine wpAny_bind (wpAny_tryCompare_declines ta sa (h1 _ ⟨rfl, ?_⟩))
  refine wpAny_bind (wpAny_tryCompare_declines tb sb (h2 _ ⟨rfl, ?_⟩))
  refine wpAny_bind (wpAny_rule (wpAny_bind (hs _ (wpAny_pure q))))
/-! ### a dict declines what is no dict -/
section
variable {prog : Program} {w : World} {A : Around} {E : Value → Shared → Prop} {s : Shared} {a : Addr} {v : Value} {T : String}
theorem dict_eq_no (ta : s.TypeIs (.ref a) "dict") (tv : s.TypeIs v T) (sub : isSubtype (.type T) (.type "dict") = pure false) (Q : Value → Shared → Prop) (q : Q .notImplemented s) : wpAny (model prog w) A (call (.builtin "dict.__eq__") [.ref a, v]) Q E s := by
  refine wpAny_call_entry PySem.F.slot_dict_eq ta PySem.F.entry_dict_eq ?_ (PySem.F.args_dict_eq_2 _ _)
  refine wpAny_bind ?_
  unfold Builtin.Dict.dictSlotArgs
  refine wpAny_bind (wpAny_notOrdered_dict ta (wpAny_pure (wpAny_bind (wpAny_isInstance (T := T) tv sub ?_))))
  simp only [Bool.not_false, if_true]
  exact wpAny_bind (wpAny_rule (wpAny_pure ⟨_, rfl, q⟩))
theorem dict_ne_no (ta : s.TypeIs (.ref a) "dict") (tv : s.TypeIs v T) (sub : isSubtype (.type T) (.type "dict") = pure false) (Q : Value → Shared → Prop) (q : Q .notImplemented s) : wpAny (model prog w) A (call (.builtin "dict.__ne__") [.ref a, v]) Q E s := by
  refine wpAny_call_entry PySem.F.slot_dict_ne ta PySem.F.entry_dict_ne ?_ (PySem.F.args_dict_ne_2 _ _)
  refine wpAny_bind ?_
  unfold Builtin.Dict.dictSlotArgs
  refine wpAny_bind (wpAny_notOrdered_dict ta (wpAny_pure (wpAny_bind (wpAny_isInstance (T := T) tv sub ?_))))
  simp only [Bool.not_false, if_true]
  exact wpAny_bind (wpAny_rule (wpAny_pure ⟨_, rfl, q⟩))
theorem none_eq_no {a : Addr} (Q : Value → Shared → Prop) (q : Q .notImplemented s) : wpAny (model prog w) A (call (.builtin "NoneType.__eq__") [.none, .ref a]) Q E s := by
  refine wpAny_call_entry PySem.F.slot_NoneType_eq rfl PySem.F.entry_NoneType_eq ?_ (PySem.F.args_NoneType_eq_2 _ _)
  exact wpAny_bind (wpAny_pure (wpAny_pure ⟨_, rfl, q⟩))
theorem none_ne_no {a : Addr} (Q : Value → Shared → Prop) (q : Q .notImplemented s) : wpAny (model prog w) A (call (.builtin "NoneType.__ne__") [.none, .ref a]) Q E s := by
  refine wpAny_call_entry PySem.F.slot_NoneType_ne rfl PySem.F.entry_NoneType_ne ?_ (PySem.F.args_NoneType_ne_2 _ _)
  exact wpAny_bind (wpAny_pure (wpAny_pure ⟨_, rfl, q⟩))
theorem int_eq_no {a : Addr} {i : Int} {t : Tok} {o : Obj} {es : Array DictEntry} {n : Nat} (ho : s.heap.get? a = some o) (hd : o.data = .dict es n) (Q : Value → Shared → Prop) (q : Q .notImplemented s) : wpAny (model prog w) A (call (.builtin "int.__eq__") [.int i t, .ref a]) Q E s := by
  refine wpAny_call_entry PySem.F.slot_int_eq rfl PySem.F.entry_int_eq ?_ (PySem.F.args_int_eq_2 _ _)
  refine wpAny_bind (wpAny_pure (wpAny_bind (wpAny_pure (wpAny_bind ?_))))
  refine wpAny_bind (wpAny_load ho ?_)
  simp only [hd]
  exact wpAny_pure (wpAny_bind (wpAny_rule (wpAny_pure ⟨_, rfl, q⟩)))
theorem str_eq_no {a : Addr} {x : Str} {t : Tok} {o : Obj} {es : Array DictEntry} {n : Nat} (ho : s.heap.get? a = some o) (hd : o.data = .dict es n) (Q : Value → Shared → Prop) (q : Q .notImplemented s) : wpAny (model prog w) A (call (.builtin "str.__eq__") [.str x t, .ref a]) Q E s := by
  refine wpAny_call_entry PySem.F.slot_str_eq rfl PySem.F.entry_str_eq ?_ (PySem.F.args_str_eq_2 _ _)
  refine wpAny_bind (wpAny_bind (wpAny_pure (wpAny_bind (wpAny_pure (wpAny_pure (wpAny_bind ?_))))))
  refine wpAny_bind (wpAny_load ho ?_)
  simp only [hd]
  exact wpAny_pure (wpAny_bind (wpAny_rule (wpAny_pure ⟨_, rfl, q⟩)))
theorem list_eq_no {l a : Addr} (tl : s.TypeIs (.ref l) "list") (ta : s.TypeIs (.ref a) "dict") (Q : Value → Shared → Prop) (q : Q .notImplemented s) : wpAny (model prog w) A (call (.builtin "list.__eq__") [.ref l, .ref a]) Q E s := by
  refine wpAny_call_entry PySem.F.slot_list_eq tl PySem.F.entry_list_eq ?_ (PySem.F.args_list_eq_2 _ _)
  refine wpAny_bind (wpAny_pure (wpAny_bind (wpAny_isInstance (T := "dict") ta (by rfl) ?_)))
  exact wpAny_pure ⟨_, rfl, q⟩
theorem int_ne_no {a : Addr} {i : Int} {t : Tok} {o : Obj} {es : Array DictEntry} {n : Nat} (ho : s.heap.get? a = some o) (hd : o.data = .dict es n) (Q : Value → Shared → Prop) (q : Q .notImplemented s) : wpAny (model prog w) A (call (.builtin "int.__ne__") [.int i t, .ref a]) Q E s := by
  refine wpAny_call_entry PySem.F.slot_int_ne rfl PySem.F.entry_int_ne ?_ (PySem.F.args_int_ne_2 _ _)
  refine wpAny_bind (wpAny_pure (wpAny_bind (wpAny_pure (wpAny_bind ?_))))
  refine wpAny_bind (wpAny_load ho ?_)
  simp only [hd]
  exact wpAny_pure (wpAny_bind (wpAny_rule (wpAny_pure ⟨_, rfl, q⟩)))
theorem str_ne_no {a : Addr} {x : Str} {t : Tok} {o : Obj} {es : Array DictEntry} {n : Nat} (ho : s.heap.get? a = some o) (hd : o.data = .dict es n) (Q : Value → Shared → Prop) (q : Q .notImplemented s) : wpAny (model prog w) A (call (.builtin "str.__ne__") [.str x t, .ref a]) Q E s := by
  refine wpAny_call_entry PySem.F.slot_str_ne rfl PySem.F.entry_str_ne ?_ (PySem.F.args_str_ne_2 _ _)
  refine wpAny_bind (wpAny_bind (wpAny_pure (wpAny_bind (wpAny_pure (wpAny_pure (wpAny_bind ?_))))))
  refine wpAny_bind (wpAny_load ho ?_)
  simp only [hd]
  exact wpAny_pure (wpAny_bind (wpAny_rule (wpAny_pure ⟨_, rfl, q⟩)))
theorem list_ne_no {l a : Addr} (tl : s.TypeIs (.ref l) "list") (ta : s.TypeIs (.ref a) "dict") (Q : Value → Shared → Prop) (q : Q .notImplemented s) : wpAny (model prog w) A (call (.builtin "list.__ne__") [.ref l, .ref a]) Q E s := by
  refine wpAny_call_entry PySem.F.slot_list_ne tl PySem.F.entry_list_ne ?_ (PySem.F.args_list_ne_2 _ _)
  refine wpAny_bind (wpAny_pure (wpAny_bind (wpAny_isInstance (T := "dict") ta (by rfl) ?_)))
  exact wpAny_pure ⟨_, rfl, q⟩
end

/-! ### == of any two documents -/
open Classical in
noncomputable def deq (d e : D) : Bool := decide (d = e)
open Classical in
theorem deq_t {d e : D} (h : d = e) : deq d e = true := by unfold deq; exact decide_eq_true h
open Classical in
theorem deq_f {d e : D} (h : d ≠ e) : deq d e = false := by unfold deq; exact decide_eq_false h
open Classical in
theorem deq_iff {d e : D} : deq d e = true ↔ d = e := by unfold deq; exact decide_eq_true_iff
theorem bool_of {b c : Bool} (h : b = true ↔ c = true) : b = c := by cases b <;> cases c <;> simp_all
section
variable {P : Program} {w : World} {A : Around} {s : Shared}
theorem eqP_rc {v u : Value} {k : Bool} (ne : (v == u) = false) (h : (∃ a, v = .ref a) ∨ ∃ a, u = .ref a) (rc : ∀ (E Q : Value → Shared → Prop), Q (.bool k) s → wpAny (model P w) A (richCompare .Eq v u) Q E s) : SeqAt.EqP P w A s v u k := by
  intro E Q q
  unfold eqBool
  refine wpAny_holding ?_
  rw [ne]
  simp only [Bool.false_eq_true, if_false]
  have fin : wpAny (model P w) A (do let r ← richCompare .Eq v u; truthOfDropped r) Q E s := wpAny_bind (rc _ _ (by show wpAny _ _ (truthOfDropped (.bool k)) Q E s; exact wpAny_pure q))
  rcases h with ⟨a, rfl⟩ | ⟨a, rfl⟩
  · exact fin
  · cases v <;> exact fin
end
section
variable {X : Cx} {pins : List (Addr × Obj)} {σ : L2.St} {H : Hp} {s : Shared}
theorem dk_obj (I : Inv X pins σ H s) {a : Addr} {kvs : List (Key × V)} (h : H a = some (.dK kvs)) : s.TypeIs (.ref a) "dict" ∧ ∃ o es n, s.heap.get? a = some o ∧ o.data = .dict es n ∧ o.cls = .type "dict" := by
  obtain ⟨_, _, _, _, da⟩ := dk_rd I.hok (.inl h)
  have t := da.typeIs
  obtain ⟨o, es, n, h1, h2, h3, _⟩ := da
  obtain ⟨o', g1, g2⟩ := t
  rw [h1] at g1
  cases g1
  exact ⟨⟨o, h1, g2⟩, o, es, n, h1, h3, g2⟩
/-- an atom and a dict -/
theorem sc_dict (I : Inv X pins σ H s) {A : Around} (hu : A.units < cLine) {x : V} {v : Value} {a : Addr} {kvs : List (Key × V)} (hx : isSc x = true) (r : RelV x v) (h : H a = some (.dK kvs)) : SeqAt.EqP X.prog X.w A s v (.ref a) false ∧ SeqAt.EqP X.prog X.w A s (.ref a) v false := by
  obtain ⟨ta, o, es, n, ho, hd, _⟩ := dk_obj I h
  cases x with
  | non =>
    cases (show v = Value.none from r)
    exact ⟨eqP_rc rfl (.inr ⟨_, rfl⟩) fun E Q q => rc_eq_no (Ta := "NoneType") (Tb := "dict") rfl ta (by decide) (by rfl) PySem.F.slot_NoneType_eq PySem.F.slot_dict_eq_refl rfl hu (fun Q q => none_eq_no Q q) (fun Q q => dict_eq_no (T := "NoneType") (v := .none) ta rfl (by rfl) Q q) (fun Q q => wpAny_pure q) q,
      eqP_rc rfl (.inl ⟨_, rfl⟩) fun E Q q => rc_eq_no (Ta := "dict") (Tb := "NoneType") ta rfl (by decide) (by rfl) PySem.F.slot_dict_eq PySem.F.slot_NoneType_eq_refl rfl hu (fun Q q => dict_eq_no (T := "NoneType") (v := .none) ta rfl (by rfl) Q q) (fun Q q => none_eq_no Q q) (fun Q q => wpAny_pure q) q⟩
  | int i =>
    obtain ⟨t, rfl⟩ := (show ∃ t, v = Value.int i t from r)
    exact ⟨eqP_rc rfl (.inr ⟨_, rfl⟩) fun E Q q => rc_eq_no (Ta := "int") (Tb := "dict") rfl ta (by decide) (by rfl) PySem.F.slot_int_eq PySem.F.slot_dict_eq_refl rfl hu (fun Q q => int_eq_no ho hd Q q) (fun Q q => dict_eq_no (T := "int") (v := .int i t) ta rfl (by rfl) Q q) (fun Q q => wpAny_pure q) q,
      eqP_rc rfl (.inl ⟨_, rfl⟩) fun E Q q => rc_eq_no (Ta := "dict") (Tb := "int") ta rfl (by decide) (by rfl) PySem.F.slot_dict_eq PySem.F.slot_int_eq_refl rfl hu (fun Q q => dict_eq_no (T := "int") (v := .int i t) ta rfl (by rfl) Q q) (fun Q q => int_eq_no ho hd Q q) (fun Q q => wpAny_pure q) q⟩
  | str y =>
    obtain ⟨t, rfl⟩ := (show ∃ t, v = Value.str y t from r)
    exact ⟨eqP_rc rfl (.inr ⟨_, rfl⟩) fun E Q q => rc_eq_no (Ta := "str") (Tb := "dict") rfl ta (by decide) (by rfl) PySem.F.slot_str_eq PySem.F.slot_dict_eq_refl rfl hu (fun Q q => str_eq_no ho hd Q q) (fun Q q => dict_eq_no (T := "str") (v := .str y t) ta rfl (by rfl) Q q) (fun Q q => wpAny_pure q) q,
      eqP_rc rfl (.inl ⟨_, rfl⟩) fun E Q q => rc_eq_no (Ta := "dict") (Tb := "str") ta rfl (by decide) (by rfl) PySem.F.slot_dict_eq PySem.F.slot_str_eq_refl rfl hu (fun Q q => dict_eq_no (T := "str") (v := .str y t) ta rfl (by rfl) Q q) (fun Q q => str_eq_no ho hd Q q) (fun Q q => wpAny_pure q) q⟩
  | _ => cases hx
/-- a list and a dict -/
theorem ls_dict (I : Inv X pins σ H s) {A : Around} (hu : A.units < cLine) {l a : Addr} {xs : List V} {kvs : List (Key × V)} (hl : H l = some (.lst xs)) (h : H a = some (.dK kvs)) : SeqAt.EqP X.prog X.w A s (.ref l) (.ref a) false ∧ SeqAt.EqP X.prog X.w A s (.ref a) (.ref l) false := by
  obtain ⟨ta, o, es, n, ho, hd, hc⟩ := dk_obj I h
  obtain ⟨us, _, p1, _⟩ := I.list (.inl (.inl hl))
  obtain ⟨ol, g1, g2⟩ : s.TypeIs (.ref l) "list" := p1.isList.typeIs
  have tl : s.TypeIs (.ref l) "list" := ⟨ol, g1, g2⟩
  have ne : l ≠ a := fun z => by rw [z, h] at hl; cases hl
  refine ⟨SeqAt.eqP_refs ne fun E Q q => rc_eq_no (Ta := "list") (Tb := "dict") tl ta (by decide) (by rfl) PySem.F.slot_list_eq PySem.F.slot_dict_eq_refl rfl hu (fun Q q => list_eq_no tl ta Q q) (fun Q q => dict_eq_no (T := "list") ta tl (by rfl) Q q) (fun Q q => wpAny_isSame_ref_other ne g1 ho (by rw [g2]; decide) q) q,
    SeqAt.eqP_refs ne.symm fun E Q q => rc_eq_no (Ta := "dict") (Tb := "list") ta tl (by decide) (by rfl) PySem.F.slot_dict_eq PySem.F.slot_list_eq_refl rfl hu (fun Q q => dict_eq_no (T := "list") ta tl (by rfl) Q q) (fun Q q => list_eq_no tl ta Q q) (fun Q q => wpAny_isSame_ref_other ne.symm ho g1 (by rw [hc]; decide) q) q⟩
/-- two atoms -/
theorem sc_at {A : Around} {x y : V} {v u : Value} (hx : isSc x = true) (hy : isSc y = true) (r : RelV x v) (r' : RelV y u) : SeqAt.EqAt A s v u (deq (.sc x) (.sc y)) := by
  have no : x ≠ y → deq (.sc x) (.sc y) = false := fun n => deq_f fun z => n (by injection z)
  by_cases e : x = y
  · subst e
    rw [deq_t rfl]
    exact eqAt_same r r' (flat_sc hx)
  · rw [no e]
    cases x with
    | non =>
      cases (show v = Value.none from r)
      cases y with
      | non => exact absurd rfl e
      | int j => obtain ⟨t, rfl⟩ := (show ∃ t, u = Value.int j t from r'); exact SeqAt.EqAt.none_int _ _
      | str z => obtain ⟨t, rfl⟩ := (show ∃ t, u = Value.str z t from r'); exact SeqAt.EqAt.none_str _ _
      | _ => cases hy
    | int i =>
      obtain ⟨t, rfl⟩ := (show ∃ t, v = Value.int i t from r)
      cases y with
      | non => cases (show u = Value.none from r'); exact SeqAt.EqAt.int_none _ _
      | int j =>
        obtain ⟨t', rfl⟩ := (show ∃ t, u = Value.int j t from r')
        have := SeqAt.EqAt.int_int (A := A) (s := s) i t j t'
        rwa [show (i == j) = false from beq_eq_false_iff_ne.mpr fun z => e (by rw [z])] at this
      | str z => obtain ⟨t', rfl⟩ := (show ∃ t, u = Value.str z t from r'); exact SeqAt.EqAt.int_str _ _ _ _
      | _ => cases hy
    | str i =>
      obtain ⟨t, rfl⟩ := (show ∃ t, v = Value.str i t from r)
      cases y with
      | non => cases (show u = Value.none from r'); exact SeqAt.EqAt.str_none _ _
      | int j => obtain ⟨t', rfl⟩ := (show ∃ t, u = Value.int j t from r'); exact SeqAt.EqAt.str_int _ _ _ _
      | str z =>
        obtain ⟨t', rfl⟩ := (show ∃ t, u = Value.str z t from r')
        have := SeqAt.EqAt.str_str (A := A) (s := s) i t z t'
        rwa [show (i == z) = false from beq_eq_false_iff_ne.mpr fun q => e (by rw [q])] at this
      | _ => cases hy
    | _ => cases hx
theorem sc_sc {A : Around} {x y : V} {v u : Value} (hx : isSc x = true) (hy : isSc y = true) (r : RelV x v) (r' : RelV y u) : SeqAt.EqP X.prog X.w A s v u (deq (.sc x) (.sc y)) := (sc_at hx hy r r').eqP
/-- an atom and a list -/
theorem sc_list (I : Inv X pins σ H s) {A : Around} (hu : A.units < cLine) {x : V} {v : Value} {a : Addr} {xs : List V} (hx : isSc x = true) (r : RelV x v) (h : H a = some (.lst xs)) : SeqAt.EqP X.prog X.w A s v (.ref a) false ∧ SeqAt.EqP X.prog X.w A s (.ref a) v false := by
  obtain ⟨us, _, p1, _⟩ := I.list (.inl (.inl h))
  have l := p1.isList
  cases x with
  | non => cases (show v = Value.none from r); exact ⟨(SeqAt.EqAt.none_list l hu).eqP, (SeqAt.EqAt.list_none l hu).eqP⟩
  | int i => obtain ⟨t, rfl⟩ := (show ∃ t, v = Value.int i t from r); exact ⟨(SeqAt.EqAt.int_list _ _ l hu).eqP, (SeqAt.EqAt.list_int _ _ l hu).eqP⟩
  | str i => obtain ⟨t, rfl⟩ := (show ∃ t, v = Value.str i t from r); exact ⟨(SeqAt.EqAt.str_list _ _ l hu).eqP, (SeqAt.EqAt.list_str _ _ l hu).eqP⟩
  | _ => cases hx
theorem vals_at : ∀ {zs : List V} {us : List Value}, Vals zs us → ∀ j (h1 : j < us.length), ∃ h : j < zs.length, RelV zs[j] us[j]
  | _, _, .nil, j, h1 => absurd h1 (Nat.not_lt_zero j)
  | _, _, .cons r _, 0, _ => ⟨Nat.zero_lt_succ _, r⟩
  | _, _, .cons _ rs, j + 1, h1 => let ⟨h, q⟩ := vals_at rs j (Nat.lt_of_succ_lt_succ h1); ⟨Nat.succ_lt_succ h, q⟩
/-- two lists of atoms -/
theorem ls_ls (I : Inv X pins σ H s) {A : Around} (hu : A.units + 1 < cLine) {a b : Addr} {xs ys : List V} (h : H a = some (.lst xs)) (h' : H b = some (.lst ys)) (hx : ∀ x ∈ xs, isSc x = true) (hy : ∀ y ∈ ys, isSc y = true) : SeqAt.EqP X.prog X.w A s (.ref a) (.ref b) (deq (.ls xs) (.ls ys)) := by
  by_cases e : a = b
  · subst e
    rw [h] at h'
    cases h'
    rw [deq_t rfl]
    exact (SeqAt.EqAt.same _).eqP
  obtain ⟨us, r1, p1, _⟩ := I.list (.inl (.inl h))
  obtain ⟨ws, r2, p2, _⟩ := I.list (.inl (.inl h'))
  by_cases hl : xs.length = ys.length
  · have hl' : us.length = ws.length := by rw [← r1.length, ← r2.length, hl]
    refine SeqAt.eqP_refs e fun E Q q => SeqAt.rcP_lists (e := fun j => deq (.sc (xs.getD j .non)) (.sc (ys.getD j .non))) p1.isList p2.isList (by rw [List.size_toArray, List.size_toArray, hl']) (by omega) (fun j h1 h2 => ?_) E Q ?_
    · have h1 : j < us.length := by simpa using h1
      have h2 : j < ws.length := by simpa using h2
      obtain ⟨k1, q1⟩ := vals_at r1 j h1
      obtain ⟨k2, q2⟩ := vals_at r2 j h2
      have := sc_sc (X := X) (s := s) (A := A.in1) (hx _ (List.getElem_mem k1)) (hy _ (List.getElem_mem k2)) q1 q2
      simpa [List.getD_eq_getElem?_getD, k1, k2] using this
    · have : deq (.ls xs) (.ls ys) = (List.range us.toArray.size).all fun j => deq (.sc (xs.getD j .non)) (.sc (ys.getD j .non)) := by
        refine bool_of ?_
        rw [deq_iff, List.all_eq_true, List.size_toArray, ← r1.length]
        constructor
        · intro z j _
          injection z with z
          rw [z]
          exact deq_t rfl
        · intro z
          congr 1
          refine List.ext_getElem hl fun j h1 h2 => ?_
          have := deq_iff.mp (z j (List.mem_range.mpr h1))
          injection this with this
          simpa [List.getD_eq_getElem?_getD, h1, h2] using this
      rw [← this]
      exact q
  · rw [deq_f fun z => hl (by injection z with z; rw [z])]
    refine SeqAt.eqP_refs e fun E Q q => SeqAt.RcAt.lists_lengths p1.isList p2.isList ?_ (by omega) _ _ E Q q
    rw [List.size_toArray, List.size_toArray, ← r1.length, ← r2.length]
    exact bne_iff_ne.mpr hl
/-- one value stands for one document -/
theorem dc_det {S S' : Addr → Prop} {G G' : Gen} {H : Hp} : ∀ {n m : Nat} {v : V} {d e : D}, Dc S G H n v d → Dc S' G' H m v e → d = e
  | 0, _, _, _, _, h, _ => (show False from h).elim
  | _ + 1, 0, _, _, _, _, h => (show False from h).elim
  | n + 1, m + 1, v, d, e, h, h' => by
    rcases h with ⟨hv, rfl⟩ | ⟨a, xs, rfl, s1, r, hx, rfl⟩ | ⟨a, ms, f, rfl, s1, r, nd, ks, rfl, no, at'⟩
    · rcases h' with ⟨_, rfl⟩ | ⟨b, ys, rfl, _⟩ | ⟨b, ms', f', rfl, _⟩
      · rfl
      · exact nomatch G.sc _ hv
      · exact nomatch G.sc _ hv
    · rcases h' with ⟨hv, _⟩ | ⟨b, ys, z, s', r', hy, rfl⟩ | ⟨b, ms', f', z, s', r', _⟩
      · exact nomatch G'.sc _ hv
      · cases z; rw [r] at r'; cases r'; rfl
      · cases z; rw [r] at r'; cases r'
    · rcases h' with ⟨hv, _⟩ | ⟨b, ys, z, s', r', hy, rfl⟩ | ⟨b, ms', f', z, s', r', nd', ks', rfl, no', at''⟩
      · exact nomatch G'.sc _ hv
      · cases z; rw [r] at r'; cases r'
      · cases z
        rw [r] at r'
        have e' : kvsOf ms = kvsOf ms' := by injection r' with r'; injection r'
        have vv : ∀ j, valV ms' j = valV ms j := fun j => by rw [← valV_inK, ← valV_inK, e']
        congr 1
        funext k
        cases hk : valV ms k with
        | none => rw [no k hk, no' k (by rw [vv]; exact hk)]
        | some u => exact dc_det (at' k u hk) (at'' k u (by rw [vv]; exact hk))
theorem hits_dec {Pg : Program} {w : World} {A : Around} {S S' : Addr → Prop} {G G' : Gen} {n m : Nat} {ms' : List (Str × V)} {f f' : Str → D} (M' : Mem S' G' H m ms' f') {vb : List (Key × Value)} (rb : KV (kvsOf ms') vb)
    (run : ∀ (x y : V) (d e : D) (v u : Value), Dc S G H n x d → Dc S' G' H m y e → RelV x v → RelV y u → SeqAt.EqP Pg w A s v u (deq d e)) : ∀ {ms : List (Str × V)} {va : List (Key × Value)}, KV (kvsOf ms) va → (∀ p ∈ ms, Dc S G H n p.2 (f p.1)) → ∃ r, PySem.W.KeqHitsP Pg w A s vb va r ∧ (r = true ↔ ∀ p ∈ ms, f p.1 = f' p.1)
  | [], _, .nil, _ => ⟨true, .nil, ⟨fun _ p hp => (nomatch hp), fun _ => rfl⟩⟩
  | p :: ms, _, .cons (b := q) ⟨hk, rv⟩ rs, h => by
    obtain ⟨r, hr, hi⟩ := hits_dec M' rb run rs fun p hp => h p (List.mem_cons_of_mem _ hp)
    have hp := h p List.mem_cons_self
    have ro := KV.val rb q.1
    rw [← hk] at ro
    have ro : RelO (valV (kvsOf ms') (Sum.inr p.1)) (valueAt vb q.1) := by rw [← hk]; exact ro
    rw [valV_inK] at ro
    obtain ⟨qk, qv⟩ := q
    cases e : valV ms' p.1 with
    | none =>
      rw [e] at ro
      have nn : valueAt vb qk = none := by
        cases z : valueAt vb qk with
        | none => rfl
        | some y => rw [z] at ro; exact ro.elim
      refine ⟨false, .miss nn, ⟨fun z => (nomatch z), fun z => ?_⟩⟩
      have := z p List.mem_cons_self
      rw [M'.no _ e] at this
      have ne := hp.ne_nil
      rw [this] at ne
      cases ne
    | some u =>
      rw [e] at ro
      obtain ⟨y, hy, ry⟩ : ∃ y, valueAt vb qk = some y ∧ RelV u y := by
        cases z : valueAt vb qk with
        | none => rw [z] at ro; exact ro.elim
        | some y => rw [z] at ro; exact ⟨y, rfl, ro⟩
      refine ⟨_, .hit hy (run _ _ _ _ _ _ hp (M'.at' _ _ e) rv ry) hr, ?_⟩
      rw [Bool.and_eq_true, deq_iff, hi]
      constructor
      · rintro ⟨z1, z2⟩ p' hp'
        rcases List.mem_cons.mp hp' with rfl | hp'
        · exact z1
        · exact z2 p' hp'
      · exact fun z => ⟨z p List.mem_cons_self, fun p' hp' => z p' (List.mem_cons_of_mem _ hp')⟩
/-- same members -/
theorem ob_iff {S S' : Addr → Prop} {G G' : Gen} {n m : Nat} {ms ms' : List (Str × V)} {f f' : Str → D} (h : Mem S G H n ms f) (h' : Mem S' G' H m ms' f') : D.ob f = D.ob f' ↔ ms.length = ms'.length ∧ ∀ p ∈ ms, f p.1 = f' p.1 := by
  constructor
  · intro e
    injection e with e
    subst e
    exact ⟨(ob_keys h h').1, fun _ _ => rfl⟩
  · rintro ⟨hl, z⟩
    congr 1
    funext k
    by_cases hk : k ∈ ms.map (·.1)
    · obtain ⟨p, hp, rfl⟩ := List.mem_map.mp hk
      exact z p hp
    · rw [h.no k (valV_none_of hk)]
      have sub : ∀ j ∈ ms.map (·.1), j ∈ ms'.map (·.1) := fun j hj => by
        obtain ⟨p, hp, rfl⟩ := List.mem_map.mp hj
        refine Classical.byContradiction fun n => ?_
        have e := z p hp
        rw [h'.no p.1 (valV_none_of n)] at e
        have ne := (h.at' p.1 p.2 (valV_of_mem h.nd hp)).ne_nil
        rw [e] at ne
        cases ne
      refine (h'.no k (valV_none_of fun hk' => ?_)).symm
      have := sub_len (xs := k :: ms.map (·.1)) (ys := ms'.map (·.1)) (List.nodup_cons.mpr ⟨hk, h.nd⟩) (fun j hj => (List.mem_cons.mp hj).elim (fun e => by rw [e]; exact hk') (sub j))
      rw [List.length_cons, List.length_map, List.length_map] at this
      omega
/-- any two documents compared -/
theorem docs_dec (I : Inv X pins σ H s) {S S' : Addr → Prop} {G G' : Gen} : ∀ (n m : Nat) (A : Around) (x y : V) (d e : D) (v u : Value), A.units + n + 1 < cLine → Dc S G H n x d → Dc S' G' H m y e → RelV x v → RelV y u → SeqAt.EqP X.prog X.w A s v u (deq d e)
  | 0, _, _, _, _, _, _, _, _, _, h, _, _, _ => (show False from h).elim
  | _ + 1, 0, _, _, _, _, _, _, _, _, _, h, _, _ => (show False from h).elim
  | n + 1, m + 1, A, x, y, d, e, v, u, hu, h, h', rx, ry => by
    rcases id h with ⟨hx, rfl⟩ | ⟨a, xs, rfl, s1, r, hx, rfl⟩ | ⟨a, ms, f, rfl, s1, r, nd, ks, rfl, no, at'⟩
    · rcases id h' with ⟨hy, rfl⟩ | ⟨b, ys, rfl, s', r', hy, rfl⟩ | ⟨b, ms', f', rfl, s', r', nd', ks', rfl, no', at''⟩
      · exact sc_sc (G.sc _ hx) (G'.sc _ hy) rx ry
      · cases (show u = Value.ref b from ry)
        rw [deq_f (show D.sc x ≠ D.ls ys from fun z => nomatch z)]
        exact (sc_list I (by omega) (G.sc _ hx) rx r').1
      · cases (show u = Value.ref b from ry)
        rw [deq_f (show D.sc x ≠ D.ob f' from fun z => nomatch z)]
        exact (sc_dict I (by omega) (G.sc _ hx) rx r').1
    · cases (show v = Value.ref a from rx)
      rcases id h' with ⟨hy, rfl⟩ | ⟨b, ys, rfl, s', r', hy, rfl⟩ | ⟨b, ms', f', rfl, s', r', nd', ks', rfl, no', at''⟩
      · rw [deq_f (show D.ls xs ≠ D.sc y from fun z => nomatch z)]
        exact (sc_list I (by omega) (G'.sc _ hy) ry r).2
      · cases (show u = Value.ref b from ry)
        exact ls_ls I (by omega) r r' (fun x z => G.sc _ (hx.2 x z)) fun y z => G'.sc _ (hy.2 y z)
      · cases (show u = Value.ref b from ry)
        rw [deq_f (show D.ls xs ≠ D.ob f' from fun z => nomatch z)]
        exact (ls_dict I (by omega) r r').1
    · cases (show v = Value.ref a from rx)
      rcases id h' with ⟨hy, rfl⟩ | ⟨b, ys, rfl, s', r', hy, rfl⟩ | ⟨b, ms', f', rfl, s', r', nd', ks', rfl, no', at''⟩
      · rw [deq_f (show D.ob f ≠ D.sc y from fun z => nomatch z)]
        exact (sc_dict I (by omega) (G'.sc _ hy) ry r).2
      · cases (show u = Value.ref b from ry)
        rw [deq_f (show D.ob f ≠ D.ls ys from fun z => nomatch z)]
        exact (ls_dict I (by omega) r' r).2
      · cases (show u = Value.ref b from ry)
        by_cases e : a = b
        · subst e
          rw [deq_t (dc_det h h')]
          exact (SeqAt.EqAt.same _).eqP
        have M : Mem S G H n ms f := ⟨nd, ks, no, at'⟩
        have M' : Mem S' G' H m ms' f' := ⟨nd', ks', no', at''⟩
        obtain ⟨_, ya, va, ra, da⟩ := dk_rd I.hok (.inl r)
        obtain ⟨_, yb, vb, rb, db⟩ := dk_rd I.hok (.inl r')
        obtain ⟨b', hb, hi⟩ := hits_dec (A := A.in1) (f := f) M' rb (fun x y d e v u h1 h2 r1 r2 => docs_dec I n m A.in1 x y d e v u (show A.units + 1 + n + 1 < cLine by omega) h1 h2 r1 r2) ra fun p hp => M.at' p.1 p.2 (valV_of_mem nd hp)
        refine SeqAt.eqP_refs e fun E Q q => PySem.W.rcP_dicts (knd := mixKind X.prog X.w) (r := b') ya yb da db (by omega) (fun _ => hb) E Q ?_
        have : (va.length == vb.length && b') = deq (.ob f) (.ob f') := by
          refine bool_of ?_
          rw [Bool.and_eq_true, deq_iff, ob_iff M M', hi, beq_iff_eq, ← ra.length, ← rb.length, List.length_map, List.length_map]
        rw [this]
        exact q
end
end TP

namespace TP
open PySem PySem.Spec PyProof.Rows L2
section
variable {X : Cx}
def rEqD2 : R2 := fun x y H Q => ∃ (S S' : Addr → Prop) (G G' : Gen) (n m : Nat) (d e : D), n ≤ 40 ∧ Dc S G H n x d ∧ Dc S' G' H m y e ∧ Q (.bl (deq d e)) H
def rNeD2 : R2 := fun x y H Q => ∃ (S S' : Addr → Prop) (G G' : Gen) (n m : Nat) (d e : D), n ≤ 40 ∧ Dc S G H n x d ∧ Dc S' G' H m y e ∧ Q (.bl (!deq d e)) H
theorem deq_sc (x y : V) : deq (.sc x) (.sc y) = decide (x = y) := by
  refine bool_of ?_
  rw [deq_iff, decide_eq_true_iff]
  exact ⟨fun z => by injection z, fun z => by rw [z]⟩
theorem scal_two : ∀ {x y : V}, isSc x = true → isSc y = true → scal x y = true
  | .non, .non, _, _ => by simp [scal]
  | .non, .int _, _, _ => by simp [scal]
  | .non, .str _, _, _ => by simp [scal]
  | .int _, .non, _, _ => by simp [scal]
  | .int _, .int _, _, _ => by simp [scal]
  | .int _, .str _, _, _ => by simp [scal]
  | .str _, .non, _, _ => by simp [scal]
  | .str _, .int _, _, _ => by simp [scal]
  | .str _, .str _, _, _ => by simp [scal]
theorem ls_items {A : Around} {s : Shared} {xs ys : List V} {us ws : List Value} (hl : xs.length = ys.length) (r1 : Vals xs us) (r2 : Vals ys ws) (hx : ∀ x ∈ xs, isSc x = true) (hy : ∀ y ∈ ys, isSc y = true) : ∀ (j : Nat) (h1 : j < us.length) (h2 : j < ws.length), SeqAt.EqAt A s us[j] ws[j] (deq (.sc (xs.getD j .non)) (.sc (ys.getD j .non))) := fun j h1 h2 => by
  obtain ⟨k1, q1⟩ := vals_at r1 j h1
  obtain ⟨k2, q2⟩ := vals_at r2 j h2
  have := sc_at (A := A) (s := s) (hx _ (List.getElem_mem k1)) (hy _ (List.getElem_mem k2)) q1 q2
  simpa [List.getD_eq_getElem?_getD, k1, k2] using this
theorem ls_all {xs ys : List V} (hl : xs.length = ys.length) : deq (.ls xs) (.ls ys) = (List.range xs.length).all fun j => deq (.sc (xs.getD j .non)) (.sc (ys.getD j .non)) := by
  refine bool_of ?_
  rw [deq_iff, List.all_eq_true]
  constructor
  · intro z j _
    injection z with z
    rw [z]
    exact deq_t rfl
  · intro z
    congr 1
    refine List.ext_getElem hl fun j h1 h2 => ?_
    have := deq_iff.mp (z j (List.mem_range.mpr h1))
    injection this with this
    simpa [List.getD_eq_getElem?_getD, h1, h2] using this
theorem op_neD2 (hu : X.A.units + 64 < cLine) : OpR X (compareOp .NotEq) rNeD2 := by
  intro pins s σ H x y v u Q I rx ry h
  obtain ⟨S, S', G, G', n, m, d, e, hn, h, h', q⟩ := h
  cases n with
  | zero => exact (show False from h).elim
  | succ n =>
  cases m with
  | zero => exact (show False from h').elim
  | succ m =>
    have fin : ∀ b : Bool, Q (.bl b) H → EP X pins σ Q (.bool b) s := fun b z => ⟨.bl b, H, I, rfl, z⟩
    have hu0 : X.A.units < cLine := by omega
    rcases id h with ⟨hx, rfl⟩ | ⟨a, xs, rfl, s1, r, hx, rfl⟩ | ⟨a, ms, f, rfl, s1, r, nd, ks, rfl, no, at'⟩
    · have cx := G.sc _ hx
      rcases id h' with ⟨hy, rfl⟩ | ⟨b, ys, rfl, s', r', hy, rfl⟩ | ⟨b, ms', f', rfl, s', r', nd', ks', rfl, no', at''⟩
      · refine op_ne pins s σ H x y v u Q I rx ry ⟨scal_two cx (G'.sc _ hy), ?_⟩
        rw [deq_sc] at q
        exact q
      · cases (show u = Value.ref b from ry)
        rw [deq_f (show D.sc x ≠ D.ls ys from fun z => nomatch z)] at q
        obtain ⟨us, _, p1, _⟩ := I.list (.inl (.inl r'))
        have l := p1.isList
        cases x with
        | non => cases (show v = Value.none from rx); exact SeqAt.RcNeAt.none_list l hu0 _ _ _ _ (fin _ q)
        | int i => obtain ⟨t, rfl⟩ := (show ∃ t, v = Value.int i t from rx); exact SeqAt.RcNeAt.int_list _ _ l hu0 _ _ _ _ (fin _ q)
        | str i => obtain ⟨t, rfl⟩ := (show ∃ t, v = Value.str i t from rx); exact SeqAt.RcNeAt.str_list _ _ l hu0 _ _ _ _ (fin _ q)
        | _ => cases cx
      · cases (show u = Value.ref b from ry)
        rw [deq_f (show D.sc x ≠ D.ob f' from fun z => nomatch z)] at q
        obtain ⟨ta, o, es, n, ho, hd, _⟩ := dk_obj I r'
        cases x with
        | non => cases (show v = Value.none from rx); exact rc_ne_no (Ta := "NoneType") (Tb := "dict") rfl ta (by decide) (by rfl) PySem.F.slot_NoneType_ne PySem.F.slot_dict_ne_refl rfl hu0 (fun Q q => none_ne_no Q q) (fun Q q => dict_ne_no (T := "NoneType") (v := .none) ta rfl (by rfl) Q q) (fun Q q => wpAny_pure q) (fin _ q)
        | int i => obtain ⟨t, rfl⟩ := (show ∃ t, v = Value.int i t from rx); exact rc_ne_no (Ta := "int") (Tb := "dict") rfl ta (by decide) (by rfl) PySem.F.slot_int_ne PySem.F.slot_dict_ne_refl rfl hu0 (fun Q q => int_ne_no ho hd Q q) (fun Q q => dict_ne_no (T := "int") (v := .int i t) ta rfl (by rfl) Q q) (fun Q q => wpAny_pure q) (fin _ q)
        | str i => obtain ⟨t, rfl⟩ := (show ∃ t, v = Value.str i t from rx); exact rc_ne_no (Ta := "str") (Tb := "dict") rfl ta (by decide) (by rfl) PySem.F.slot_str_ne PySem.F.slot_dict_ne_refl rfl hu0 (fun Q q => str_ne_no ho hd Q q) (fun Q q => dict_ne_no (T := "str") (v := .str i t) ta rfl (by rfl) Q q) (fun Q q => wpAny_pure q) (fin _ q)
        | _ => cases cx
    · cases (show v = Value.ref a from rx)
      obtain ⟨us, r1, p1, _⟩ := I.list (.inl (.inl r))
      have l := p1.isList
      rcases id h' with ⟨hy, rfl⟩ | ⟨b, ys, rfl, s', r', hy, rfl⟩ | ⟨b, ms', f', rfl, s', r', nd', ks', rfl, no', at''⟩
      · rw [deq_f (show D.ls xs ≠ D.sc y from fun z => nomatch z)] at q
        have cy := G'.sc _ hy
        cases y with
        | non => cases (show u = Value.none from ry); exact SeqAt.RcNeAt.list_none l hu0 _ _ _ _ (fin _ q)
        | int i => obtain ⟨t, rfl⟩ := (show ∃ t, u = Value.int i t from ry); exact SeqAt.RcNeAt.list_int _ _ l hu0 _ _ _ _ (fin _ q)
        | str i => obtain ⟨t, rfl⟩ := (show ∃ t, u = Value.str i t from ry); exact SeqAt.RcNeAt.list_str _ _ l hu0 _ _ _ _ (fin _ q)
        | _ => cases cy
      · cases (show u = Value.ref b from ry)
        obtain ⟨ws, r2, p2, _⟩ := I.list (.inl (.inl r'))
        by_cases hl : xs.length = ys.length
        · refine SeqAt.RcNeAt.lists (e := fun j => deq (.sc (xs.getD j .non)) (.sc (ys.getD j .non))) l p2.isList (by rw [List.size_toArray, List.size_toArray, ← r1.length, ← r2.length, hl]) hu0 (fun j h1 h2 => ?_) _ _ _ _ ?_
          · simpa using ls_items hl r1 r2 (fun x z => G.sc _ (hx.2 x z)) (fun y z => G'.sc _ (hy.2 y z)) j (by simpa using h1) (by simpa using h2)
          · rw [ls_all hl] at q
            rw [List.size_toArray, ← r1.length]
            exact fin _ q
        · rw [deq_f (show D.ls xs ≠ D.ls ys from fun z => hl (by injection z with z; rw [z]))] at q
          refine SeqAt.RcNeAt.lists_lengths l p2.isList (by rw [List.size_toArray, List.size_toArray, ← r1.length, ← r2.length]; exact bne_iff_ne.mpr hl) hu0 _ _ _ _ (fin _ q)
      · cases (show u = Value.ref b from ry)
        rw [deq_f (show D.ls xs ≠ D.ob f' from fun z => nomatch z)] at q
        obtain ⟨ta, o, es, n, ho, hd, hc⟩ := dk_obj I r'
        have tl : s.TypeIs (.ref a) "list" := l.typeIs
        obtain ⟨ol, g1, g2⟩ := id tl
        have ne : a ≠ b := fun z => by rw [z, r'] at r; cases r
        exact rc_ne_no (Ta := "list") (Tb := "dict") tl ta (by decide) (by rfl) PySem.F.slot_list_ne PySem.F.slot_dict_ne_refl rfl hu0 (fun Q q => list_ne_no tl ta Q q) (fun Q q => dict_ne_no (T := "list") ta tl (by rfl) Q q) (fun Q q => wpAny_isSame_ref_other ne g1 ho (by rw [g2]; decide) q) (fin _ q)
    · cases (show v = Value.ref a from rx)
      obtain ⟨ta, o, es, no', ho, hd, hc⟩ := dk_obj I r
      rcases id h' with ⟨hy, rfl⟩ | ⟨b, ys, rfl, s', r', hy, rfl⟩ | ⟨b, ms', f', rfl, s', r', nd', ks', rfl, no', at''⟩
      · rw [deq_f (show D.ob f ≠ D.sc y from fun z => nomatch z)] at q
        have cy := G'.sc _ hy
        cases y with
        | non => cases (show u = Value.none from ry); exact rc_ne_no (Ta := "dict") (Tb := "NoneType") ta rfl (by decide) (by rfl) PySem.F.slot_dict_ne PySem.F.slot_NoneType_ne_refl rfl hu0 (fun Q q => dict_ne_no (T := "NoneType") (v := .none) ta rfl (by rfl) Q q) (fun Q q => none_ne_no Q q) (fun Q q => wpAny_pure q) (fin _ q)
        | int i => obtain ⟨t, rfl⟩ := (show ∃ t, u = Value.int i t from ry); exact rc_ne_no (Ta := "dict") (Tb := "int") ta rfl (by decide) (by rfl) PySem.F.slot_dict_ne PySem.F.slot_int_ne_refl rfl hu0 (fun Q q => dict_ne_no (T := "int") (v := .int i t) ta rfl (by rfl) Q q) (fun Q q => int_ne_no ho hd Q q) (fun Q q => wpAny_pure q) (fin _ q)
        | str i => obtain ⟨t, rfl⟩ := (show ∃ t, u = Value.str i t from ry); exact rc_ne_no (Ta := "dict") (Tb := "str") ta rfl (by decide) (by rfl) PySem.F.slot_dict_ne PySem.F.slot_str_ne_refl rfl hu0 (fun Q q => dict_ne_no (T := "str") (v := .str i t) ta rfl (by rfl) Q q) (fun Q q => str_ne_no ho hd Q q) (fun Q q => wpAny_pure q) (fin _ q)
        | _ => cases cy
      · cases (show u = Value.ref b from ry)
        rw [deq_f (show D.ob f ≠ D.ls ys from fun z => nomatch z)] at q
        obtain ⟨ws, r2, p2, _⟩ := I.list (.inl (.inl r'))
        have tl : s.TypeIs (.ref b) "list" := p2.isList.typeIs
        obtain ⟨ol, g1, g2⟩ := id tl
        have ne : a ≠ b := fun z => by rw [z, r'] at r; cases r
        exact rc_ne_no (Ta := "dict") (Tb := "list") ta tl (by decide) (by rfl) PySem.F.slot_dict_ne PySem.F.slot_list_ne_refl rfl hu0 (fun Q q => dict_ne_no (T := "list") ta tl (by rfl) Q q) (fun Q q => list_ne_no tl ta Q q) (fun Q q => wpAny_isSame_ref_other ne ho g1 (by rw [hc]; decide) q) (fin _ q)
      · cases (show u = Value.ref b from ry)
        have M : Mem S G H n ms f := ⟨nd, ks, no, at'⟩
        have M' : Mem S' G' H m ms' f' := ⟨nd', ks', no', at''⟩
        obtain ⟨_, ya, va, ra, da⟩ := dk_rd I.hok (.inl r)
        obtain ⟨_, yb, vb, rb, db⟩ := dk_rd I.hok (.inl r')
        obtain ⟨b', hb, hi⟩ := hits_dec (A := X.A.in1) (Pg := X.prog) (w := X.w) (s := s) (f := f) M' rb (fun x y d e v u h1 h2 r1 r2 => docs_dec I n m _ x y d e v u (show X.A.units + 1 + n + 1 < cLine by omega) h1 h2 r1 r2) ra fun p hp => M.at' p.1 p.2 (valV_of_mem nd hp)
        have e : (va.length == vb.length && b') = deq (.ob f) (.ob f') := by
          refine bool_of ?_
          rw [Bool.and_eq_true, deq_iff, ob_iff M M', hi, beq_iff_eq, ← ra.length, ← rb.length, List.length_map, List.length_map]
        refine wpAny_richCompare_same_room (op := .NotEq) da.typeIs db.typeIs PySem.F.slot_dict_ne (wpAny_call_entry PySem.F.slot_dict_ne da.typeIs PySem.F.entry_dict_ne ?_ (PySem.F.args_dict_ne_2 _ _)) (by omega)
        refine wpAny_bind ?_
        unfold Builtin.Dict.dictSlotArgs
        refine wpAny_bind (wpAny_notOrdered_dict da.typeIs (wpAny_pure (wpAny_bind (wpAny_isInstance (T := "dict") db.typeIs PySem.F.sub_dict_dict ?_))))
        simp only [Bool.not_true, Bool.false_eq_true, if_false]
        refine wpAny_bind (wpAny_pure (wpAny_bind (wpAny_pure (wpAny_bind (PySem.W.samePairsP (r := b') ya yb da db (fun _ => ?_) ?_)))))
        · exact hb
        · rw [e]
          refine wpAny_pure ⟨_, rfl, (fun x => nomatch x), ?_⟩
          have z : (deq (.ob f) (.ob f') == false) = !deq (.ob f) (.ob f') := by cases deq (.ob f) (.ob f') <;> rfl
          rw [z]
          exact fin _ q
theorem op_eqD2 (hu : X.A.units + 64 < cLine) : OpR X (compareOp .Eq) rEqD2 := by
  intro pins s σ H x y v u Q I rx ry h
  obtain ⟨S, S', G, G', n, m, d, e, hn, h, h', q⟩ := h
  cases n with
  | zero => exact (show False from h).elim
  | succ n =>
  cases m with
  | zero => exact (show False from h').elim
  | succ m =>
    have fin : ∀ b : Bool, Q (.bl b) H → EP X pins σ Q (.bool b) s := fun b z => ⟨.bl b, H, I, rfl, z⟩
    have hu0 : X.A.units < cLine := by omega
    rcases id h with ⟨hx, rfl⟩ | ⟨a, xs, rfl, s1, r, hx, rfl⟩ | ⟨a, ms, f, rfl, s1, r, nd, ks, rfl, no, at'⟩
    · have cx := G.sc _ hx
      rcases id h' with ⟨hy, rfl⟩ | ⟨b, ys, rfl, s', r', hy, rfl⟩ | ⟨b, ms', f', rfl, s', r', nd', ks', rfl, no', at''⟩
      · refine op_eq pins s σ H x y v u Q I rx ry ⟨scal_two cx (G'.sc _ hy), ?_⟩
        rw [deq_sc] at q
        exact q
      · cases (show u = Value.ref b from ry)
        rw [deq_f (show D.sc x ≠ D.ls ys from fun z => nomatch z)] at q
        obtain ⟨us, _, p1, _⟩ := I.list (.inl (.inl r'))
        have l := p1.isList
        cases x with
        | non => cases (show v = Value.none from rx); exact SeqAt.RcAt.none_list l hu0 _ _ _ _ (fin _ q)
        | int i => obtain ⟨t, rfl⟩ := (show ∃ t, v = Value.int i t from rx); exact SeqAt.RcAt.int_list _ _ l hu0 _ _ _ _ (fin _ q)
        | str i => obtain ⟨t, rfl⟩ := (show ∃ t, v = Value.str i t from rx); exact SeqAt.RcAt.str_list _ _ l hu0 _ _ _ _ (fin _ q)
        | _ => cases cx
      · cases (show u = Value.ref b from ry)
        rw [deq_f (show D.sc x ≠ D.ob f' from fun z => nomatch z)] at q
        obtain ⟨ta, o, es, n, ho, hd, _⟩ := dk_obj I r'
        cases x with
        | non => cases (show v = Value.none from rx); exact rc_eq_no (Ta := "NoneType") (Tb := "dict") rfl ta (by decide) (by rfl) PySem.F.slot_NoneType_eq PySem.F.slot_dict_eq_refl rfl hu0 (fun Q q => none_eq_no Q q) (fun Q q => dict_eq_no (T := "NoneType") (v := .none) ta rfl (by rfl) Q q) (fun Q q => wpAny_pure q) (fin _ q)
        | int i => obtain ⟨t, rfl⟩ := (show ∃ t, v = Value.int i t from rx); exact rc_eq_no (Ta := "int") (Tb := "dict") rfl ta (by decide) (by rfl) PySem.F.slot_int_eq PySem.F.slot_dict_eq_refl rfl hu0 (fun Q q => int_eq_no ho hd Q q) (fun Q q => dict_eq_no (T := "int") (v := .int i t) ta rfl (by rfl) Q q) (fun Q q => wpAny_pure q) (fin _ q)
        | str i => obtain ⟨t, rfl⟩ := (show ∃ t, v = Value.str i t from rx); exact rc_eq_no (Ta := "str") (Tb := "dict") rfl ta (by decide) (by rfl) PySem.F.slot_str_eq PySem.F.slot_dict_eq_refl rfl hu0 (fun Q q => str_eq_no ho hd Q q) (fun Q q => dict_eq_no (T := "str") (v := .str i t) ta rfl (by rfl) Q q) (fun Q q => wpAny_pure q) (fin _ q)
        | _ => cases cx
    · cases (show v = Value.ref a from rx)
      obtain ⟨us, r1, p1, _⟩ := I.list (.inl (.inl r))
      have l := p1.isList
      rcases id h' with ⟨hy, rfl⟩ | ⟨b, ys, rfl, s', r', hy, rfl⟩ | ⟨b, ms', f', rfl, s', r', nd', ks', rfl, no', at''⟩
      · rw [deq_f (show D.ls xs ≠ D.sc y from fun z => nomatch z)] at q
        have cy := G'.sc _ hy
        cases y with
        | non => cases (show u = Value.none from ry); exact SeqAt.RcAt.list_none l hu0 _ _ _ _ (fin _ q)
        | int i => obtain ⟨t, rfl⟩ := (show ∃ t, u = Value.int i t from ry); exact SeqAt.RcAt.list_int _ _ l hu0 _ _ _ _ (fin _ q)
        | str i => obtain ⟨t, rfl⟩ := (show ∃ t, u = Value.str i t from ry); exact SeqAt.RcAt.list_str _ _ l hu0 _ _ _ _ (fin _ q)
        | _ => cases cy
      · cases (show u = Value.ref b from ry)
        obtain ⟨ws, r2, p2, _⟩ := I.list (.inl (.inl r'))
        by_cases hl : xs.length = ys.length
        · refine SeqAt.rcP_lists (e := fun j => deq (.sc (xs.getD j .non)) (.sc (ys.getD j .non))) l p2.isList (by rw [List.size_toArray, List.size_toArray, ← r1.length, ← r2.length, hl]) hu0 (fun j h1 h2 => ?_) _ _ ?_
          · have := ls_items hl r1 r2 (A := X.A.in1) (s := s) (fun x z => G.sc _ (hx.2 x z)) (fun y z => G'.sc _ (hy.2 y z)) j (by simpa using h1) (by simpa using h2)
            simpa using this.eqP (prog := X.prog) (w := X.w)
          · rw [ls_all hl] at q
            rw [List.size_toArray, ← r1.length]
            exact fin _ q
        · rw [deq_f (show D.ls xs ≠ D.ls ys from fun z => hl (by injection z with z; rw [z]))] at q
          refine SeqAt.RcAt.lists_lengths l p2.isList (by rw [List.size_toArray, List.size_toArray, ← r1.length, ← r2.length]; exact bne_iff_ne.mpr hl) hu0 _ _ _ _ (fin _ q)
      · cases (show u = Value.ref b from ry)
        rw [deq_f (show D.ls xs ≠ D.ob f' from fun z => nomatch z)] at q
        obtain ⟨ta, o, es, n, ho, hd, hc⟩ := dk_obj I r'
        have tl : s.TypeIs (.ref a) "list" := l.typeIs
        obtain ⟨ol, g1, g2⟩ := id tl
        have ne : a ≠ b := fun z => by rw [z, r'] at r; cases r
        exact rc_eq_no (Ta := "list") (Tb := "dict") tl ta (by decide) (by rfl) PySem.F.slot_list_eq PySem.F.slot_dict_eq_refl rfl hu0 (fun Q q => list_eq_no tl ta Q q) (fun Q q => dict_eq_no (T := "list") ta tl (by rfl) Q q) (fun Q q => wpAny_isSame_ref_other ne g1 ho (by rw [g2]; decide) q) (fin _ q)
    · cases (show v = Value.ref a from rx)
      obtain ⟨ta, o, es, no', ho, hd, hc⟩ := dk_obj I r
      rcases id h' with ⟨hy, rfl⟩ | ⟨b, ys, rfl, s', r', hy, rfl⟩ | ⟨b, ms', f', rfl, s', r', nd', ks', rfl, no', at''⟩
      · rw [deq_f (show D.ob f ≠ D.sc y from fun z => nomatch z)] at q
        have cy := G'.sc _ hy
        cases y with
        | non => cases (show u = Value.none from ry); exact rc_eq_no (Ta := "dict") (Tb := "NoneType") ta rfl (by decide) (by rfl) PySem.F.slot_dict_eq PySem.F.slot_NoneType_eq_refl rfl hu0 (fun Q q => dict_eq_no (T := "NoneType") (v := .none) ta rfl (by rfl) Q q) (fun Q q => none_eq_no Q q) (fun Q q => wpAny_pure q) (fin _ q)
        | int i => obtain ⟨t, rfl⟩ := (show ∃ t, u = Value.int i t from ry); exact rc_eq_no (Ta := "dict") (Tb := "int") ta rfl (by decide) (by rfl) PySem.F.slot_dict_eq PySem.F.slot_int_eq_refl rfl hu0 (fun Q q => dict_eq_no (T := "int") (v := .int i t) ta rfl (by rfl) Q q) (fun Q q => int_eq_no ho hd Q q) (fun Q q => wpAny_pure q) (fin _ q)
        | str i => obtain ⟨t, rfl⟩ := (show ∃ t, u = Value.str i t from ry); exact rc_eq_no (Ta := "dict") (Tb := "str") ta rfl (by decide) (by rfl) PySem.F.slot_dict_eq PySem.F.slot_str_eq_refl rfl hu0 (fun Q q => dict_eq_no (T := "str") (v := .str i t) ta rfl (by rfl) Q q) (fun Q q => str_eq_no ho hd Q q) (fun Q q => wpAny_pure q) (fin _ q)
        | _ => cases cy
      · cases (show u = Value.ref b from ry)
        rw [deq_f (show D.ob f ≠ D.ls ys from fun z => nomatch z)] at q
        obtain ⟨ws, r2, p2, _⟩ := I.list (.inl (.inl r'))
        have tl : s.TypeIs (.ref b) "list" := p2.isList.typeIs
        obtain ⟨ol, g1, g2⟩ := id tl
        have ne : a ≠ b := fun z => by rw [z, r'] at r; cases r
        exact rc_eq_no (Ta := "dict") (Tb := "list") ta tl (by decide) (by rfl) PySem.F.slot_dict_eq PySem.F.slot_list_eq_refl rfl hu0 (fun Q q => dict_eq_no (T := "list") ta tl (by rfl) Q q) (fun Q q => list_eq_no tl ta Q q) (fun Q q => wpAny_isSame_ref_other ne ho g1 (by rw [hc]; decide) q) (fin _ q)
      · cases (show u = Value.ref b from ry)
        have M : Mem S G H n ms f := ⟨nd, ks, no, at'⟩
        have M' : Mem S' G' H m ms' f' := ⟨nd', ks', no', at''⟩
        obtain ⟨_, ya, va, ra, da⟩ := dk_rd I.hok (.inl r)
        obtain ⟨_, yb, vb, rb, db⟩ := dk_rd I.hok (.inl r')
        obtain ⟨b', hb, hi⟩ := hits_dec (A := X.A.in1) (Pg := X.prog) (w := X.w) (s := s) (f := f) M' rb (fun x y d e v u h1 h2 r1 r2 => docs_dec I n m _ x y d e v u (show X.A.units + 1 + n + 1 < cLine by omega) h1 h2 r1 r2) ra fun p hp => M.at' p.1 p.2 (valV_of_mem nd hp)
        have e : (va.length == vb.length && b') = deq (.ob f) (.ob f') := by
          refine bool_of ?_
          rw [Bool.and_eq_true, deq_iff, ob_iff M M', hi, beq_iff_eq, ← ra.length, ← rb.length, List.length_map, List.length_map]
        refine PySem.W.rcP_dicts (knd := mixKind X.prog X.w) (r := b') ya yb da db hu0 (fun _ => hb) _ _ ?_
        rw [e]
        exact fin _ q
end
end TP

namespace TP
open PySem PySem.Spec PyProof.Rows L2
/-! ### != of lists whose items are compared inside one model -/
section
open PySem.SeqAt
open AutoSeq1 (wpAny_loadPart')
open MeetsSeq MeetsSeq2 MeetsSeq3 SeqRoads2
variable {prog : Program} {w : World}
theorem neP_loop (l b : Addr) (xs ys : Array Value) (n m : Nat) (dx dy : Option Addr) (sx sy : Array (Option Value)) (same : xs.size = ys.size) (c : Nat → Bool) : ∀ k i : Nat, i + k = xs.size →
    MeetsIn prog w (Builtin.«list.__eq__.loop» ⟨[.ref l, .ref b, rawInt i, rawInt 3], []⟩) (fun A R s => s.heap.get? l = some { cls := .type "list", dict := dx, data := .seq xs n, slots := sx } ∧ s.heap.get? b = some { cls := .type "list", dict := dy, data := .seq ys m, slots := sy } ∧
      (∀ j (p : j < xs.size) (q : j < ys.size), EqP prog w A.in1 s xs[j] ys[j] (c j)) ∧ R (.ok (.ret (.bool (!((List.range xs.size).drop i).all c)))) s)
  | 0, i, hk => by
    intro A R s z
    obtain ⟨h0, gg, dd, tk, ost⟩ := s
    obtain ⟨z1, z2, _, z4⟩ := z
    have w1 : xs[((i : Nat) : Int).toNat]? = none := by simp; omega
    have w2 : ys[((i : Nat) : Int).toNat]? = none := by simp; omega
    wp_walk using wpAny_loadPart' z1, wpAny_loadPart' z2
    rw [w1, w2]
    wp_walk using wpAny_loadPart' z1, wpAny_loadPart' z2
    have w3 : (List.range xs.size).drop i = [] := List.drop_of_length_le (by simp; omega)
    rw [w3] at z4
    show R (.ok (.ret (.bool (xs.size != ys.size)))) _
    rw [same]
    simpa using z4
  | k + 1, i, hk => by
    intro A R s z
    obtain ⟨h0, gg, dd, tk, ost⟩ := s
    obtain ⟨z1, z2, z3, z4⟩ := z
    have lt1 : i < xs.size := by omega
    have lt2 : i < ys.size := by omega
    have w1 : xs[((i : Nat) : Int).toNat]? = some xs[i] := by simp [lt1]
    have w2 : ys[((i : Nat) : Int).toNat]? = some ys[i] := by simp [lt2]
    have w3 : (List.range xs.size).drop i = i :: (List.range xs.size).drop (i + 1) := by simp [List.drop_eq_getElem_cons, lt1]
    rw [w3, List.all_cons] at z4
    wp_walk using wpAny_loadPart' z1, wpAny_loadPart' z2
    rw [w1, w2]
    refine wpAny_bind (z3 i lt1 lt2 _ _ ?_)
    have w4 : ((i : Int) + 1) = ((i + 1 : Nat) : Int) := by push_cast; rfl
    cases w5 : c i with
    | true =>
      rw [w5] at z4
      wp_walk
      rw [w4]
      refine ⟨plainId_quiet plain_eq_loop _, codeAny_builtin entry_eq_loop ?_⟩
      rw [Around.under_plainId plain_eq_loop _]
      exact neP_loop l b xs ys n m dx dy sx sy same c k (i + 1) (by omega) A R _ ⟨z1, z2, z3, by simpa using z4⟩
    | false =>
      rw [w5] at z4
      wp_walk using wpAny_loadPart' z1, wpAny_loadPart' z2
      rw [w1, w2]
      wp_walk
      simpa using z4
theorem neP_list (l b : Addr) (xs ys : Array Value) (n m : Nat) (dx dy : Option Addr) (sx sy : Array (Option Value)) (same : xs.size = ys.size) (c : Nat → Bool) :
    MeetsIn prog w (Builtin.«list.__ne__» ⟨[.ref l, .ref b], []⟩) (fun A R s => s.heap.get? l = some { cls := .type "list", dict := dx, data := .seq xs n, slots := sx } ∧ s.heap.get? b = some { cls := .type "list", dict := dy, data := .seq ys m, slots := sy } ∧
      (∀ j (p : j < xs.size) (q : j < ys.size), EqP prog w A.in1 s xs[j] ys[j] (c j)) ∧ R (.ok (.ret (.bool (!(List.range xs.size).all c)))) s) := by
  intro A R s z
  obtain ⟨h0, gg, dd, tk, ost⟩ := s
  obtain ⟨z1, z2, z3, z4⟩ := z
  have sub := AutoSeq1.sub_list_list
  have nne : ¬ (xs.size != ys.size) = true := by simp [same]
  wp_walk using wpAny_loadPart' z1, wpAny_loadPart' z2
  refine ⟨plainId_quiet plain_eq_loop _, codeAny_builtin entry_eq_loop ?_⟩
  rw [Around.under_plainId plain_eq_loop _]
  exact neP_loop l b xs ys n m dx dy sx sy same c xs.size 0 (by omega) A R _ ⟨z1, z2, z3, by simpa using z4⟩
theorem rcNeP_lists {A : Around} {s : Shared} {l b : Addr} {xs ys : Array Value} {c : Nat → Bool} (hl : s.heap.IsList l xs) (hb : s.heap.IsList b ys) (same : xs.size = ys.size) (hu : A.units < cLine)
    (he : ∀ j (p : j < xs.size) (q : j < ys.size), EqP prog w A.in1 s xs[j] ys[j] (c j)) (E Q : Value → Shared → Prop) (h : Q (.bool (!(List.range xs.size).all c)) s) : wpAny (model prog w) A (richCompare .NotEq (.ref l) (.ref b)) Q E s := by
  obtain ⟨⟨cx, dx, tx, sx⟩, ox, ex, n, fx⟩ := id hl
  obtain ⟨⟨cy, dy, ty, sy⟩, oy, ey, m, fy⟩ := id hb
  simp only at ex fx ey fy
  subst ex fx ey fy
  have t1 : s.TypeIs (.ref l) "list" := ⟨_, ox, rfl⟩
  have t2 : s.TypeIs (.ref b) "list" := ⟨_, oy, rfl⟩
  refine wpAny_richCompare_same_room (op := .NotEq) t1 t2 F.slot_list_ne (call_meetsIn F.slot_list_ne t1 F.entry_list_ne (F.args_list_ne_2 _ _) (neP_list l b xs ys n m dx dy sx sy same c) ⟨ox, oy, he, ?_⟩) hu
  exact (show Value.bool (!(List.range xs.size).all c) ≠ Value.notImplemented ∧ Q (.bool (!(List.range xs.size).all c)) s from ⟨(fun x => nomatch x), h⟩)
end
/-! ### a list with one document, or with none -/
/-- d: what it holds; .nil: nothing -/
def LdAt (S : Addr → Prop) (G : Gen) (H : Hp) (n : Nat) (a : Addr) (d : D) : Prop := (d = .nil ∧ H a = some (.lst [])) ∨ ∃ u, H a = some (.lst [u]) ∧ Dc S G H n u d
theorem LdAt.ex [TabL] {S G H H' n a d} (e : Ex H H') (h : LdAt S G H n a d) : LdAt S G H' n a d := Or.imp (fun ⟨z, r⟩ => ⟨z, e _ _ r⟩) (fun ⟨u, r, h⟩ => ⟨u, e _ _ r, h.ex e⟩) h
theorem LdAt.imp {S S' : Addr → Prop} {G H n a d} (i : ∀ x, S x → S' x) (h : LdAt S G H n a d) : LdAt S' G H n a d := Or.imp id (fun ⟨u, r, h⟩ => ⟨u, r, h.imp i⟩) h
theorem LdAt.lst {S G H n a d} (h : LdAt S G H n a d) : ∃ us, H a = some (.lst us) ∧ us.length ≤ 1 := h.elim (fun ⟨_, r⟩ => ⟨_, r, by decide⟩) fun ⟨u, r, _⟩ => ⟨_, r, by show 1 ≤ 1; decide⟩
section
variable {X : Cx} {pins : List (Addr × Obj)} {σ : L2.St} {H : Hp} {s : Shared}
/-- how two of them compare, without the question whether they are one list -/
theorem ld_items (I : Inv X pins σ H s) {S S' : Addr → Prop} {G G' : Gen} {n m : Nat} {A : Around} {a b : Addr} {d e : D} (hu : A.units + n + 3 < cLine) (h : LdAt S G H n a d) (h' : LdAt S' G' H m b e) :
    ∃ us ws : List Value, s.heap.IsList a us.toArray ∧ s.heap.IsList b ws.toArray ∧ ((us.length ≠ ws.length ∧ deq d e = false) ∨ (us.length = ws.length ∧ (∀ j (h1 : j < us.toArray.size) (h2 : j < ws.toArray.size), SeqAt.EqP X.prog X.w A s us.toArray[j] ws.toArray[j] (deq d e)) ∧ ((List.range us.toArray.size).all fun _ => deq d e) = deq d e)) := by
  have nil_ne : ∀ {S G H n v d}, Dc S G H n v d → d ≠ .nil := fun h z => by have := h.ne_nil; rw [z] at this; cases this
  rcases h with ⟨rfl, r⟩ | ⟨u, r, hd⟩ <;> rcases h' with ⟨rfl, r'⟩ | ⟨v, r', hd'⟩
  · obtain ⟨us, r1, p1, _⟩ := I.list (.inl (.inl r))
    obtain ⟨ws, r2, p2, _⟩ := I.list (.inl (.inl r'))
    cases r1; cases r2
    refine ⟨_, _, p1.isList, p2.isList, .inr ⟨rfl, fun j h1 => absurd h1 (by simp), ?_⟩⟩
    rw [deq_t rfl]
    rfl
  · obtain ⟨us, r1, p1, _⟩ := I.list (.inl (.inl r))
    obtain ⟨ws, r2, p2, _⟩ := I.list (.inl (.inl r'))
    refine ⟨_, _, p1.isList, p2.isList, .inl ⟨?_, deq_f fun z => nil_ne hd' z.symm⟩⟩
    rw [← r1.length, ← r2.length]
    simp
  · obtain ⟨us, r1, p1, _⟩ := I.list (.inl (.inl r))
    obtain ⟨ws, r2, p2, _⟩ := I.list (.inl (.inl r'))
    refine ⟨_, _, p1.isList, p2.isList, .inl ⟨?_, deq_f (nil_ne hd)⟩⟩
    rw [← r1.length, ← r2.length]
    simp
  · obtain ⟨us, r1, p1, _⟩ := I.list (.inl (.inl r))
    obtain ⟨ws, r2, p2, _⟩ := I.list (.inl (.inl r'))
    obtain ⟨x, rfl, rx⟩ := vals1 r1
    obtain ⟨y, rfl, ry⟩ := vals1 r2
    refine ⟨_, _, p1.isList, p2.isList, .inr ⟨rfl, fun j h1 h2 => ?_, ?_⟩⟩
    · have hj : j = 0 := by simp at h1; omega
      subst hj
      exact docs_dec I n m A u v d e x y (by omega) hd hd' rx ry
    · simp
theorem ld_det {S S' : Addr → Prop} {G G' : Gen} {n m : Nat} {a : Addr} {d e : D} (h : LdAt S G H n a d) (h' : LdAt S' G' H m a e) : d = e := by
  rcases h with ⟨rfl, r⟩ | ⟨u, r, hd⟩ <;> rcases h' with ⟨rfl, r'⟩ | ⟨v, r', hd'⟩
  · rfl
  · rw [r] at r'; cases r'
  · rw [r] at r'; cases r'
  · rw [r] at r'; cases r'
    exact dc_det hd hd'
theorem ld_dec (I : Inv X pins σ H s) {S S' : Addr → Prop} {G G' : Gen} {n m : Nat} {A : Around} {a b : Addr} {d e : D} (hu : A.units + n + 4 < cLine) (h : LdAt S G H n a d) (h' : LdAt S' G' H m b e) : SeqAt.EqP X.prog X.w A s (.ref a) (.ref b) (deq d e) := by
  by_cases c : a = b
  · subst c
    rw [deq_t (ld_det h h')]
    exact (SeqAt.EqAt.same _).eqP
  obtain ⟨us, ws, p1, p2, q⟩ := ld_items (A := A.in1) I (show A.units + 1 + n + 3 < cLine by omega) h h'
  refine SeqAt.eqP_refs c fun E Q k => ?_
  rcases q with ⟨q1, q2⟩ | ⟨q1, q2, q3⟩
  · rw [q2] at k
    exact SeqAt.RcAt.lists_lengths p1 p2 (by rw [List.size_toArray, List.size_toArray]; exact bne_iff_ne.mpr q1) (by omega) _ _ _ _ k
  · exact SeqAt.rcP_lists (e := fun _ => deq d e) p1 p2 (by rw [List.size_toArray, List.size_toArray, q1]) (by omega) q2 E Q (by rw [q3]; exact k)
end
section
variable {X : Cx}
/-- one != other, of two such lists -/
def rNeLD : R2 := fun x y H Q => ∃ (S S' : Addr → Prop) (G G' : Gen) (n m : Nat) (a b : Addr) (d e : D), x = .ref a ∧ y = .ref b ∧ n ≤ 40 ∧ LdAt S G H n a d ∧ LdAt S' G' H m b e ∧ Q (.bl (!deq d e)) H
def rEqLD : R2 := fun x y H Q => ∃ (S S' : Addr → Prop) (G G' : Gen) (n m : Nat) (a b : Addr) (d e : D), x = .ref a ∧ y = .ref b ∧ n ≤ 40 ∧ LdAt S G H n a d ∧ LdAt S' G' H m b e ∧ Q (.bl (deq d e)) H
theorem op_neLD (hu : X.A.units + 64 < cLine) : OpR X (compareOp .NotEq) rNeLD := by
  intro pins s σ H x y v u Q I rx ry h
  obtain ⟨S, S', G, G', n, m, a, b, d, e, rfl, rfl, hn, h, h', q⟩ := h
  cases (show v = Value.ref a from rx)
  cases (show u = Value.ref b from ry)
  obtain ⟨us, ws, p1, p2, c⟩ := ld_items (A := X.A.in1) I (show X.A.units + 1 + n + 3 < cLine by omega) h h'
  rcases c with ⟨q1, q2⟩ | ⟨q1, q2, q3⟩
  · rw [q2] at q
    exact SeqAt.RcNeAt.lists_lengths p1 p2 (by rw [List.size_toArray, List.size_toArray]; exact bne_iff_ne.mpr q1) (by omega) _ _ _ _ ⟨.bl true, H, I, rfl, q⟩
  · exact rcNeP_lists (c := fun _ => deq d e) p1 p2 (by rw [List.size_toArray, List.size_toArray, q1]) (by omega) q2 _ _ ⟨.bl (!deq d e), H, I, by rw [q3]; rfl, q⟩
theorem op_eqLD (hu : X.A.units + 64 < cLine) : OpR X (compareOp .Eq) rEqLD := by
  intro pins s σ H x y v u Q I rx ry h
  obtain ⟨S, S', G, G', n, m, a, b, d, e, rfl, rfl, hn, h, h', q⟩ := h
  cases (show v = Value.ref a from rx)
  cases (show u = Value.ref b from ry)
  obtain ⟨us, ws, p1, p2, c⟩ := ld_items (A := X.A.in1) I (show X.A.units + 1 + n + 3 < cLine by omega) h h'
  rcases c with ⟨q1, q2⟩ | ⟨q1, q2, q3⟩
  · rw [q2] at q
    exact SeqAt.RcAt.lists_lengths p1 p2 (by rw [List.size_toArray, List.size_toArray]; exact bne_iff_ne.mpr q1) (by omega) _ _ _ _ ⟨.bl false, H, I, rfl, q⟩
  · exact SeqAt.rcP_lists (e := fun _ => deq d e) p1 p2 (by rw [List.size_toArray, List.size_toArray, q1]) (by omega) q2 _ _ ⟨.bl (deq d e), H, I, by rw [q3]; rfl, q⟩
/-- == of two lists of such lists, as many in each -/
noncomputable def deqL : List D → List D → Bool
  | [], [] => true
  | d :: ds, e :: es => deq d e && deqL ds es
  | _, _ => false
theorem deqL_iff : ∀ {ds es : List D}, deqL ds es = true ↔ ds = es
  | [], [] => by simp [deqL]
  | [], _ :: _ => by simp [deqL]
  | _ :: _, [] => by simp [deqL]
  | d :: ds, e :: es => by simp [deqL, deq_iff, deqL_iff (ds := ds) (es := es)]
theorem deqL_all {f : Nat → Bool} : ∀ {ds es : List D} (k : Nat), ds.length = es.length → (∀ j (h1 : j < ds.length) (h2 : j < es.length), f (k + j) = deq ds[j] es[j]) → ((List.range' k ds.length).all f) = deqL ds es
  | [], [], _, _, _ => rfl
  | [], _ :: _, _, h, _ => by cases h
  | _ :: _, [], _, h, _ => by cases h
  | d :: ds, e :: es, k, h, hf => by
    have h0 := hf 0 (by simp) (by simp)
    have ih := deqL_all (f := f) (ds := ds) (es := es) (k + 1) (by simpa using h) fun j h1 h2 => by
      have := hf (j + 1) (by simpa using h1) (by simpa using h2)
      rw [show k + 1 + j = k + (j + 1) by omega]
      simpa using this
    rw [List.length_cons, List.range'_succ, List.all_cons, ih]
    simp only [Nat.add_zero] at h0
    rw [h0]
    rfl
def rEqLL : R2 := fun x y H Q => ∃ (S S' : Addr → Prop) (G G' : Gen) (n m : Nat) (a b : Addr) (as bs : List (Addr × D)), x = .ref a ∧ y = .ref b ∧ n ≤ 40 ∧ a ≠ b ∧ H a = some (.lst (as.map fun p => V.ref p.1)) ∧ H b = some (.lst (bs.map fun p => V.ref p.1)) ∧ as.length = bs.length ∧
  (∀ p ∈ as, LdAt S G H n p.1 p.2) ∧ (∀ p ∈ bs, LdAt S' G' H m p.1 p.2) ∧ Q (.bl (deqL (as.map (·.2)) (bs.map (·.2)))) H
theorem op_eqLL (hu : X.A.units + 64 < cLine) : OpR X (compareOp .Eq) rEqLL := by
  intro pins s σ H x y v u Q I rx ry h
  obtain ⟨S, S', G, G', n, m, a, b, as, bs, rfl, rfl, hn, nab, ha, hb, hl, h, h', q⟩ := h
  cases (show v = Value.ref a from rx)
  cases (show u = Value.ref b from ry)
  obtain ⟨us, r1, p1, _⟩ := I.list (.inl (.inl ha))
  obtain ⟨ws, r2, p2, _⟩ := I.list (.inl (.inl hb))
  have l1 : us.length = as.length := by rw [← r1.length, List.length_map]
  have l2 : ws.length = bs.length := by rw [← r2.length, List.length_map]
  refine SeqAt.rcP_lists (e := fun j => deq (as.map (·.2) |>.getD j .nil) (bs.map (·.2) |>.getD j .nil)) p1.isList p2.isList (by rw [List.size_toArray, List.size_toArray, l1, l2, hl]) (by omega) (fun j h1 h2 => ?_) _ _ ⟨.bl _, H, I, rfl, ?_⟩
  · have k1 : j < as.length := by rw [List.size_toArray, l1] at h1; exact h1
    have k2 : j < bs.length := by rw [← hl]; exact k1
    obtain ⟨y1, hy1, ry1⟩ := vals_get r1 (j := j) (x := V.ref (as[j]).1) (by rw [List.getElem?_map, List.getElem?_eq_getElem k1]; rfl)
    obtain ⟨y2, hy2, ry2⟩ := vals_get r2 (j := j) (x := V.ref (bs[j]).1) (by rw [List.getElem?_map, List.getElem?_eq_getElem k2]; rfl)
    cases (show y1 = Value.ref _ from ry1)
    cases (show y2 = Value.ref _ from ry2)
    have e1 : us.toArray[j] = Value.ref (as[j]).1 := by
      have := (List.getElem?_eq_some_iff.mp hy1).2
      simpa using this
    have e2 : ws.toArray[j] = Value.ref (bs[j]).1 := by
      have := (List.getElem?_eq_some_iff.mp hy2).2
      simpa using this
    rw [e1, e2]
    have := ld_dec (A := X.A.in1) I (show X.A.units + 1 + n + 4 < cLine by omega) (h _ (List.getElem_mem k1)) (h' _ (List.getElem_mem k2))
    simpa [List.getD_eq_getElem?_getD, k1, k2] using this
  · have e := deqL_all (f := fun j => deq (as.map (·.2) |>.getD j .nil) (bs.map (·.2) |>.getD j .nil)) (ds := as.map (·.2)) (es := bs.map (·.2)) 0 (by rw [List.length_map, List.length_map, hl]) fun j h1 h2 => by
      simp only [Nat.zero_add]
      simp only [List.length_map] at h1 h2
      simp [List.getD_eq_getElem?_getD, h1, h2]
    rw [List.length_map] at e
    rw [List.size_toArray, l1, List.range_eq_range', e]
    exact q
end
end TP

/-! lists of documents: == and !=, and whether a document is in one -/
namespace TP
open PySem PySem.Spec PyProof.Rows L2
section
open PySem.SeqAt
open AutoSeq1 (wpAny_loadPart')
open MeetsSeq MeetsSeq2 MeetsSeq3 SeqRoads2
variable {prog : Program} {w : World}
theorem inP_loop (l : Addr) (items : Array Value) (n : Nat) (dd : Option Addr) (sl : Array (Option Value)) (x : Value) (e : Nat → Bool) : ∀ k i : Nat, i + k = items.size →
    MeetsIn prog w (Builtin.«list.__contains__.loop» ⟨[.ref l, x, rawInt i], []⟩)
      (fun A R s => s.heap.get? l = some { cls := .type "list", dict := dd, data := .seq items n, slots := sl } ∧ (∀ j (h : j < items.size), EqP prog w A.in1 s items[j] x (e j)) ∧ R (.ok (.ret (.bool (((List.range items.size).drop i).any e)))) s)
  | 0, i, hk => by
    intro A R s z
    obtain ⟨hp, g, d, tk, os⟩ := s
    obtain ⟨hl, he, h⟩ := z
    wp_walk using wpAny_loadPart' hl
    have hi : items[((i : Nat) : Int).toNat]? = none := by simp; omega
    have hd : (List.range items.size).drop i = [] := List.drop_of_length_le (by simp; omega)
    rw [hd] at h
    rw [hi]
    wp_walk
    exact h
  | k + 1, i, hk => by
    intro A R s z
    obtain ⟨hp, g, d, tk, os⟩ := s
    obtain ⟨hl, he, h⟩ := z
    wp_walk using wpAny_loadPart' hl
    have hlt : i < items.size := by omega
    have hi : items[((i : Nat) : Int).toNat]? = some items[i] := by simp [hlt]
    have hd : (List.range items.size).drop i = i :: (List.range items.size).drop (i + 1) := by simp [List.drop_eq_getElem_cons, hlt]
    rw [hd, List.any_cons] at h
    rw [hi]
    refine wpAny_bind (he i hlt _ _ ?_)
    cases hb : e i with
    | true =>
      rw [hb] at h
      wp_walk
      exact h
    | false =>
      rw [hb] at h
      have hc : ((i : Int) + 1) = ((i + 1 : Nat) : Int) := by push_cast; rfl
      wp_walk
      rw [hc]
      refine ⟨plainId_quiet plain_contains_loop _, codeAny_builtin entry_contains_loop ?_⟩
      rw [Around.under_plainId plain_contains_loop _]
      exact inP_loop l items n dd sl x e k (i + 1) (by omega) A R _ ⟨hl, he, by simpa using h⟩
theorem inP_list (l : Addr) (items : Array Value) (n : Nat) (dd : Option Addr) (sl : Array (Option Value)) (x : Value) (e : Nat → Bool) :
    MeetsIn prog w (Builtin.«list.__contains__» ⟨[.ref l, x], []⟩)
      (fun A R s => s.heap.get? l = some { cls := .type "list", dict := dd, data := .seq items n, slots := sl } ∧ (∀ j (h : j < items.size), EqP prog w A.in1 s items[j] x (e j)) ∧ R (.ok (.ret (.bool ((List.range items.size).any e)))) s) := by
  intro A R s z
  obtain ⟨hp, g, d, tk, os⟩ := s
  obtain ⟨hl, he, h⟩ := z
  wp_walk using wpAny_loadPart' hl
  refine ⟨plainId_quiet plain_contains_loop _, codeAny_builtin entry_contains_loop ?_⟩
  rw [Around.under_plainId plain_contains_loop _]
  exact inP_loop l items n dd sl x e items.size 0 (by omega) A R _ ⟨hl, he, by simpa using h⟩
theorem notInP {A : Around} {s : Shared} {E : Value → Shared → Prop} {l : Addr} {items : Array Value} {x : Value} {Q : Value → Shared → Prop} (e : Nat → Bool) (hl : s.heap.IsList l items) (he : ∀ j (h : j < items.size), EqP prog w A.in1 s items[j] x (e j))
    (h : Q (.bool (!(List.range items.size).any e)) s) : wpAny (model prog w) A (compareOp .NotIn x (.ref l)) Q E s := by
  obtain ⟨⟨cls, dd, data, sl⟩, ho, hc, n, hd⟩ := id hl
  simp only at hc hd
  subst hc hd
  have hT : s.TypeIs (.ref l) "list" := ⟨_, ho, rfl⟩
  show wpAny _ A (do return .bool (!(← contains (.ref l) x))) Q E s
  refine wpAny_bind (wpAny_contains_slot hT F.slot_list_contains (wpAny_mono (call_meetsIn (E := E) (Q := fun v s' => ∃ b, v = .bool b ∧ Q (.bool (!b)) s') F.slot_list_contains hT F.entry_list_contains (F.args_list_contains_2 _ _) (inP_list l items n dd sl x e) ⟨ho, he, _, rfl, h⟩) (fun v s' hv => ?_) fun _ _ e => e))
  obtain ⟨b, rfl, hq⟩ := hv
  exact wpAny_truthy_bool (wpAny_pure hq)
theorem inP {A : Around} {s : Shared} {E : Value → Shared → Prop} {l : Addr} {items : Array Value} {x : Value} {Q : Value → Shared → Prop} (e : Nat → Bool) (hl : s.heap.IsList l items) (he : ∀ j (h : j < items.size), EqP prog w A.in1 s items[j] x (e j))
    (h : Q (.bool ((List.range items.size).any e)) s) : wpAny (model prog w) A (compareOp .In x (.ref l)) Q E s := by
  obtain ⟨⟨cls, dd, data, sl⟩, ho, hc, n, hd⟩ := id hl
  simp only at hc hd
  subst hc hd
  have hT : s.TypeIs (.ref l) "list" := ⟨_, ho, rfl⟩
  show wpAny _ A (do return .bool (← contains (.ref l) x)) Q E s
  refine wpAny_bind (wpAny_contains_slot hT F.slot_list_contains (wpAny_mono (call_meetsIn (E := E) (Q := fun v s' => ∃ b, v = .bool b ∧ Q (.bool b) s') F.slot_list_contains hT F.entry_list_contains (F.args_list_contains_2 _ _) (inP_list l items n dd sl x e) ⟨ho, he, _, rfl, h⟩) (fun v s' hv => ?_) fun _ _ e => e))
  obtain ⟨b, rfl, hq⟩ := hv
  exact wpAny_truthy_bool (wpAny_pure hq)
end
section
variable {X : Cx}
/-- a list of documents -/
structure DsAt (S : Addr → Prop) (G : Gen) (H : Hp) (n : Nat) (a : Addr) (rs : List (V × D)) : Prop where
  at' : H a = some (.lst (rs.map (·.1)))
  dc : ∀ r ∈ rs, Dc S G H n r.1 r.2
theorem ds_items {pins : List (Addr × Obj)} {σ : L2.St} {H : Hp} {s : Shared} (I : Inv X pins σ H s) {S S' : Addr → Prop} {G G' : Gen} {n m : Nat} {A : Around} {a b : Addr} {rs ss : List (V × D)} (hu : A.units + n + 1 < cLine) (h : DsAt S G H n a rs) (h' : DsAt S' G' H m b ss) :
    ∃ us ws : List Value, s.heap.IsList a us.toArray ∧ s.heap.IsList b ws.toArray ∧ us.length = rs.length ∧ ws.length = ss.length ∧ ∀ j (h1 : j < us.toArray.size) (h2 : j < ws.toArray.size), SeqAt.EqP X.prog X.w A s us.toArray[j] ws.toArray[j] (deq ((rs.map (·.2)).getD j .nil) ((ss.map (·.2)).getD j .nil)) := by
  obtain ⟨us, r1, p1, _⟩ := I.list (.inl (.inl h.at'))
  obtain ⟨ws, r2, p2, _⟩ := I.list (.inl (.inl h'.at'))
  have l1 : us.length = rs.length := by rw [← r1.length, List.length_map]
  have l2 : ws.length = ss.length := by rw [← r2.length, List.length_map]
  refine ⟨us, ws, p1.isList, p2.isList, l1, l2, fun j h1 h2 => ?_⟩
  have k1 : j < rs.length := by rw [List.size_toArray, l1] at h1; exact h1
  have k2 : j < ss.length := by rw [List.size_toArray, l2] at h2; exact h2
  obtain ⟨y1, hy1, ry1⟩ := vals_get r1 (j := j) (x := (rs[j]).1) (by rw [List.getElem?_map, List.getElem?_eq_getElem k1]; rfl)
  obtain ⟨y2, hy2, ry2⟩ := vals_get r2 (j := j) (x := (ss[j]).1) (by rw [List.getElem?_map, List.getElem?_eq_getElem k2]; rfl)
  have e1 : us.toArray[j] = y1 := by
    have := (List.getElem?_eq_some_iff.mp hy1).2
    simpa using this
  have e2 : ws.toArray[j] = y2 := by
    have := (List.getElem?_eq_some_iff.mp hy2).2
    simpa using this
  rw [e1, e2]
  have := docs_dec I n m A _ _ _ _ y1 y2 hu (h.dc _ (List.getElem_mem k1)) (h'.dc _ (List.getElem_mem k2)) ry1 ry2
  simpa [List.getD_eq_getElem?_getD, k1, k2] using this
theorem deqL_len {ds es : List D} (h : ds.length ≠ es.length) : deqL ds es = false := by
  cases c : deqL ds es with
  | false => rfl
  | true => exact absurd (congrArg List.length (deqL_iff.mp c)) h
theorem ds_all {rs ss : List (V × D)} (l : rs.length = ss.length) : ((List.range rs.length).all fun j => deq ((rs.map (·.2)).getD j .nil) ((ss.map (·.2)).getD j .nil)) = deqL (rs.map (·.2)) (ss.map (·.2)) := by
  have e := deqL_all (f := fun j => deq ((rs.map (·.2)).getD j .nil) ((ss.map (·.2)).getD j .nil)) (ds := rs.map (·.2)) (es := ss.map (·.2)) 0 (by rw [List.length_map, List.length_map, l]) fun j h1 h2 => by
    simp only [Nat.zero_add]
    simp only [List.length_map] at h1 h2
    simp [List.getD_eq_getElem?_getD, h1, h2]
  rw [List.length_map] at e
  rw [List.range_eq_range', e]
def rNeDL : R2 := fun x y H Q => ∃ (S S' : Addr → Prop) (G G' : Gen) (n m : Nat) (a b : Addr) (rs ss : List (V × D)), x = .ref a ∧ y = .ref b ∧ n ≤ 40 ∧ DsAt S G H n a rs ∧ DsAt S' G' H m b ss ∧ Q (.bl (!deqL (rs.map (·.2)) (ss.map (·.2)))) H
def rEqDL : R2 := fun x y H Q => ∃ (S S' : Addr → Prop) (G G' : Gen) (n m : Nat) (a b : Addr) (rs ss : List (V × D)), x = .ref a ∧ y = .ref b ∧ n ≤ 40 ∧ DsAt S G H n a rs ∧ DsAt S' G' H m b ss ∧ Q (.bl (deqL (rs.map (·.2)) (ss.map (·.2)))) H
theorem op_neDL (hu : X.A.units + 64 < cLine) : OpR X (compareOp .NotEq) rNeDL := by
  intro pins s σ H x y v u Q I rx ry h
  obtain ⟨S, S', G, G', n, m, a, b, rs, ss, rfl, rfl, hn, h, h', q⟩ := h
  cases (show v = Value.ref a from rx)
  cases (show u = Value.ref b from ry)
  obtain ⟨us, ws, p1, p2, l1, l2, c⟩ := ds_items (A := X.A.in1) I (show X.A.units + 1 + n + 1 < cLine by omega) h h'
  by_cases l : rs.length = ss.length
  · refine rcNeP_lists (c := fun j => deq ((rs.map (·.2)).getD j .nil) ((ss.map (·.2)).getD j .nil)) p1 p2 (by rw [List.size_toArray, List.size_toArray, l1, l2, l]) (by omega) c _ _ ⟨.bl (!deqL (rs.map (·.2)) (ss.map (·.2))), H, I, ?_, q⟩
    rw [List.size_toArray, l1, ds_all l]
    rfl
  · rw [deqL_len (by rw [List.length_map, List.length_map]; exact l)] at q
    exact SeqAt.RcNeAt.lists_lengths p1 p2 (by rw [List.size_toArray, List.size_toArray, l1, l2]; exact bne_iff_ne.mpr l) (by omega) _ _ _ _ ⟨.bl true, H, I, rfl, q⟩
theorem op_eqDL (hu : X.A.units + 64 < cLine) : OpR X (compareOp .Eq) rEqDL := by
  intro pins s σ H x y v u Q I rx ry h
  obtain ⟨S, S', G, G', n, m, a, b, rs, ss, rfl, rfl, hn, h, h', q⟩ := h
  cases (show v = Value.ref a from rx)
  cases (show u = Value.ref b from ry)
  obtain ⟨us, ws, p1, p2, l1, l2, c⟩ := ds_items (A := X.A.in1) I (show X.A.units + 1 + n + 1 < cLine by omega) h h'
  by_cases l : rs.length = ss.length
  · refine SeqAt.rcP_lists (e := fun j => deq ((rs.map (·.2)).getD j .nil) ((ss.map (·.2)).getD j .nil)) p1 p2 (by rw [List.size_toArray, List.size_toArray, l1, l2, l]) (by omega) c _ _ ⟨.bl (deqL (rs.map (·.2)) (ss.map (·.2))), H, I, ?_, q⟩
    rw [List.size_toArray, l1, ds_all l]
    rfl
  · rw [deqL_len (by rw [List.length_map, List.length_map]; exact l)] at q
    exact SeqAt.RcAt.lists_lengths p1 p2 (by rw [List.size_toArray, List.size_toArray, l1, l2]; exact bne_iff_ne.mpr l) (by omega) _ _ _ _ ⟨.bl false, H, I, rfl, q⟩
/-- d is none of them -/
noncomputable def notInL (d : D) (es : List D) : Bool := !es.any fun e => deq e d
theorem any_range (f : D → Bool) : ∀ (es : List D) (k : Nat) (g : Nat → Bool), (∀ j (h : j < es.length), g (k + j) = f es[j]) → (List.range' k es.length).any g = es.any f
  | [], _, _, _ => rfl
  | e :: es, k, g, h => by
    have h0 := h 0 (by simp)
    rw [List.length_cons, List.range'_succ, List.any_cons, List.any_cons, any_range f es (k + 1) g fun j hj => by
      have := h (j + 1) (by simpa using hj)
      rw [show k + 1 + j = k + (j + 1) by omega]
      simpa using this]
    simp only [Nat.add_zero] at h0
    rw [h0]
    rfl
def rNotInDL : R2 := fun x y H Q => ∃ (S S' : Addr → Prop) (G G' : Gen) (n m : Nat) (d : D) (b : Addr) (ss : List (V × D)), y = .ref b ∧ m ≤ 40 ∧ Dc S G H n x d ∧ DsAt S' G' H m b ss ∧ Q (.bl (notInL d (ss.map (·.2)))) H
theorem op_notInDL (hu : X.A.units + 64 < cLine) : OpR X (compareOp .NotIn) rNotInDL := by
  intro pins s σ H x y v u Q I rx ry h
  obtain ⟨S, S', G, G', n, m, d, b, ss, rfl, hm, h, h', q⟩ := h
  cases (show u = Value.ref b from ry)
  obtain ⟨ws, r2, p2, _⟩ := I.list (.inl (.inl h'.at'))
  have l2 : ws.length = ss.length := by rw [← r2.length, List.length_map]
  refine notInP (fun j => deq ((ss.map (·.2)).getD j .nil) d) p2.isList (fun j h2 => ?_) ⟨.bl (notInL d (ss.map (·.2))), H, I, ?_, q⟩
  · have k2 : j < ss.length := by rw [List.size_toArray, l2] at h2; exact h2
    obtain ⟨y2, hy2, ry2⟩ := vals_get r2 (j := j) (x := (ss[j]).1) (by rw [List.getElem?_map, List.getElem?_eq_getElem k2]; rfl)
    have e2 : ws.toArray[j] = y2 := by
      have := (List.getElem?_eq_some_iff.mp hy2).2
      simpa using this
    rw [e2]
    have := docs_dec I m n X.A.in1 _ _ _ _ y2 v (show X.A.units + 1 + m + 1 < cLine by omega) (h'.dc _ (List.getElem_mem k2)) h ry2 rx
    simpa [List.getD_eq_getElem?_getD, k2] using this
  · rw [List.size_toArray, l2]
    have e := any_range (fun e => deq e d) (ss.map (·.2)) 0 (fun j => deq ((ss.map (·.2)).getD j .nil) d) fun j hj => by
      simp only [Nat.zero_add]
      simp only [List.length_map] at hj
      simp [List.getD_eq_getElem?_getD, hj]
    rw [List.length_map] at e
    rw [List.range_eq_range', e]
    rfl
end
end TP

/-! whether a document is in a tuple of documents -/
namespace TP
open PySem PySem.Spec PyProof.Rows L2
section
open PySem.SeqAt
open AutoSeq1 (wpAny_loadPart')
open MeetsSeq MeetsSeq2 MeetsSeq3 SeqRoads2
variable {prog : Program} {w : World}
theorem inP_tup (l : Addr) (items : Array Value) (n : Nat) (dd : Option Addr) (sl : Array (Option Value)) (x : Value) (e : Nat → Bool) :
    MeetsIn prog w (Builtin.«tuple.__contains__» ⟨[.ref l, x], []⟩)
      (fun A R s => s.heap.get? l = some { cls := .type "tuple", dict := dd, data := .seq items n, slots := sl } ∧ (∀ j (h : j < items.size), EqP prog w A.in1 s items[j] x (e j)) ∧ R (.ok (.ret (.bool ((List.range items.size).any e)))) s) := by
  intro A R s h
  obtain ⟨hp, g, d, tk, os⟩ := s
  obtain ⟨hl, he, h⟩ := h
  wp_walk using wpAny_loadPart' hl, wpAny_forIn_array _ (fun rest b s' => b.1 = none ∧ s' = ⟨hp, g, d, tk, os⟩ ∧ ∃ i, rest = items.toList.drop i ∧ R (.ok (.ret (.bool (((List.range items.size).drop i).any e)))) ⟨hp, g, d, tk, os⟩) _
  case turn =>
    rintro y rest b s' ⟨hb, rfl, i, hz, hR⟩
    have hlt : i < items.toList.length := by
      rcases Nat.lt_or_ge i items.toList.length with h' | h'
      · exact h'
      · rw [List.drop_of_length_le h'] at hz; cases hz
    have hls : i < items.size := by simpa using hlt
    rw [List.drop_eq_getElem_cons hlt] at hz
    injection hz with hy hrest
    have hy : y = items[i] := by simpa using hy
    subst hy
    have hd : (List.range items.size).drop i = i :: (List.range items.size).drop (i + 1) := by simp [List.drop_eq_getElem_cons, hls]
    rw [hd, List.any_cons] at hR
    refine wpAny_bind (he i hls _ _ ?_)
    cases hy : e i with
    | true =>
      rw [hy] at hR
      wp_walk
      simpa using hR
    | false =>
      rw [hy] at hR
      wp_walk
      exact ⟨rfl, rfl, i + 1, hrest, by simpa using hR⟩
  case fin =>
    rintro ⟨b1, b2⟩ s' ⟨hb, rfl, i, hz, hR⟩
    simp only at hb
    subst hb
    have hge : items.size ≤ i := by
      rcases Nat.lt_or_ge i items.size with h' | h'
      · have hlt : i < items.toList.length := by simpa using h'
        rw [List.drop_eq_getElem_cons hlt] at hz
        cases hz
      · exact h'
    rw [List.drop_of_length_le (by simpa using hge)] at hR
    wp_walk
    simpa using hR
  case h =>
    exact ⟨rfl, rfl, 0, by simp, by simpa using h⟩
theorem notInPT {A : Around} {s : Shared} {E : Value → Shared → Prop} {l : Addr} {items : Array Value} {x : Value} {Q : Value → Shared → Prop} (e : Nat → Bool) (hl : s.heap.IsTuple l items) (he : ∀ j (h : j < items.size), EqP prog w A.in1 s items[j] x (e j))
    (h : Q (.bool (!(List.range items.size).any e)) s) : wpAny (model prog w) A (compareOp .NotIn x (.ref l)) Q E s := by
  obtain ⟨⟨cls, dd, data, sl⟩, ho, hc, n, hd⟩ := id hl
  simp only at hc hd
  subst hc hd
  have hT : s.TypeIs (.ref l) "tuple" := ⟨_, ho, rfl⟩
  show wpAny _ A (do return .bool (!(← contains (.ref l) x))) Q E s
  refine wpAny_bind (wpAny_contains_slot hT F.slot_tuple_contains (wpAny_mono (call_meetsIn (E := E) (Q := fun v s' => ∃ b, v = .bool b ∧ Q (.bool (!b)) s') F.slot_tuple_contains hT F.entry_tuple_contains (F.args_tuple_contains_2 _ _) (inP_tup l items n dd sl x e) ⟨ho, he, _, rfl, h⟩) (fun v s' hv => ?_) fun _ _ e => e))
  obtain ⟨b, rfl, hq⟩ := hv
  exact wpAny_truthy_bool (wpAny_pure hq)
end
section
variable {X : Cx}
def rNotInDT (K : PySem.W.Frag) : R2 := fun x y H Q => ∃ (S S' : Addr → Prop) (G G' : Gen) (n m : Nat) (d : D) (b : Addr) (ss : List (V × D)), y = .ref b ∧ m ≤ 40 ∧ Dc S G H n x d ∧ SqT K H b (ss.map (·.1)) ∧ (∀ r ∈ ss, Dc S' G' H m r.1 r.2) ∧ Q (.bl (notInL d (ss.map (·.2)))) H
theorem op_notInDT (hu : X.A.units + 64 < cLine) : OpR X (compareOp .NotIn) (rNotInDT X.K) := by
  intro pins s σ H x y v u Q I rx ry h
  obtain ⟨S, S', G, G', n, m, d, b, ss, rfl, hm, h, hb, hds, q⟩ := h
  cases (show u = Value.ref b from ry)
  obtain ⟨ws, r2, p2, _⟩ := I.tuple hb
  have l2 : ws.length = ss.length := by rw [← r2.length, List.length_map]
  refine notInPT (fun j => deq ((ss.map (·.2)).getD j .nil) d) (show s.heap.IsTuple b ws.toArray from p2) (fun j h2 => ?_) ⟨.bl (notInL d (ss.map (·.2))), H, I, ?_, q⟩
  · have k2 : j < ss.length := by rw [List.size_toArray, l2] at h2; exact h2
    obtain ⟨y2, hy2, ry2⟩ := vals_get r2 (j := j) (x := (ss[j]).1) (by rw [List.getElem?_map, List.getElem?_eq_getElem k2]; rfl)
    have e2 : ws.toArray[j] = y2 := by
      have := (List.getElem?_eq_some_iff.mp hy2).2
      simpa using this
    rw [e2]
    have := docs_dec I m n X.A.in1 _ _ _ _ y2 v (show X.A.units + 1 + m + 1 < cLine by omega) (hds _ (List.getElem_mem k2)) h ry2 rx
    simpa [List.getD_eq_getElem?_getD, k2] using this
  · rw [List.size_toArray, l2]
    have e := any_range (fun e => deq e d) (ss.map (·.2)) 0 (fun j => deq ((ss.map (·.2)).getD j .nil) d) fun j hj => by
      simp only [Nat.zero_add]
      simp only [List.length_map] at hj
      simp [List.getD_eq_getElem?_getD, hj]
    rw [List.length_map] at e
    rw [List.range_eq_range', e]
    rfl
end
end TP

/-! sorted(xs), xs tuples of texts, the empty one among them -/
namespace TP
open PySem PySem.Spec PyProof.Rows PySem.W PySem.SeqAt PySem.Calls
section
variable {prog : Program} {w : World} {A : Around} {E : Value → Shared → Prop} {s : Shared}
/-- the call of tuple's own __lt__, as sorting makes it -/
theorem call_tuple_lt {Q : Value → Shared → Prop} {l b : Addr} {items items2 : Array Value} {e r : Nat → Bool} (hl : s.heap.IsTuple l items) (hb : s.heap.IsTuple b items2)
    (he : ∀ j (h1 : j < items.size) (h2 : j < items2.size), EqAt A.in1 s items[j] items2[j] (e j)) (hr : ∀ j (h1 : j < items.size) (h2 : j < items2.size), e j = false → RcLt A.in1 s items[j] items2[j] (r j))
    (h : Q (.bool (firstLt e r (decide (items.size < items2.size)) (List.range (min items.size items2.size)))) s) : wpAny (model prog w) A (call (.builtin "tuple.__lt__") [.ref l, .ref b]) Q E s := by
  obtain ⟨⟨cls, dd, data, sl⟩, ho, hc, n, hd⟩ := id hl
  obtain ⟨⟨cls2, dd2, data2, sl2⟩, ho2, hc2, n2, hd2⟩ := id hb
  simp only at hc hd hc2 hd2
  subst hc hd hc2 hd2
  exact call_meets PySem.F.slot_tuple_lt ⟨_, ho, rfl⟩ PySem.F.entry_tuple_lt (PySem.F.args_tuple_lt_2 _ _) (PySem.SeqAt.tuple_ltAt l b items items2 n n2 dd dd2 sl sl2 e r) ⟨ho, ho2, he, hr, h⟩
theorem oneLt_tup {xs ys : List PyData} {a b : Value} {as bs : List Addr} {Q : Bool → Shared → Prop} (ra : Reads s.heap a (.tuple xs) as) (rb : Reads s.heap b (.tuple ys) bs) (h : alike (.tuple xs) (.tuple ys) = true)
    (hu : A.units + min (PyData.tuple xs).depth (PyData.tuple ys).depth < cLine) (hq : Q (dataLt (.tuple xs) (.tuple ys)) s) : wpAny (model prog w) A (oneLt' true a b) Q E s := by
  have hal : alikeAll xs ys = true := by simpa [alike] using h
  cases ra with
  | @tuple l o vs n _ as₁ h1 h2 h3 h4 =>
    cases rb with
    | @tuple l' o' vs' n' _ bs₁ k1 k2 k3 k4 =>
      have n1 : vs.size = xs.length := by simpa using ReadsAll.length _ _ _ h4
      have n2 : vs'.size = ys.length := by simpa using ReadsAll.length _ _ _ k4
      rw [dataLt_tuple, ← firstLt_toks xs ys hal, ← n1, ← n2] at hq
      rw [oneLt'_eq]
      simp only [if_true]
      refine wpAny_bind (wpAny_cRoomFor (room_here hu) ?_)
      refine wpAny_bind (wpAny_callSpecialIfBound?_slot (T := "tuple") ⟨_, h1, h2⟩ PySem.F.slot_tuple_lt (call_tuple_lt (e := pairEq xs ys) (r := fun j => dataLt (xs.getD j .none) (ys.getD j .none)) ⟨_, h1, h2, _, h3⟩ ⟨_, k1, k2, _, k3⟩ (fun j j1 j2 => ?_) (fun j j1 j2 hj => ?_) ?_))
      · have := eqAt_alikeAll xs ys A.in1 s vs.toList vs'.toList _ _ h4 k4 hal (room_in hu) j (by simpa using j1) (by simpa using j2)
        simpa using this
      · have := rcLt_alikeAll xs ys A.in1 s vs.toList vs'.toList _ _ h4 k4 hal (room_in hu) j (by simpa using j1) (by simpa using j2) hj
        simpa using this
      · exact wpAny_truthy_bool hq
/-- the first items of tuples -/
def fsts (h : Heap) : List Value → List (Option Value) → Prop
  | [], [] => True
  | v :: vs, f :: fs => (∃ a o xs n, v = .ref a ∧ h.get? a = some o ∧ o.cls = .type "tuple" ∧ o.data = .seq xs n ∧ xs[0]? = f) ∧ fsts h vs fs
  | _, _ => False
theorem mapM_fsts {M : Model} : ∀ (vs : List Value) (fs : List (Option Value)) {Q : List (Option Value) → Shared → Prop}, fsts s.heap vs fs → Q fs s → wpAny M A (vs.mapM firstOfTuple') Q E s
  | [], [], _, _, h => by rw [List.mapM_nil]; exact wpAny_pure h
  | [], _ :: _, _, t, _ => t.elim
  | _ :: _, [], _, t, _ => t.elim
  | v :: vs, f :: fs, Q, t, h => by
    obtain ⟨⟨a, o, xs, n, rfl, ho, hc, hd, hf⟩, t⟩ := t
    rw [List.mapM_cons]
    refine wpAny_bind ?_
    rw [kas_first_eq]
    refine wpAny_bind (Looks.here (show Looks M s.heap (typeOf (.ref a)) o.cls from (Looks.ld ho).andThen .now) ?_)
    rw [hc, if_neg (by first | decide | simp)]
    refine wpAny_bind (PyProof.Rows.listItems_at ho hd (wpAny_pure ?_))
    rw [hf]
    exact wpAny_bind (mapM_fsts vs fs (Q := fun bs s' => wpAny M A (pure (f :: bs)) Q E s') t (wpAny_pure h))
/-- a list of tuples, one of them empty: the kind that sorting finds -/
theorem kind_tup {vs : List Value} {fs : List (Option Value)} {Q : SortKind → Shared → Prop} (h2 : 2 ≤ vs.length) (t : fsts s.heap vs fs) (hT : ∀ v ∈ vs, Looks (model prog w) s.heap (typeOf v) (.type "tuple")) (hn : ∃ f ∈ fs, f = none)
    (h : Q (if (fs[0]?.bind id).isSome then general' else oneType') s) : wpAny (model prog w) A (keyKind' vs.toArray) Q E s := by
  rw [kat_kind_eq, List.mapM_toArray, map_eq_pure_bind]
  refine wpAny_bind (wpAny_bind (mapM_fsts vs fs t (wpAny_pure ?_)))
  have hall : (fs.toArray.all fun x => x.isSome) = false := by
    obtain ⟨f, hf, rfl⟩ := hn
    rw [List.all_toArray]
    cases hh : fs.all fun x => x.isSome with
    | false => rfl
    | true =>
      have := List.all_eq_true.mp hh none hf
      cases this
  rw [hall]
  simp only [Bool.false_eq_true, if_false]
  have e0 : fs.toArray[0]? = fs[0]? := by simp
  rw [e0]
  by_cases c : (fs[0]?.bind id).isSome = true
  · rw [if_pos c] at h ⊢
    exact wpAny_pure h
  · rw [if_neg c] at h ⊢
    rw [oneTypeOnly'_eq, List.mapM_toArray, map_eq_pure_bind]
    refine wpAny_bind (wpAny_bind (wpAny_bind (kas_mapM (r := Value.type "tuple") _ (fun v hv Q' hq => (hT v hv).here hq) (wpAny_pure ?_))))
    have hall2 : ((List.map (fun _ => Value.type "tuple") vs).toArray.all fun x => x == Value.type "tuple") = true := by
      simp only [List.all_toArray, List.all_map, List.all_eq_true]
      intro _ _
      exact beq_self_eq_true _
    have h0 : (List.map (fun _ => Value.type "tuple") vs).toArray[0]? = some (Value.type "tuple") := by
      cases vs with
      | nil => simp at h2
      | cons v vs => simp
    rw [h0]
    simp only [hall2, if_true]
    exact wpAny_pure (wpAny_pure h)
theorem each_fsts {h : Heap} : ∀ {vs : List Value} {ds : List PyData}, EachIs (fun v d => ∃ as, Reads h v d as) vs ds → (∀ d, d ∈ ds → ∃ xs, d = .tuple xs) → ∃ fs, fsts h vs fs ∧ ((∃ d ∈ ds, d = .tuple []) → ∃ f ∈ fs, f = none)
  | _, _, .nil, _ => ⟨[], trivial, fun ⟨_, z, _⟩ => nomatch z⟩
  | _, _, .cons (b := d) ⟨as, r⟩ t, ht => by
    obtain ⟨fs, h1, h2⟩ := each_fsts t fun d hd => ht d (List.mem_cons_of_mem _ hd)
    obtain ⟨xs', rfl⟩ := ht d List.mem_cons_self
    cases r with
    | @tuple a o xs n _ _ ho hc hd hr =>
      refine ⟨xs[0]? :: fs, ⟨⟨a, o, xs, n, rfl, ho, hc, hd, rfl⟩, h1⟩, ?_⟩
      rintro ⟨d, hd', rfl⟩
      rcases List.mem_cons.mp hd' with e | hd'
      · injection e with e
        subst e
        refine ⟨_, List.mem_cons_self, ?_⟩
        have : xs.size = 0 := by simpa using ReadsAll.length _ _ _ hr
        rw [Array.getElem?_eq_none (by omega)]
      · obtain ⟨f, h3, h4⟩ := h2 ⟨_, hd', rfl⟩
        exact ⟨f, List.mem_cons_of_mem _ h3, h4⟩
/-- values that read as alike tuples can be sorted -/
theorem sortsAt_tup {vs : List Value} {ds : List PyData} (e : EachIs (fun v d => ∃ as, Reads s.heap v d as) vs ds) (hal : AllAlike ds) (ht : ∀ d, d ∈ ds → ∃ xs, d = .tuple xs) (hu : ∀ d, d ∈ ds → A.units + d.depth < cLine) : SortsAt prog w A s (dataKind s.heap ds) vs := by
  by_cases c : ∀ d, d ∈ ds → ∃ x r, d = .tuple (x :: r)
  · exact SortsAt.data e hal (.inl c) hu
  have room : ∀ {d d' : PyData}, d ∈ ds → A.units + min d.depth d'.depth < cLine := fun {d d'} hd => Nat.lt_of_le_of_lt (Nat.add_le_add_left (Nat.min_le_left _ _) _) (hu d hd)
  obtain ⟨fs, f1, f2⟩ := each_fsts e ht
  have f3 : ∃ f ∈ fs, f = none := by
    refine f2 ?_
    refine Classical.byContradiction fun z => c fun d hd => ?_
    obtain ⟨xs, rfl⟩ := ht d hd
    cases xs with
    | nil => exact absurd ⟨_, hd, rfl⟩ z
    | cons x r => exact ⟨x, r, rfl⟩
  refine ⟨fun v hv => ?_, (if (fs[0]?.bind id).isSome then general' else oneType'), ?_, fun h2 E Q hq => ?_⟩
  · obtain ⟨d, hd, as, r⟩ := e.left v hv
    exact ⟨_, dataKind_some hal hd r⟩
  · intro E x y a b Q ha hb hq
    obtain ⟨d, as, hd, ra, rfl⟩ := dataKind_inv ha
    obtain ⟨d', as', hd', rb, rfl⟩ := dataKind_inv hb
    obtain ⟨xs, rfl⟩ := ht d hd
    obtain ⟨ys, rfl⟩ := ht d' hd'
    split
    · exact oneLt_alike (f := false) (fun z => nomatch z) ra rb (hal _ hd _ hd') (fun z => nomatch z) (room hd) hq
    · rw [keyLt'_oneType]
      exact oneLt_tup ra rb (hal _ hd _ hd') (room hd) hq
  · refine kind_tup h2 f1 (fun v hv => ?_) f3 hq
    obtain ⟨d, hd, as, r⟩ := e.left v hv
    obtain ⟨xs, rfl⟩ := ht d hd
    exact looks_reads r
/-- sorted(xs) -/
theorem sorted_tup {β : Type} {enc : β → PyData} {R : Value → β → Prop} {vs : List Value} {bs : List β} {l : Addr} {Q : Value → Shared → Prop} (hl : s.heap.IsList l vs.toArray) (e : EachIs R vs bs) (er : EachIs (fun v b => ∃ as, Reads s.heap v (enc b) as) vs bs) (hal : AllAlike (bs.map enc)) (ht : ∀ b, ∃ xs, enc b = .tuple xs) (hL : bs.length ≤ sizeLine)
    (hu : ∀ b, b ∈ bs → A.units + 2 + (enc b).depth < cLine) (h : ∀ out, out.length = bs.length → EachIs R out (bs.mergeSort (dataLe false enc)) → Q (.ref (s.heap.objs.size + 1)) { s with heap := sortedAll s.heap vs (List.toArray out) }) :
    wpAny (model prog w) A (call (.builtin "sorted") [.ref l]) Q E s := by
  have er' : EachIs (fun v b => ∃ as, Reads (sortingHeap (copyHeap s.heap vs) (s.heap.objs.size + 1) vs) v (enc b) as) vs bs := er.mono fun _ _ ⟨as, r⟩ => ⟨as, PyProof.Rows.Reads.keeps (fun _ _ => sorting_copy_old) r⟩
  exact sorted_vals hl (sortsAt_tup (s := { s with heap := sortingHeap (copyHeap s.heap vs) (s.heap.objs.size + 1) vs }) (each_map (R := fun v d => ∃ as, Reads (sortingHeap (copyHeap s.heap vs) (s.heap.objs.size + 1) vs) v d as) enc er') hal (fun d hd => by
      obtain ⟨b, _, rfl⟩ := List.mem_map.mp hd
      exact ht b) (bound_map hu)) (by rw [e.length]; exact hL)
    (h _ (by rw [sortVals_length false rfl]; exact e.length) (sortVals_data false e er' hal))
end
end TP
namespace TP
open PySem PySem.Spec PyProof.Rows L2
open PySem.W (EachIs)
/-- a path as a datum -/
def tsD (ks : List Str) : PyData := .tuple (ks.map .str)
def srtT (qs : List (Addr × List Str)) : List (Addr × List Str) := qs.mergeSort (PySem.W.dataLe false fun q => tsD q.2)
theorem srtT_perm (qs : List (Addr × List Str)) : (srtT qs).Perm qs := List.mergeSort_perm _ _
theorem alike_strs : ∀ xs ys : List Str, PySem.W.alikeAll (xs.map .str) (ys.map .str) = true
  | [], _ => by simp [PySem.W.alikeAll]
  | _ :: _, [] => by simp [PySem.W.alikeAll]
  | x :: xs, y :: ys => by
    show PySem.W.alikeAll (.str x :: xs.map .str) (.str y :: ys.map .str) = true
    rw [PySem.W.alikeAll, alike_strs xs ys]
    simp [PySem.W.alike]
theorem depth_strs : ∀ xs : List Str, PyData.depthAll (xs.map .str) = 0
  | [] => by simp [PyData.depthAll]
  | x :: xs => by
    show PyData.depthAll (.str x :: xs.map .str) = 0
    rw [PyData.depthAll, depth_strs xs]
    simp [PyData.depth]
theorem reads_strs {h : Heap} : ∀ {ks : List Str} {us : List Value}, Vals (ks.map V.str) us → PySem.ReadsAll h us (ks.map .str) []
  | [], _, r => by
    cases r
    exact .nil
  | k :: ks, _, r => by
    cases r with
    | cons r1 r2 =>
      obtain ⟨t, rfl⟩ := r1
      exact .cons (as := []) (bs := []) (.str k t) (reads_strs r2)
theorem refs_vals : ∀ {qs : List (Addr × List Str)} {us : List Value}, Vals (qs.map fun q => V.ref q.1) us → us = qs.map fun q => Value.ref q.1
  | [], us, r => by
    rw [List.map_nil] at r
    cases r
    rfl
  | q :: qs, us, r => by
    rw [List.map_cons] at r
    cases r with
    | cons h q' =>
      cases h
      rw [List.map_cons, ← refs_vals q']
theorem vals_refs : ∀ qs : List (Addr × List Str), Vals (qs.map fun q => V.ref q.1) (qs.map fun q => Value.ref q.1)
  | [] => .nil
  | _ :: qs => .cons rfl (vals_refs qs)
theorem each_self {P : Addr × List Str → Prop} : ∀ (qs : List (Addr × List Str)), (∀ q ∈ qs, P q) → EachIs (fun v q => v = Value.ref q.1 ∧ P q) (qs.map fun q => Value.ref q.1) qs
  | [], _ => .nil
  | q :: qs, h => .cons ⟨rfl, h q List.mem_cons_self⟩ (each_self qs fun r hr => h r (List.mem_cons_of_mem _ hr))
theorem each_eq : ∀ {out : List Value} {qs : List (Addr × List Str)}, EachIs (fun v q => v = Value.ref q.1) out qs → out = qs.map fun q => Value.ref q.1
  | _, _, .nil => rfl
  | _, _, .cons h t => by rw [List.map_cons, ← each_eq t, h]
/-- sorted(xs), xs a list of tuples of texts: a new list -/
def rSortTS (K : PySem.W.Frag) : List V → Hp → VK → Prop := fun vs H Q => ∃ (a : Addr) (qs : List (Addr × List Str)), vs = [V.ref a] ∧ SqL K H a (qs.map fun q => V.ref q.1) ∧ (∀ q ∈ qs, SqT K H q.1 (q.2.map V.str)) ∧ ∀ p, H p = none → Q (.ref p) (upd H p (.lst ((srtT qs).map fun q => V.ref q.1)))
theorem cr_sortTS {X : Cx} (hu : X.A.units + 64 < cLine) : CallR X (.builtin "sorted") (rSortTS X.K) := by
  intro pins s σ H vs us Q I r h
  obtain ⟨a, qs, rfl, hs, hx, q⟩ := h
  obtain ⟨its, rv, hl, hz⟩ := I.list hs
  rw [Vals.ref1 r]
  have ei := refs_vals rv
  rw [List.length_map] at hz
  have hr : ∀ q ∈ qs, ∃ as, Reads s.heap (.ref q.1) (tsD q.2) as := fun q hq => by
    obtain ⟨ts, rt, ⟨o, h1, h2, n, h3⟩, _⟩ := I.tuple (hx q hq)
    exact ⟨[], .tuple h1 h2 h3 (by simpa using reads_strs rt)⟩
  have e1 : EachIs (fun v q => v = Value.ref q.1 ∧ ∃ as, Reads s.heap (.ref q.1) (tsD q.2) as) its qs := by
    rw [ei]
    exact each_self qs hr
  refine sorted_tup (β := Addr × List Str) (enc := fun q => tsD q.2) (R := fun v q => v = Value.ref q.1) (bs := qs) hl.isList (e1.mono fun _ _ z => z.1) (e1.mono fun v q z => by rw [z.1]; exact z.2)
    (PySem.W.AllAlike.of fun b b' => by show PySem.W.alike (.tuple _) (.tuple _) = true; simp only [PySem.W.alike]; exact alike_strs _ _) (fun b => ⟨_, rfl⟩) hz (fun b _ => ?_) fun out ho hout => ?_
  · have : (tsD b.2).depth = 1 := by show (PyData.tuple _).depth = 1; rw [PyData.depth, depth_strs]
    rw [this]
    omega
  · have eo : out = (srtT qs).map fun q => Value.ref q.1 := each_eq hout
    obtain ⟨ep, he'⟩ := PyProof.Rows.sortedAll_at s.heap its out.toArray
    have hlen : ((srtT qs).map fun q => V.ref q.1).length ≤ sizeLine := by
      rw [List.length_map, (srtT_perm qs).length_eq]
      exact hz
    refine ⟨.ref _, upd H (s.heap.objs.size + 1) (.lst ((srtT qs).map fun q => V.ref q.1)), I.laid (t' := s.toks) (fun _ _ => PyProof.Rows.sortedAll_old) (Nat.le_succ _) ⟨hlen, out, ep, by rw [eo]; exact vals_refs _, he'⟩, rfl, q _ (I.hok.fresh (Nat.le_succ _))⟩
end TP

/-! {t: v}, t a tuple of texts and ints -/
namespace TP
open PySem PySem.Spec PyProof.Rows L2
def tDispT (trs : List (TE × TE)) : TE := fun σ H Q => ∀ p, H p = none → tPairs trs σ (upd H p (.dT [])) fun ps H2 => H2 p = some (.dT []) ∧ ∃ (k : List L2.Key) (b : Addr) (v : V), ps = [(.ref b, v)] ∧ H2 b = some (.tup (k.map kV)) ∧ Q (.ref p) (upd H2 p (.dT [(k, v)]))
theorem pe_dispT {X : Cx} {pos : Pos} {keys : List (Option Expr)} {values : List Expr} {trs : List (TE × TE)} (hu : X.A.units + 1 < cLine) (h : PPs X pos keys values trs) (hall : keys.all (·.isSome) = true) (hl : keys.length = values.length) (h0 : keys ≠ [])
    (h15 : keys.length ≤ 15) : PE X (.Dict keys values pos) (tDispT trs) := by
  refine ⟨fun pins s σ H Q I q => ?_⟩
  have hn := I.hok.fresh (Nat.le_refl s.heap.objs.size)
  have I1 := I.laid (a := s.heap.objs.size) (o := .dT []) (h' := s.heap.push { cls := .type "dict", data := .dict #[] }) (t' := s.toks) (fun _ _ q => Heap.get?_push_of_some _ q) (Nat.le_refl _) (dt_empty s.heap I.big)
  have hlen := pairTrees_length keys values X.env pos hall hl
  have hne : pairTrees keys values X.env pos ≠ [] := by
    intro he
    rw [he] at hlen
    exact h0 (List.length_eq_zero_iff.mp hlen.symm)
  rw [arm_eval_Dict, zip_pairTrees keys values X.env pos hall hl, dictDisplay_pairs _ hne (by omega)]
  refine wpAny_bind (wpAny_standAt (wpAny_bind (wpAny_subDictH (knd := tupleKind (mixKind X.prog X.w)) (Q := fun d s' => wpAny (model X.prog X.w) X.A (pure (Value.ref d)) _ X.xe s') (show X.A.units < cLine by omega) (by omega) (thn (h.run pins _ σ _ _ I1 (q _ hn)) fun ws s2 z => ?_))))
  obtain ⟨ps, H2, I2, rel, e, k, b, v, ep, eb, q2⟩ := z
  subst ep
  cases rel with
  | cons hr t =>
    cases t
    rename_i w2
    obtain ⟨w2a, w2b⟩ := w2
    obtain ⟨r1, r2⟩ := hr
    have r1 : w2a = .ref b := r1
    obtain ⟨z, hd, xs, r0, dd⟩ := dt_of I2.hok e
    cases r0
    refine ⟨[(k, b, w2b)], ⟨r1, rfl, key_of I2.hok eb, trivial⟩, dd, fun h' tk dd' hs => wpAny_pure ⟨.ref s.heap.objs.size, _, ?_, rfl, q2⟩⟩
    obtain ⟨q, es, ep, hq, h2, h3, h4, _, h5⟩ := dd'
    refine d_write I2 (by rw [e]; exact True.intro) hs ⟨q, hq⟩ ⟨(by show 1 ≤ sizeLine; decide), hd, _, ((show KT H2 [] [] from .nil).put k eb r2).keeps fun c ys ec => ?_, q, es, ep, hq, h2, h3, h4, h5⟩
    rw [upd_ne (ne_of ec e (fun z => nomatch z))]
    exact ec
end TP

/-! t[::-1], t a tuple -/
namespace HT
open PySem PyProof.Rows
section
variable {prog : Program} {w : World} {A : Around} {E : Value → Shared → Prop} {s : Shared}
theorem adjust_rev (n : Nat) : Builtin.Slice.sliceAdjust none none (-1) (n : Int) = ((n : Int) - 1, -1) := by
  first | rfl | simp [Builtin.Slice.sliceAdjust]
theorem places_rev (n : Nat) : Builtin.Slice.slicePlaces ((n : Int) - 1) (-1) (-1) = n := by
  unfold Builtin.Slice.slicePlaces
  simp
  omega
theorem sliceApplied_rev {sl : Addr} {vk : Value} {n : Nat} {Q : Int × Int × Nat → Shared → Prop} (hs : s.heap.IsSliceOf sl .none .none vk) (pk : IsPart vk (some (-1)))
    (h : Q ((n : Int) - 1, -1, n) s) : wpAny (model prog w) A (Builtin.Slice.sliceApplied (.ref sl) (pure (n : Int))) Q E s := by
  obtain ⟨os, hos, hcs, hds⟩ := id hs
  unfold Builtin.Slice.sliceApplied Builtin.Slice.sliceFields
  refine wpAny_bind (wpAny_bind (wpAny_field hos hds (x := .none) rfl (wpAny_bind (wpAny_field hos hds (x := .none) rfl (wpAny_bind (wpAny_field hos hds (x := vk) rfl (wpAny_pure ?_)))))))
  refine wpAny_bind (slicePart_ pk ?_)
  show wpAny _ _ (if ((-1 : Int) == 0) = true then _ else _) _ _ s
  rw [if_neg (by decide)]
  refine wpAny_bind (slicePart_none (wpAny_bind (slicePart_none (wpAny_bind (wpAny_pure ?_)))))
  show wpAny _ _ (match Builtin.Slice.sliceAdjust none none (-1) (n : Int) with | (lo, hi) => pure (lo, (-1 : Int), Builtin.Slice.slicePlaces lo hi (-1))) _ _ s
  rw [adjust_rev n]
  show wpAny _ _ (pure ((n : Int) - 1, (-1 : Int), Builtin.Slice.slicePlaces ((n : Int) - 1) (-1) (-1))) _ _ s
  rw [places_rev]
  exact wpAny_pure h
theorem fm_congr {α β : Type} {f g : α → Option β} : ∀ {l : List α}, (∀ x ∈ l, f x = g x) → l.filterMap f = l.filterMap g
  | [], _ => rfl
  | x :: l, h => by
    rw [List.filterMap_cons, List.filterMap_cons, h x List.mem_cons_self, fm_congr fun y hy => h y (List.mem_cons_of_mem _ hy)]
theorem pick_rev (xs : Array Value) : ((List.range xs.size).filterMap fun (m : Nat) => xs[(((xs.size : Nat) : Int) - 1 + (m : Int) * (-1)).toNat]?).toArray = xs.toList.reverse.toArray := by
  have e : ((List.range xs.size).filterMap fun (m : Nat) => xs[(((xs.size : Nat) : Int) - 1 + (m : Int) * (-1)).toNat]?) = ((List.range xs.size).map fun k => xs.size - 1 - k).filterMap (xs[·]?) := by
    rw [List.filterMap_map]
    refine fm_congr fun m hm => ?_
    have hm := List.mem_range.mp hm
    show xs[(((xs.size : Nat) : Int) - 1 + (m : Int) * (-1)).toNat]? = xs[xs.size - 1 - m]?
    rw [show (((xs.size : Nat) : Int) - 1 + (m : Int) * (-1)).toNat = xs.size - 1 - m by omega]
  rw [e, PySem.W.krv_range, List.filterMap_reverse, PySem.W.krv_all]
theorem getItem_tuple_rev {t sl : Addr} {items : Array Value} {vk : Value} {Q : Value → Shared → Prop} (ht : IsTup s.heap t items) (hs : s.heap.IsSliceOf sl .none .none vk) (pk : IsPart vk (some (-1)))
    (h : Q (.ref s.heap.objs.size) { s with heap := s.heap.push { cls := .type "tuple", data := .seq items.toList.reverse.toArray } })
    (hsz : items.size ≤ sizeLine) : wpAny (model prog w) A (getItem (.ref t) (.ref sl)) Q E s := by
  have htake : sizeOk (.seq items.toList.reverse.toArray) := by
    show items.toList.reverse.toArray.size ≤ sizeLine
    simpa using hsz
  obtain ⟨os, hos, hcs, hds⟩ := id hs
  have hTs : s.TypeIs (.ref sl) "slice" := ⟨os, hos, hcs⟩
  unfold getItem
  try with_reducible refine wpAny_holding ?_
  first | refine wpAny_bind (wpAny_pure ?_) | skip
  refine wpAny_bind (wpAny_sequenceKey ht.typeIs (by decide) ?_)
  refine wpAny_bind (wpAny_callSpecial?_slot (name := Str.ofString "__getitem__") ht.typeIs PyProof.Rows.slot_tuple_getitem
    (wpAny_call_entry PyProof.Rows.slot_tuple_getitem ht.typeIs entry_tuple_getitem ?_ (args_tuple_getitem _ _)))
  show wpAny _ _ (Builtin.Tuple.tupleItemsOf (.ref t) >>= _) _ _ s
  refine wpAny_bind (tupleItemsOf_ ht ?_)
  refine wpAny_bind (wpAny_typeOf hTs ?_)
  rw [if_pos (by decide)]
  refine wpAny_bind (sliceApplied_rev hs pk ?_)
  have hno : ¬ (((((items.size : Nat) : Int) - 1) == 0 && (-1 : Int) == 1 && items.size == items.size) = true) := by
    intro q
    rw [Bool.and_eq_true, Bool.and_eq_true] at q
    exact absurd (eq_of_beq q.1.2) (by decide)
  show wpAny _ _ (if ((((items.size : Nat) : Int) - 1) == 0 && (-1 : Int) == 1 && items.size == items.size) = true then _ else _) _ _ s
  rw [if_neg hno, pick_rev]
  first
    | exact wpAny_bind (m := Builtin.Tuple.tupleExact _) (wpAny_newObj_type (wpAny_pure ⟨_, rfl, wpAny_pure h⟩) htake)
    | exact wpAny_bind (m := Builtin.Tuple.tupleExact _) (wpAny_newObj_type (wpAny_bind (wpAny_pure (wpAny_pure ⟨_, rfl, wpAny_pure h⟩))) htake)
    | exact wpAny_bind (wpAny_bind (m := Builtin.Tuple.tupleExact _) (wpAny_newObj_type (wpAny_pure (wpAny_pure ⟨_, rfl, wpAny_pure h⟩)) htake))
    | exact wpAny_bind (wpAny_bind (m := Builtin.Tuple.tupleExact _) (wpAny_newObj_type (wpAny_pure ⟨_, rfl, wpAny_pure h⟩) htake))
end
end HT
namespace TP
open PySem PySem.Spec PyProof.Rows L2
def tRevT (K : PySem.W.Frag) (te : TE) : TE := fun σ H Q => te σ H fun x H1 => ∃ a xs, x = .ref a ∧ SqT K H1 a xs ∧ ∀ p, H1 p = none → Q (.ref p) (upd H1 p (.tup xs.reverse))
theorem pe_revT {X : Cx} {e : Expr} {te : TE} {k : Nat} {p1 p2 p3 pos : Pos} (he : PE X e te) : PE X (.Subscript e (.Slice none none (some (.UnaryOp .USub (.Constant (.int 1) k p1) p2)) p3) pos) (tRevT X.K te) := by
  refine ⟨fun pins s σ H Q I h => ?_⟩
  refine Subscript_ (thn (he.run pins s σ H _ I h) fun v s1 ⟨x, H1, I1, r1, q1⟩ => ?_)
  obtain ⟨a, xs, ex, hx, q⟩ := q1
  subst ex
  cases r1
  have hst : PO X (some (.UnaryOp .USub (.Constant (.int 1) k p1) p2)) (tPart (tUn (rU fun i => .int (-i)) (tC (.int 1)))) := po_some (pe_un un_neg pe_int)
  refine wpAny_Slice (thn (po_none.run pins s1 σ H1 (fun o H2 => o = none ∧ H2 = H1) I1 ⟨rfl, rfl⟩) fun vl s2 ⟨l, H2, I2, pl, el, e2⟩ => ?_)
  subst el e2
  refine thn (po_none.run pins s2 σ H2 (fun o H3 => o = none ∧ H3 = H2) I2 ⟨rfl, rfl⟩) fun vu s3 ⟨u, H3, I3, pu, eu, e3⟩ => ?_
  subst eu e3
  refine thn (hst.run pins s3 σ H3 (fun o H4 => o = some (-1) ∧ H4 = H3) I3 ⟨1, rfl, -1, rfl, rfl, rfl⟩) fun vs s4 ⟨o, H4, I4, ps, eo, e4⟩ => ?_
  subst eo e4
  have I5 : Inv X pins σ H4 { s4 with heap := s4.heap.push { cls := .type "slice", data := .fields #[vl, vu, vs] } } := I4.kept (t' := s4.toks) fun b ob q => Heap.get?_push_of_some _ q
  obtain ⟨its, r, ht, hz⟩ := I5.tuple hx
  have hlen := r.length
  cases pl
  cases pu
  refine tail_any (ops := [.ref a, .ref s4.heap.objs.size]) ht.typeIs (PyProof.Rows.slot_tuple_getitem.lookup) ?_ (by with_unfolding_all rfl)
  refine HT.getItem_tuple_rev ht (Heap.IsSliceOf.new _ .none .none vs) ps ?_ (by rw [List.size_toArray]; omega)
  refine ⟨.ref _, _, I5.laid (t' := s4.toks) (o := .tup xs.reverse) (fun b ob q => Heap.get?_push_of_some _ q) (Nat.le_refl _) ?_, rfl, q _ (I5.hok.fresh (Nat.le_refl _))⟩
  exact ⟨by rw [List.length_reverse]; exact hz, _, r.reverse, IsTup.new _ _⟩
end TP

/-! enumerate(t), t a tuple -/
namespace PySem
open Sem (wp)
open AutoSeq1 (wpAny_loadPart')
open MeetsSeq MeetsSeq2 MeetsSeq3 SeqRoads2
theorem tp_enumerate_new (l : Addr) (items : Array Value) (n : Nat) (dct : Option Addr) (sl : Array (Option Value)) :
    Meets (Builtin.«enumerate.__new__» ⟨[.type "enumerate", .ref l], []⟩) (fun _ R s => s.heap.get? l = some { cls := .type "tuple", dict := dct, data := .seq items n, slots := sl } ∧
      R (.ok (.ret (.ref (s.heap.push { cls := .type "tuple_iterator", data := .fields #[.ref l, .int 0 0] }).objs.size)))
        { s with heap := (s.heap.push { cls := .type "tuple_iterator", data := .fields #[.ref l, .int 0 0] }).push { cls := .type "enumerate", data := .fields #[.none, .bool false, .ref s.heap.objs.size, rawInt 0, .none, .none] } }) :=
  .of_wp fun prog w A R s h => by
    obtain ⟨hp, g, d, tk, os⟩ := s; obtain ⟨hl, h⟩ := h
    have hsub := sub_enumerate
    have hL : Heap.IsTuple (Shared.heap ⟨hp, g, d, tk, os⟩) l items := ⟨_, hl, rfl, n, rfl⟩
    wp_walk using wpAny_loadPart' hl
    refine wpAny_stack_any fun st => wpAny_pure ?_
    split
    · rename_i c _ _ _ _ _
      cases (c == Value.type "enumerate")
      · wp_walk using wpAny_loadPart' hl, wpAny_pyIter_tuple hL
        exact ⟨_, rfl, h⟩
      · wp_walk using wpAny_loadPart' hl, wpAny_pyIter_tuple hL
        exact ⟨_, rfl, h⟩
    · wp_walk using wpAny_loadPart' hl, wpAny_pyIter_tuple hL
      exact ⟨_, rfl, h⟩
section
variable {prog : Program} {w : World} {A : Around} {E : Value → Shared → Prop} {s : Shared}
theorem call_enumerate_tp {l : Addr} {items : Array Value} {Q : Value → Shared → Prop} (hL : s.heap.IsTuple l items)
    (h : ∀ h', IsEnum h' (s.heap.objs.size + 1) s.heap.objs.size 0 .none → h'.IsTupleIter s.heap.objs.size l 0 → h'.objs.size = s.heap.objs.size + 2 →
      (∀ b o, s.heap.get? b = some o → h'.get? b = some o) → Q (.ref (s.heap.objs.size + 1)) { s with heap := h' }) :
    wpAny (model prog w) A (call (.type "enumerate") [.ref l]) Q E s := by
  obtain ⟨⟨c, dct, dt, sl⟩, hl, hc, n, hd⟩ := hL
  replace hc : c = .type "tuple" := hc
  replace hd : dt = .seq items n := hd
  subst hc hd
  refine callType_new F.called_enumerate (by decide) (F.typeCall_enumerate_1 _) (F.newCall_enumerate_1 _) (fun obj => F.args_object_init_2 obj _) F.entry_enumerate_new
    (tp_enumerate_new l items n dct sl) ⟨hl, ?_⟩
  have hz : (s.heap.push { cls := .type "tuple_iterator", data := .fields #[.ref l, .int 0 0] }).objs.size = s.heap.objs.size + 1 := Heap.size_push ..
  show _ ∧ _
  rw [hz]
  have he : IsEnum ((s.heap.push { cls := .type "tuple_iterator", data := .fields #[.ref l, .int 0 0] }).push
      { cls := .type "enumerate", data := .fields #[.none, .bool false, .ref s.heap.objs.size, rawInt 0, .none, .none] }) (s.heap.objs.size + 1) s.heap.objs.size 0 .none := by
    have := Heap.get?_push_size (s.heap.push { cls := .type "tuple_iterator", data := .fields #[.ref l, .int 0 0] })
      (o := { cls := .type "enumerate", data := .fields #[.none, .bool false, .ref s.heap.objs.size, rawInt 0, .none, .none] }) rfl
    rw [hz] at this; exact this
  refine ⟨⟨_, he, rfl⟩, h _ he ⟨_, Heap.get?_push_of_some _ (Heap.get?_push_size _ rfl), rfl, rfl⟩ (by rw [Heap.size_push, hz]) fun b o x => Heap.get?_push_of_some _ (Heap.get?_push_of_some _ x)⟩
end
end PySem
namespace L2
open PySem PySem.Spec PyProof.Rows
/-- the tuple at a as it stands at each turn, the items in new pairs -/
def Itet (K : PySem.W.Frag) (a : Addr) : It :=
  ⟨fun i H => ∃ (xs : List V) (x : V), SqT K H a xs ∧ xs[i]? = some x, fun i H v H' => ∃ T x, v = .ref T ∧ H T = none ∧ H' = upd H T (.tup [.int (i : Nat), x]) ∧ ∀ xs, SqT K H a xs → xs[i]? = some x, fun i H => ∃ xs : List V, SqT K H a xs ∧ xs.length = i⟩
theorem turn_enumT {P : Program} {w : World} {K : PySem.W.Frag} {elts : List Expr} {kk : Nat} {tpos : Pos} (a e it : Addr) (hai : a ≠ it) (hae : e ≠ a) :
    Turn P w K (.Tuple elts kk tpos) (Itet K a) [e, it] e (fun i h => (∃ old, IsEnum h e it ((i : Nat) : Int) old) ∧ h.IsTupleIter it a i ∧ e ≠ it) where
  mem := by simp
  obj := fun i h st b hb => by
    obtain ⟨⟨old, he⟩, ⟨o, ho, hc, hd⟩, _⟩ := st
    have e' : b = e ∨ b = it := by simpa using hb
    rcases e' with z | z
    · rw [z]; exact ⟨_, he, fun v q => nomatch q⟩
    · rw [z]; exact ⟨o, ho, fun v q => by rw [hd] at q; cases q⟩
  keep := fun i h h' st k => let ⟨⟨old, he⟩, hi, hne⟩ := st; ⟨⟨old, k e (by simp) _ he⟩, hi.at fun o q => k it (by simp) o q, hne⟩
  item := by
    intro X hP hw hK hc i pins s σ H E I hf st hg
    subst hP hw hK
    obtain ⟨⟨old, he⟩, hit, hne⟩ := st
    obtain ⟨xs, x, hq, hx⟩ := hg
    obtain ⟨its, rv, p, hz⟩ := I.tuple hq
    obtain ⟨u, hu, ru⟩ := rv.get hx
    have hel : e < s.heap.objs.size := Heap.lt_size he
    have hil : it < s.heap.objs.size := by obtain ⟨_, q, _⟩ := hit; exact Heap.lt_size q
    have hult : i < its.toArray.size := by
      have := (List.getElem?_eq_some_iff.mp hu).1
      simpa using this
    refine wpAny_pyNext_enum_itemD (Draws.tuple (A := X.A.in1) (show X.A.in1.handled = none from I.ok.hd hc) it a hai its.toArray) he ⟨hit, p⟩ hult hne (by simp [hne, hae]) fun x' h' tk hx' ho hst hT hsz hk => ?_
    have ex' : x' = u := by
      have hu' : its.toArray[i]? = some u := by simpa using hu
      rw [hu'] at hx'
      exact (Option.some.inj hx').symm
    subst ex'
    obtain ⟨hit', _⟩ := hst
    refine ⟨_, rfl, wpAny_letOwnedTupleGo_enum (s := { s with heap := h', toks := tk + 1 }) ho fun h'' he' sb => ?_⟩
    have hT2 : h''.get? s.heap.objs.size = some { cls := .type "tuple", data := .seq #[.int i tk, x'] } := (sb.2 _ (Nat.ne_of_gt hel)).trans hT
    have new : ObjOk X.prog X.w (upd H s.heap.objs.size (.tup [.int (i : Nat), x])) h'' s.heap.objs.size (.tup [.int (i : Nat), x]) :=
      ⟨by show 2 ≤ sizeLine; decide, [.int i tk, x'], .cons ⟨_, rfl⟩ (.cons ru .nil), ⟨_, hT2, rfl, _, rfl⟩⟩
    have I1 : Inv X pins σ (upd H s.heap.objs.size (.tup [.int (i : Nat), x])) { s with heap := h'', toks := tk + 1 } :=
      I.turnedNew (ch := [e, it]) (fun b ob hb q => (sb.2 b (fun z => hb (by simp [z]))).trans (hk b ob (fun z => hb (by simp [z])) (fun z => hb (by simp [z])) q)) hf (Nat.le_refl _) new
    refine ⟨.ref s.heap.objs.size, _, I1, rfl, ⟨_, x, rfl, I.hok.fresh (Nat.le_refl _), rfl, fun ys hy => by rw [I.tuple_inj hy hq]; exact hx⟩, ⟨⟨x', ?_⟩, hit'.at fun o q => (sb.2 it (Ne.symm hne)).trans q, hne⟩, fun b hb => ?_⟩
    · have e1 : ((i + 1 : Nat) : Int) = (i : Int) + 1 := by omega
      rw [e1]; exact he'
    · have hb' : b < s.heap.objs.size := by
        have e' : b = e ∨ b = it := by simpa using hb
        rcases e' with z | z
        · rw [z]; exact hel
        · rw [z]; exact hil
      rw [upd_ne (Nat.ne_of_lt hb')]
      exact (hf b hb).1
  done := by
    intro X hP hw hK hc i pins s σ H E I hf st hg
    subst hP hw hK
    obtain ⟨⟨old, he⟩, hit, hne⟩ := st
    obtain ⟨xs, hq, hx⟩ := hg
    obtain ⟨its, rv, p, hz⟩ := I.tuple hq
    obtain ⟨f0, f1, f2, f3, f4, f5⟩ := hf it (by simp)
    have hl := rv.length
    have c : i = its.toArray.size := by rw [List.size_toArray]; omega
    subst c
    exact wpAny_pyNext_enum_endD (Draws.tuple (A := X.A.in1) (show X.A.in1.handled = none from I.ok.hd hc) it a hai its.toArray) he ⟨hit, p⟩ fun h' eb => ⟨rfl, I.turned (t' := s.toks) (fun b o hb q => eb b o hb q) f0 f1 f3 f4 f5⟩
  self := fun A i s Q E st h => let ⟨⟨_, he⟩, _⟩ := st; wpAny_pyIter_enum he h
def iEnumT (K : PySem.W.Frag) (ta : TA) : TI := fun σ H R => ta σ H fun vs H1 => ∃ a xs, vs = [.ref a] ∧ SqT K H1 a xs ∧ R (Itet K a) H1
theorem pi_enumT {X : Cx} {e : Expr} {ta : TA} {p pos tpos : Pos} {elts : List Expr} {kk : Nat} (hg : Gl X "enumerate") (hm : X.mg "enumerate" = none) (ha : PA X [e] ta) (hs : starEach [e] X.env = [(false, eval e X.env)] := by rfl) :
    PI X (.Tuple elts kk tpos) (.Call (.Name "enumerate" p) [e] [] pos) (iEnumT X.K ta) := by
  refine ⟨fun pins s σ H R I h => ?_⟩
  refine Call_ (ld_blt I hg hm boot_enumerate (PyProof.Rows.callWith_type1 (thn (ha.run pos pins s σ H _ I h) fun us s1 ⟨vs, H1, I1, r1, q1⟩ => ?_) hs rfl))
  obtain ⟨a, xs, ex, hq, q⟩ := q1
  subst ex
  cases r1 with
  | cons r rr =>
    cases rr
    cases r
    obtain ⟨its, rv, p', hz⟩ := I1.tuple hq
    have hal : a < s1.heap.objs.size := by obtain ⟨_, q, _⟩ := p'; exact Heap.lt_size q
    refine call_enumerate_tp (show s1.heap.IsTuple a its.toArray from p') fun h' he hit hsz hk => wpAny_pyIter_enum he ?_
    have I2 : Inv X pins σ H1 { s1 with heap := h' } := I1.kept (t' := s1.toks) hk
    refine ⟨s1.heap.objs.size + 1, [s1.heap.objs.size + 1, s1.heap.objs.size], _, _, H1, rfl, I2, turn_enumT a (s1.heap.objs.size + 1) s1.heap.objs.size (Nat.ne_of_lt hal) (Nat.ne_of_gt (Nat.lt_succ_of_lt hal)), ⟨⟨.none, he⟩, hit, Nat.succ_ne_self _⟩, fun b hb => ?_, q⟩
    have e' : b = s1.heap.objs.size + 1 ∨ b = s1.heap.objs.size := by simpa using hb
    have hle : s1.heap.objs.size ≤ b := by
      rcases e' with z | z
      · rw [z]; exact Nat.le_add_right _ _
      · rw [z]; exact Nat.le_refl _
    exact I1.fpOk hle (I1.hok.fresh hle)
theorem walk_enumT {K : PySem.W.Frag} {a : Addr} {xs : List V} : Walk (Itet K a) xs.length (fun H => SqT K H a xs) (YPair (fun i => some (.int (i : Nat))) (fun i => xs[i]?)) := by
  refine ⟨fun i _ hi q => ⟨xs, xs[i], q, by simp [hi]⟩, fun _ q => ⟨xs, q, rfl⟩, fun i H v H' _ q y => ?_⟩
  obtain ⟨T, x, h1, h2, h3, h4⟩ := y
  exact ⟨T, .int (i : Nat), x, h1, h2, h3, rfl, h4 xs q⟩
end L2

namespace TP
open PySem PySem.Spec PyProof.Rows L2
/-- the state that draws go through -/
def StAt (H : Hp) (a : Addr) : Prop := ∃ x y z : Int, H a = some (.lst [.int x, .int y, .int z]) ∧ 0 ≤ x ∧ 0 ≤ y ∧ y < 2147483640 ∧ 0 ≤ z
/-- only the state at a has moved -/
structure Mv [TabL] (a : Addr) (H H' : Hp) : Prop where
  st : StAt H' a
  go : ∀ b o, b ≠ a → H b = some o → isTbl o = false → H' b = some o
  ne : ∀ b, H b ≠ none → H' b ≠ none
  tab : ∀ b q, TabL.R b q → LamX.TabS H b q → LamX.TabS H' b q
theorem Mv.ex [TabL] {a H H'} (x : Mv a H H') (b : Addr) (o : HO) [z : NT o] (n : b ≠ a) (h : H b = some o) : H' b = some o := x.go b o n h z.h
theorem Mv.trans [TabL] {a H H1 H2} (x : Mv a H H1) (y : Mv a H1 H2) : Mv a H H2 := ⟨y.st, fun b o n h z => y.go b o n (x.go b o n h z) z, fun b h => y.ne b (x.ne b h), fun b q r h => y.tab b q r (x.tab b q r h)⟩
theorem Mv.refl [TabL] {a H} (h : StAt H a) : Mv a H H := ⟨h, fun _ _ _ z _ => z, fun _ z => z, fun _ _ _ z => z⟩
theorem Mv.of_ex [TabL] {a H H'} (e : Ex H H') (h : StAt H a) : Mv a H H' := ⟨let ⟨x, y, z, hx, r⟩ := h; ⟨x, y, z, e a _ hx, r⟩, fun b o _ h z => e.go b o h z, e.ne, e.tab⟩
/-- the state itself is written -/
theorem Mv.put [TabL] {a H} (h : StAt H a) (x y z : Int) (x0 : 0 ≤ x) (y0 : 0 ≤ y) (y1 : y < 2147483640) (z0 : 0 ≤ z) : Mv a H (upd H a (.lst [.int x, .int y, .int z])) := by
  obtain ⟨u, v, w, hx, _⟩ := h
  refine ⟨⟨x, y, z, upd_same, x0, y0, y1, z0⟩, fun b o n e _ => by rw [upd_ne n]; exact e, fun b e => ?_, fun b q _ t => tab_upd t fun w hw => by rw [hx] at hw; cases hw; rfl⟩
  by_cases c : b = a
  · rw [c, upd_same]; exact fun z => nomatch z
  · rw [upd_ne c]; exact e
/-- what is new since H may change -/
theorem Mv.mut [TabL] {a H H1 p o u} (x : Mv a H H1) (ha : H a ≠ none) (hp : H p = none) (hu : H1 p = some u) (pl : isPl u = true := by rfl) : Mv a H (upd H1 p o) := by
  have npa : a ≠ p := fun z => ha (by rw [z]; exact hp)
  obtain ⟨c, y, z, hx, r⟩ := x.st
  exact ⟨⟨c, y, z, by rw [upd_ne npa]; exact hx, r⟩, fun b w n e z => by rw [upd_ne (ne_of_none e hp)]; exact x.go b w n e z, fun b e => by rw [upd_ne (fun z => e (by rw [z]; exact hp))]; exact x.ne b e, fun b q r t => tab_upd (x.tab b q r t) fun w hw => by rw [hu] at hw; cases hw; exact pl⟩
theorem Mv.new [TabL] {a H H1 p o} (x : Mv a H H1) (hp : H1 p = none) : Mv a H (upd H1 p o) := by
  exact x.trans (.of_ex (Ex.new hp) x.st)
theorem Mv.free [TabL] {a H H1 p} (x : Mv a H H1) (ha : H a ≠ none) (hp : H1 p = none) : H p = none := by
  cases e : H p with
  | none => rfl
  | some o => exact absurd hp (x.ne p (by rw [e]; exact fun z => nomatch z))
theorem StAt.ne {H a} (h : StAt H a) : H a ≠ none := by
  obtain ⟨u, y, w, h, _⟩ := h
  rw [h]
  exact fun z => nomatch z
theorem Dc.mv [TabL] {S G H H' n v d a} (x : Mv a H H') (hS : ¬ S a) (h : Dc S G H n v d) : Dc S G H' n v d := Dc.mono (fun _ z => z) (fun b u s y r => x.go b u (fun z => hS (by rw [← z]; exact s)) r y) (Nat.le_refl _) h
theorem Mem.mv [TabL] {S G H H' n ms f a} (x : Mv a H H') (hS : ¬ S a) (h : Mem S G H n ms f) : Mem S G H' n ms f := ⟨h.nd, h.ks, h.no, fun k u z => (h.at' k u z).mv x hS⟩
/-- new since H, and away from one address -/
abbrev Sl (H : Hp) : Addr → Prop := fun x => H x = none ∧ x ≠ sysModules
section
variable [TabL]
def spState : Sp := fun vs H Q _ => ∃ n : Int, vs = [.int n] ∧ ∀ p H', H p = none → Ex H H' → StAt H' p → (∀ b, b ≠ p → H b = none → H' b = none) → Q (.ref p) H'
def spDigit : Sp := fun vs H Q _ => ∃ (a : Addr) (b : Int), vs = [.ref a, .int b] ∧ StAt H a ∧ 0 < b ∧ b < 1000 ∧ ∀ (d : Int) H', 0 ≤ d → d < b → Mv a H H' → (∀ c, c ≠ a → H' c = H c) → Q (.int d) H'
end
theorem mem_cutV {xs : List V} {lo hi : Option Int} {x : V} (h : x ∈ cutV xs lo hi) : x ∈ xs := List.mem_of_mem_drop (List.mem_of_mem_take h)
theorem mv_ex [TabL] {a H0 H H'} (e : Ex H0 H) (ha : H0 a = none) (m : Mv a H H') : Ex H0 H' := ⟨fun b o h z => m.go b o (ne_of_none h ha) (e.go b o h z) z, fun b h => m.ne b (e.ne b h), fun b q r h => m.tab b q r (e.tab b q r h)⟩
theorem rd_two {H : Hp} {a : Addr} {u u' : HO} (h : Rd H a u) (h' : Rd H a u') (n : ∀ o w, u ≠ .frz o w) (n' : ∀ o w, u' ≠ .frz o w) : u = u' := by
  rcases h with h | ⟨o, h⟩ <;> rcases h' with h' | ⟨o', h'⟩
  · rw [h] at h'; injection h'
  · rw [h] at h'; injection h' with h'; exact absurd h' (n _ _)
  · rw [h] at h'; injection h' with h'; exact absurd h'.symm (n' _ _)
  · rw [h] at h'; injection h' with h'; injection h'
theorem inK_inj : ∀ {ms ms' : List (Str × V)}, kvsOf ms = kvsOf ms' → ms = ms'
  | [], [], _ => rfl
  | [], _ :: _, h => by cases h
  | _ :: _, [], h => by cases h
  | (k, v) :: ms, (k', v') :: ms', h => by
    injection h with h1 h2
    injection h1 with h3 h4
    injection h3 with h3
    have h3 : k = k' := h3
    have h4 : v = v' := h4
    rw [h3, h4, inK_inj h2]
mutual
theorem Pd.det {H : Hp} : ∀ {v : V} {d d' : PyData}, Pd H v d → Pd H v d' → d = d'
  | _, _, _, .non, h => by cases h; rfl
  | _, _, _, .int i, h => by cases h; rfl
  | _, _, _, .str x, h => by cases h; rfl
  | _, _, _, .bl b, h => by cases h; rfl
  | _, _, _, .lst n r a, h => by
    cases h with
    | lst n' r' a' =>
      have z := rd_two r r' (fun _ _ z => nomatch z) (fun _ _ z => nomatch z)
      injection z with z
      subst z
      rw [PdAll.det a a']
    | tup r' a' => exact nomatch rd_two r r' (fun _ _ z => nomatch z) (fun _ _ z => nomatch z)
    | dct r' a' => exact nomatch rd_two r r' (fun _ _ z => nomatch z) (fun _ _ z => nomatch z)
  | _, _, _, .tup r a, h => by
    cases h with
    | lst n' r' a' => exact nomatch rd_two r r' (fun _ _ z => nomatch z) (fun _ _ z => nomatch z)
    | tup r' a' =>
      have z := rd_two r r' (fun _ _ z => nomatch z) (fun _ _ z => nomatch z)
      injection z with z
      subst z
      rw [PdAll.det a a']
    | dct r' a' => exact nomatch rd_two r r' (fun _ _ z => nomatch z) (fun _ _ z => nomatch z)
  | _, _, _, .dct r a, h => by
    cases h with
    | lst n' r' a' => exact nomatch rd_two r r' (fun _ _ z => nomatch z) (fun _ _ z => nomatch z)
    | tup r' a' => exact nomatch rd_two r r' (fun _ _ z => nomatch z) (fun _ _ z => nomatch z)
    | dct r' a' =>
      have z := rd_two r r' (fun _ _ z => nomatch z) (fun _ _ z => nomatch z)
      injection z with z
      have z := inK_inj z
      subst z
      rw [PdAll.det a a']
theorem PdAll.det {H : Hp} : ∀ {vs : List V} {ds ds' : List PyData}, PdAll H vs ds → PdAll H vs ds' → ds = ds'
  | _, _, _, .nil, h => by cases h; rfl
  | _, _, _, .cons a b, h => by
    cases h with
    | cons a' b' => rw [Pd.det a a', PdAll.det b b']
end
/-- ps: new pairs (key, value), one for each member -/
abbrev PairsAt (H : Hp) : List Addr → List (Str × V) → Prop := Paired fun p m => H p = some (.tup [.str m.1, m.2])
theorem PairsAt.ex [TabL] {H H' ps ms} (e : Ex H H') (h : PairsAt H ps ms) : PairsAt H' ps ms := Paired.mapP h fun p m z => e p _ z
theorem PairsAt.toK {K : PySem.W.Frag} {H : Hp} {ps : List Addr} {ms : List (Str × V)} (h : PairsAt H ps ms) : Paired (fun p (kv : Key × V) => SqT K H p [kV kv.1, kv.2]) ps (kvsOf ms) := by
  induction h with
  | nil => exact .nil
  | cons a _ ih => exact .cons (.inl (.inl a)) ih
/-- one more pair -/
theorem PairsAt.more [TabL] {H H' : Hp} {ps ms p m} (h : PairsAt H ps ms) (e : Ex H H') (hp : H' p = some (.tup [.str m.1, m.2])) : PairsAt H' (ps ++ [p]) (ms ++ [m]) := Paired.snoc (h.ex e) hp

/-! ### the documents of the family -/
def cC : List V := [.non, .int 0, .int 1, .int 2, .int 3, .int 5, .int (-5), .int 77, .int 78, .str "x", .str "", .str "0", .str "1", .str "2"]
def gC : Gen where
  KS := ["a", "b", "c", "keep", "drop", "a.b", "zz"]
  C := fun v => decide (v ∈ cC)
  L := 2
  sc := fun v h => by
    have h := of_decide_eq_true h
    simp only [cC, List.mem_cons, List.not_mem_nil, or_false] at h
    rcases h with rfl | rfl | rfl | rfl | rfl | rfl | rfl | rfl | rfl | rfl | rfl | rfl | rfl | rfl <;> rfl
def pB : Nat → Nat
  | 0 => 1
  | n + 1 => 1 + 3 * pB n
theorem pB_pos : ∀ n, 1 ≤ pB n
  | 0 => Nat.le_refl _
  | n + 1 => by show 1 ≤ 1 + 3 * pB n; omega
structure Dn (S : Addr → Prop) (H : Hp) (n p q : Nat) (v : V) (d : D) : Prop where
  dc : Dc S gC H n v d
  pd : PD d p
  dd : DD d q
theorem Dn.imp {S S' : Addr → Prop} {H n p q v d} (h : Dn S H n p q v d) (z : ∀ x, S x → S' x) : Dn S' H n p q v d := ⟨h.dc.imp z, h.pd, h.dd⟩
theorem Dn.mv [TabL] {S a H H' n p q v d} (x : Mv a H H') (hS : ¬ S a) (h : Dn S H n p q v d) : Dn S H' n p q v d := ⟨h.dc.mv x hS, h.pd, h.dd⟩
theorem ScrAt.sqL {K : PySem.W.Frag} {H : Hp} {a : Addr} {xs : List V} (h : ScrAt K H a xs) : SqL K H a xs := by
  obtain ⟨its, r, l, z | z⟩ := h
  · exact .inr ⟨_, its.toArray, _, z, rfl, rfl, rfl, by rw [List.size_toArray, ← r.length]; exact Nat.le_trans l (by decide), by simpa using r⟩
  · exact .inl (.inr ⟨_, z⟩)
end TP

namespace TP
open PySem PySem.Spec PyProof.Rows L2
/-! ### typed readings: types of values, slots, environments -/
/-- what lies in S stays -/
structure Kpt [TabL] (S : Addr → Prop) (H H' : Hp) : Prop where
  go : ∀ a u, S a → isTbl u = false → H a = some u → H' a = some u
  ne : ∀ a, H a ≠ none → H' a ≠ none
  tab : ∀ b q, TabL.R b q → LamX.TabS H b q → LamX.TabS H' b q
section
variable [TabL]
theorem Kpt.refl {S H} : Kpt S H H := ⟨fun _ _ _ _ z => z, fun _ z => z, fun _ _ _ z => z⟩
theorem Kpt.trans {S H H1 H2} (x : Kpt S H H1) (y : Kpt S H1 H2) : Kpt S H H2 := ⟨fun a u s z h => y.go a u s z (x.go a u s z h), fun a h => y.ne a (x.ne a h), fun b q r h => y.tab b q r (x.tab b q r h)⟩
theorem Kpt.imp {S S' : Addr → Prop} {H H'} (x : Kpt S H H') (h : ∀ a, S' a → S a) : Kpt S' H H' := ⟨fun a u s z => x.go a u (h a s) z, x.ne, x.tab⟩
theorem Kpt.of_ex {S H H'} (e : Ex H H') : Kpt S H H' := ⟨fun a u _ z h => e.go a u h z, e.ne, e.tab⟩
structure Ty (α : Type) where
  R : (Addr → Prop) → Hp → V → α → Prop
  mono : ∀ {S S' : Addr → Prop} {H H' : Hp} {v : V} {x : α}, (∀ a, S a → S' a) → Kpt S H H' → R S H v x → R S' H' v x
  alloc : ∀ {S : Addr → Prop} {H : Hp} {v : V} {x : α}, R S H v x → R (fun b => S b ∧ H b ≠ none) H v x
theorem Ty.imp {α : Type} (T : Ty α) {S S' : Addr → Prop} {H : Hp} {v : V} {x : α} (h : T.R S H v x) (z : ∀ a, S a → S' a) : T.R S' H v x := T.mono z .refl h
theorem Ty.stp {α : Type} (T : Ty α) {S : Addr → Prop} {H H' : Hp} {v : V} {x : α} (h : T.R S H v x) (z : Kpt S H H') : T.R S H' v x := T.mono (fun _ z => z) z h
/-- objects that are changed in place: the one at a, and what belongs to it -/
structure Ow where
  fp : Addr → Prop
  R : (Addr → Prop) → Hp → Addr → Prop
  mono : ∀ {S S' : Addr → Prop} {H H' : Hp} {a : Addr}, (∀ b, S b → S' b) → Kpt S H H' → (∀ b, b = a ∨ fp b → H' b = H b) → R S H a → R S' H' a
  alloc : ∀ {S : Addr → Prop} {H : Hp} {a : Addr}, R S H a → R (fun b => S b ∧ H b ≠ none) H a
  has : ∀ {S : Addr → Prop} {H : Hp} {a : Addr}, R S H a → ∀ b, b = a ∨ fp b → ∃ u, H b = some u ∧ isPl u = true
  pl : Bool
  plh : pl = true → ∀ {S S' : Addr → Prop} {H : Hp} {a : Addr}, R S H a → R S' H a
/-- the one at s -/
def Ow.pin (o : Ow) (s : Addr) : Ow := ⟨o.fp, fun S H a => a = s ∧ o.R S H a, fun h st e r => ⟨r.1, o.mono h st e r.2⟩, fun r => ⟨r.1, o.alloc r.2⟩, fun r => o.has r.2, o.pl, fun z {_ _ _ _} r => ⟨r.1, o.plh z r.2⟩⟩
inductive WSlot : Type 1
  | un
  | any
  | val {α : Type} (T : Ty α) (x : α)
  | own (o : Ow) (nw : Bool)
  | exc (A : Addr → Prop) {α : Type} (T : Ty α) (x : α)
def WSlotOk (A : Bool → Addr → Prop) (E S : Addr → Prop) (H : Hp) : WSlot → Option V → Prop
  | .un, w => w = none
  | .any, _ => True
  | .val T x, w => ∃ v, w = some v ∧ T.R S H v x
  | .own o n, w => ∃ a, w = some (.ref a) ∧ o.R S H a ∧ ∀ b, b = a ∨ o.fp b → A n b
  | .exc B T x, w => ∃ v, w = some v ∧ T.R B H v x ∧ ∀ b, B b → E b
/-- what is outside of M stays -/
structure Fr (M : Addr → Prop) (H H' : Hp) : Prop where
  go : ∀ b o, ¬ M b → H b = some o → isTbl o = false → H' b = some o
  ne : ∀ b, H b ≠ none → H' b ≠ none
  tab : ∀ b q, TabL.R b q → LamX.TabS H b q → LamX.TabS H' b q
theorem Fr.refl {M H} : Fr M H H := ⟨fun _ _ _ h _ => h, fun _ h => h, fun _ _ _ h => h⟩
theorem Fr.of_ex {M H H'} (e : Ex H H') : Fr M H H' := ⟨fun b o _ h z => e.go b o h z, e.ne, e.tab⟩
theorem Fr.ex {H H'} (e : Fr (fun _ => False) H H') : Ex H H' := ⟨fun b o h z => e.go b o id h z, e.ne, e.tab⟩
/-- M1: old or new since H -/
theorem Fr.trans' {M M1 : Addr → Prop} {H H1 H2} (x : Fr M H H1) (y : Fr M1 H1 H2) (h : ∀ b, M1 b → M b ∨ H b = none) : Fr M H H2 :=
  ⟨fun b o n e z => y.go b o (fun m => (h b m).elim n fun q => by rw [q] at e; cases e) (x.go b o n e z) z, fun b e => y.ne b (x.ne b e), fun b q r t => y.tab b q r (x.tab b q r t)⟩
theorem Fr.trans {M : Addr → Prop} {H H1 H2} (x : Fr M H H1) (y : Fr M H1 H2) : Fr M H H2 := x.trans' y fun _ z => .inl z
theorem Fr.exr {M : Addr → Prop} {H H1 H2} (x : Fr M H H1) (y : Ex H1 H2) : Fr M H H2 := x.trans (.of_ex y)
theorem Fr.of_mv {a H H'} (m : Mv a H H') : Fr (fun x => x = a) H H' := ⟨fun b o n h z => m.go b o n h z, m.ne, m.tab⟩
theorem Fr.mv {a H H'} (m : Fr (fun x => x = a) H H') (s : StAt H' a) : Mv a H H' := ⟨s, fun b o n h z => m.go b o n h z, m.ne, m.tab⟩
theorem Fr.fresh {M H H'} (x : Fr M H H') {p : Addr} (h : H' p = none) : H p = none := by
  cases z : H p with
  | none => rfl
  | some o => exact absurd h (x.ne p (by rw [z]; exact fun y => nomatch y))
theorem Fr.put {a : Addr} {H : Hp} {u o : HO} (hu : H a = some u) (pl : isPl u = true) : Fr (fun x => x = a) H (upd H a o) :=
  ⟨fun b w n h z => by rw [upd_ne n]; exact h, fun b h => by
    by_cases c : b = a
    · rw [c, upd_same]; exact fun z => nomatch z
    · rw [upd_ne c]; exact h, fun b q r t => tab_upd t fun w hw => by rw [hu] at hw; cases hw; exact pl⟩
/-- all tables that are spoken of stand -/
def TabA (H : Hp) : Prop := ∀ b q, TabL.R b q → LamX.TabS H b q
structure Tmp : Type 1 where
  {α : Type}
  T : Ty α
  x : α
  v : V
structure WCtx : Type 1 where
  H0 : Hp
  S : Addr → Prop
  M : Addr → Prop
  N : Addr → Prop
  E : Addr → Prop
  τ : List Tmp
  ez : ∀ b, E b → H0 b = none
  tb : TabA H0
def WCtx.A (c : WCtx) (n : Bool) (a : Addr) : Prop := if n = true then c.H0 a = none else c.M a
theorem WCtx.A.or {c : WCtx} {n : Bool} {a : Addr} (h : c.A n a) : c.M a ∨ c.H0 a = none := by
  unfold WCtx.A at h
  split at h
  · exact .inr h
  · exact .inl h
def OwnA (Γ : List WSlot) (σ : L2.St) (a : Addr) : Prop := ∃ (i : Nat) (o : Ow) (n : Bool) (b : Addr), Γ[i]? = some (WSlot.own o n) ∧ σ[i]? = some (some (V.ref b)) ∧ (a = b ∨ o.fp a)
def Sx (c : WCtx) (Γ : List WSlot) (σ : L2.St) : Addr → Prop := fun b => (c.S b ∨ c.H0 b = none) ∧ ¬ OwnA Γ σ b ∧ ¬ c.N b ∧ ¬ c.E b
structure WEnv (c : WCtx) (Γ : List WSlot) (σ : L2.St) (H : Hp) : Prop where
  len : σ.length = Γ.length
  fr : Fr c.M c.H0 H
  nn : ∀ b, c.N b → H b ≠ none
  on : ∀ b, OwnA Γ σ b → ¬ c.N b
  en : ∀ b, c.E b → H b ≠ none
  oe : ∀ b, OwnA Γ σ b → ¬ c.E b
  tm : ∀ t ∈ c.τ, t.T.R (Sx c Γ σ) H t.v t.x
  at' : ∀ (i : Nat) s w, Γ[i]? = some s → σ[i]? = some w → WSlotOk c.A c.E (Sx c Γ σ) H s w
  sep : ∀ (i j : Nat) o o' n n' a b x, i ≠ j → Γ[i]? = some (WSlot.own o n) → Γ[j]? = some (WSlot.own o' n') → σ[i]? = some (some (V.ref a)) → σ[j]? = some (some (V.ref b)) → (x = a ∨ o.fp x) → (x = b ∨ o'.fp x) → False
theorem WSlotOk.mono {A : Bool → Addr → Prop} {E E' S S' : Addr → Prop} {H H' : Hp} {s : WSlot} {w : Option V} (h : ∀ a, S a → S' a) (st : Kpt S H H') (hE : ∀ a, E a → E' a) (se : Kpt E H H') (ow : ∀ o n a, s = .own o n → w = some (.ref a) → ∀ b, b = a ∨ o.fp b → H' b = H b) (r : WSlotOk A E S H s w) : WSlotOk A E' S' H' s w := by
  cases s with
  | un => exact r
  | any => trivial
  | val T x => exact let ⟨v, e, q⟩ := r; ⟨v, e, T.mono h st q⟩
  | own o n => exact let ⟨a, e, q, z⟩ := r; ⟨a, e, o.mono h st (ow o n a rfl e) q, z⟩
  | exc B T x => exact let ⟨v, e, q, z⟩ := r; ⟨v, e, T.stp q (se.imp z), fun b hb => hE b (z b hb)⟩
theorem WSlotOk.alloc {A : Bool → Addr → Prop} {E S : Addr → Prop} {H : Hp} {s : WSlot} {w : Option V} (r : WSlotOk A E S H s w) : WSlotOk A E (fun b => S b ∧ H b ≠ none) H s w := by
  cases s with
  | un => exact r
  | any => trivial
  | val T x => exact let ⟨v, e, q⟩ := r; ⟨v, e, T.alloc q⟩
  | own o n => exact let ⟨a, e, q, z⟩ := r; ⟨a, e, o.alloc q, z⟩
  | exc B T x => exact r
variable {c : WCtx} {Γ Γ' : List WSlot} {σ σ' : L2.St} {H H' : Hp}
theorem WEnv.tabA (e : WEnv c Γ σ H) : TabA H := fun b q r => e.fr.tab b q r (c.tb b q r)
theorem WEnv.lt (e : WEnv c Γ σ H) {i : Nat} {s : WSlot} (h : Γ[i]? = some s) : ∃ w, σ[i]? = some w := by
  have hi : i < σ.length := by rw [e.len]; exact (List.getElem?_eq_some_iff.mp h).1
  exact ⟨σ[i], List.getElem?_eq_getElem hi⟩
theorem WEnv.get {α : Type} {T : Ty α} {x : α} {i : Nat} (e : WEnv c Γ σ H) (h : Γ[i]? = some (.val T x)) : ∃ v, σ[i]? = some (some v) ∧ T.R (Sx c Γ σ) H v x := by
  obtain ⟨w, hw⟩ := e.lt h
  obtain ⟨v, rfl, r⟩ := e.at' i _ w h hw
  exact ⟨v, hw, r⟩
theorem WEnv.own {o : Ow} {n : Bool} {i : Nat} (e : WEnv c Γ σ H) (h : Γ[i]? = some (.own o n)) : ∃ a, σ[i]? = some (some (.ref a)) ∧ o.R (Sx c Γ σ) H a ∧ ∀ b, b = a ∨ o.fp b → c.A n b := by
  obtain ⟨w, hw⟩ := e.lt h
  obtain ⟨a, rfl, r, z⟩ := e.at' i _ w h hw
  exact ⟨a, hw, r, z⟩
theorem pl_tbl {u : HO} (pl : isPl u = true) : isTbl u = false := by cases u <;> first | rfl | cases pl
theorem WEnv.ownA (e : WEnv c Γ σ H) {a : Addr} (h : OwnA Γ σ a) : (∃ u, H a = some u ∧ isPl u = true) ∧ (c.M a ∨ c.H0 a = none) := by
  obtain ⟨i, o, n, b', h1, h2, hb⟩ := h
  obtain ⟨b, h3, r, z⟩ := e.own h1
  rw [h2] at h3
  cases h3
  exact ⟨o.has r a hb, (z a hb).or⟩
theorem WEnv.nw (e : WEnv c Γ σ H) {p : Addr} (h : H p = none) : Sx c Γ σ p := ⟨.inr (e.fr.fresh h), ⟨fun z => (by
  obtain ⟨⟨u, hu, _⟩, _⟩ := e.ownA z
  rw [h] at hu; cases hu), fun z => e.nn p z h, fun z => e.en p z h⟩⟩
theorem WEnv.go (e : WEnv c Γ σ H) (st : Kpt (Sx c Γ σ) H H') (se : Kpt c.E H H') (ow : ∀ a, OwnA Γ σ a → H' a = H a) (fr : Fr c.M c.H0 H') : WEnv c Γ σ H' :=
  ⟨e.len, fr, fun b h => st.ne b (e.nn b h), e.on, fun b h => st.ne b (e.en b h), e.oe, fun t ht => t.T.stp (e.tm t ht) st, fun i s w h1 h2 => (e.at' i s w h1 h2).mono (fun _ z => z) st (fun _ z => z) se fun o n a hs hw b hb => ow b ⟨i, o, n, a, by rw [h1, hs], by rw [h2, hw], hb⟩, e.sep⟩
theorem WEnv.ex (e : WEnv c Γ σ H) (x : Ex H H') : WEnv c Γ σ H' := e.go (.of_ex x) (.of_ex x) (fun a h => by
  obtain ⟨⟨u, hu, pl⟩, _⟩ := e.ownA h
  rw [hu]
  exact x.go a u hu (pl_tbl pl)) (e.fr.exr x)
theorem getElem?_set_some {α : Type _} {l : List α} {i : Nat} {a b : α} (h : (l.set i a)[i]? = some b) : b = a := by
  rw [List.getElem?_set_self'] at h
  cases hg : l[i]? with
  | none => rw [hg] at h; cases h
  | some q => rw [hg] at h; cases h; rfl
theorem set_self' {α : Type _} {l : List α} {i : Nat} {a : α} (h : l[i]? = some a) : l.set i a = l := by
  apply List.ext_getElem?
  intro j
  by_cases c : i = j
  · subst c
    rw [List.getElem?_set_self', h]
    rfl
  · rw [List.getElem?_set_ne c]
theorem ownA_set {i : Nat} {s : WSlot} {w : Option V} {a : Addr} (hs : ∀ o n, s ≠ .own o n) (h : OwnA (Γ.set i s) (σ.set i w) a) : OwnA Γ σ a := by
  obtain ⟨j, o, n, b, h1, h2, hb⟩ := h
  by_cases cj : i = j
  · subst cj
    exact absurd (getElem?_set_some h1).symm (hs o n)
  · rw [List.getElem?_set_ne cj] at h1 h2
    exact ⟨j, o, n, b, h1, h2, hb⟩
/-- a slot gets what is not own -/
theorem WEnv.sets (e : WEnv c Γ σ H) {i : Nat} {s : WSlot} {w : Option V} (hs : ∀ o n, s ≠ .own o n) (r : WSlotOk c.A c.E (Sx c Γ σ) H s w) : WEnv c (Γ.set i s) (σ.set i w) H := by
  have sub : ∀ b, Sx c Γ σ b → Sx c (Γ.set i s) (σ.set i w) b := fun b hb => ⟨hb.1, fun z => hb.2.1 (ownA_set hs z), hb.2.2⟩
  refine ⟨by rw [List.length_set, List.length_set]; exact e.len, e.fr, e.nn, fun b h => e.on b (ownA_set hs h), e.en, fun b h => e.oe b (ownA_set hs h), fun t ht => t.T.imp (e.tm t ht) sub, fun j s' w' h1 h2 => ?_, fun j k o o' n n' a b x jk h1 h2 h3 h4 => ?_⟩
  · by_cases cj : i = j
    · subst cj
      cases getElem?_set_some h1
      cases getElem?_set_some h2
      exact r.mono sub .refl (fun _ z => z) .refl fun o n _ z => absurd z (hs o n)
    · rw [List.getElem?_set_ne cj] at h1 h2
      exact (e.at' j s' w' h1 h2).mono sub .refl (fun _ z => z) .refl fun _ _ _ _ _ _ _ => rfl
  · have nj : i ≠ j := fun z => by subst z; exact hs o n (getElem?_set_some h1).symm
    have nk : i ≠ k := fun z => by subst z; exact hs o' n' (getElem?_set_some h2).symm
    rw [List.getElem?_set_ne nj] at h1 h3
    rw [List.getElem?_set_ne nk] at h2 h4
    exact e.sep j k o o' n n' a b x jk h1 h2 h3 h4
theorem WEnv.setv {α : Type} {T : Ty α} {x : α} {v : V} (e : WEnv c Γ σ H) (i : Nat) (r : T.R (Sx c Γ σ) H v x) : WEnv c (Γ.set i (.val T x)) (σ.set i (some v)) H := e.sets (fun _ _ z => nomatch z) ⟨v, rfl, r⟩
theorem WEnv.setu (e : WEnv c Γ σ H) (i : Nat) : WEnv c (Γ.set i .un) (σ.set i none) H := e.sets (fun _ _ z => nomatch z) rfl
theorem WEnv.seta (e : WEnv c Γ σ H) (i : Nat) (w : Option V) : WEnv c (Γ.set i .any) (σ.set i w) H := e.sets (fun _ _ z => nomatch z) trivial
/-- a slot gets a new own object -/
theorem WEnv.new (e : WEnv c Γ σ H) {p : Addr} {i : Nat} {o : Ow} (hp : H p = none) (hf : ∀ b, o.fp b → H b = none) (x : Ex H H') (r : o.R (fun b => Sx c Γ σ b ∧ b ≠ p ∧ ¬ o.fp b) H' p) : WEnv c (Γ.set i (.own o true)) (σ.set i (some (.ref p))) H' := by
  have hall : ∀ b, b = p ∨ o.fp b → H b = none := fun b hb => hb.elim (fun z => by rw [z]; exact hp) (hf b)
  have own : ∀ b, OwnA (Γ.set i (.own o true)) (σ.set i (some (.ref p))) b → (b = p ∨ o.fp b) ∨ OwnA Γ σ b := fun b hb => by
    obtain ⟨j, o', n', a, h1, h2, h3⟩ := hb
    by_cases cj : i = j
    · subst cj
      cases getElem?_set_some h1
      cases getElem?_set_some h2
      exact .inl h3
    · rw [List.getElem?_set_ne cj] at h1 h2
      exact .inr ⟨j, o', n', a, h1, h2, h3⟩
  have sub : ∀ b, Sx c Γ σ b ∧ b ≠ p ∧ ¬ o.fp b → Sx c (Γ.set i (.own o true)) (σ.set i (some (.ref p))) b := fun b hb => ⟨hb.1.1, fun z => (own b z).elim (fun y => y.elim hb.2.1 hb.2.2) hb.1.2.1, hb.1.2.2⟩
  have sub2 : ∀ b, Sx c Γ σ b ∧ H b ≠ none → Sx c (Γ.set i (.own o true)) (σ.set i (some (.ref p))) b := fun b hb => sub b ⟨hb.1, fun z => hb.2 (hall b (.inl z)), fun z => hb.2 (hall b (.inr z))⟩
  have np : ∀ (j : Nat) o' n' a x, Γ[j]? = some (WSlot.own o' n') → σ[j]? = some (some (V.ref a)) → (x = a ∨ o'.fp x) → (x = p ∨ o.fp x) → False := fun j o' n' a x h1 h2 h3 h4 => by
    obtain ⟨⟨u, hu, _⟩, _⟩ := e.ownA (a := x) ⟨j, o', n', a, h1, h2, h3⟩
    rw [hall x h4] at hu; cases hu
  refine ⟨by rw [List.length_set, List.length_set]; exact e.len, e.fr.exr x, fun b h => x.ne b (e.nn b h), fun b h z => (own b h).elim (fun q => e.nn b z (hall b q)) fun q => e.on b q z, fun b h => x.ne b (e.en b h), fun b h z => (own b h).elim (fun q => e.en b z (hall b q)) fun q => e.oe b q z, fun t ht => t.T.mono sub2 (.of_ex x) (t.T.alloc (e.tm t ht)), fun j s' w' h1 h2 => ?_, fun j k o1 o2 n1 n2 a b x jk h1 h2 h3 h4 h5 h6 => ?_⟩
  · by_cases cj : i = j
    · subst cj
      cases getElem?_set_some h1
      cases getElem?_set_some h2
      exact ⟨p, rfl, o.mono sub .refl (fun _ _ => rfl) r, fun b hb => e.fr.fresh (hall b hb)⟩
    · rw [List.getElem?_set_ne cj] at h1 h2
      refine (e.at' j s' w' h1 h2).alloc.mono sub2 (.of_ex x) (fun _ z => z) (.of_ex x) fun o' n' a hs hw b hb => ?_
      obtain ⟨⟨u, hu, pl⟩, _⟩ := e.ownA (a := b) ⟨j, o', n', a, by rw [h1, hs], by rw [h2, hw], hb⟩
      rw [hu]
      exact x.go b u hu (pl_tbl pl)
  · by_cases cj : i = j
    · subst cj
      rw [List.getElem?_set_ne jk] at h2 h4
      cases getElem?_set_some h1
      cases getElem?_set_some h3
      exact np k o2 n2 b x h2 h4 h6 h5
    · rw [List.getElem?_set_ne cj] at h1 h3
      by_cases ck : i = k
      · subst ck
        cases getElem?_set_some h2
        cases getElem?_set_some h4
        exact np j o1 n1 a x h1 h3 h5 h6
      · rw [List.getElem?_set_ne ck] at h2 h4
        exact e.sep j k o1 o2 n1 n2 a b x jk h1 h2 h3 h4 h5 h6
theorem WEnv.stp_exc (e : WEnv c Γ σ H) (f : Fr (OwnA Γ σ) H H') : Kpt c.E H H' := ⟨fun b u s z h => f.go b u (fun q => e.oe b q s) h z, f.ne, f.tab⟩
theorem WEnv.stp_own (e : WEnv c Γ σ H) (f : Fr (OwnA Γ σ) H H') : Kpt (Sx c Γ σ) H H' := ⟨fun b u s z h => f.go b u s.2.1 h z, f.ne, f.tab⟩
/-- an own object changes; what belongs to it afterwards belonged to it or is new -/
theorem WEnv.mut (e : WEnv c Γ σ H) {a : Addr} {i : Nat} {o o' : Ow} {n : Bool} (hi : Γ[i]? = some (.own o n)) (ha : σ[i]? = some (some (.ref a))) (f : Fr (fun x => x = a ∨ o.fp x) H H') (hfp : ∀ b, o'.fp b → o.fp b ∨ (n = true ∧ H b = none)) (r : o'.R (fun b => Sx c Γ σ b ∧ ¬ o'.fp b) H' a) : WEnv c (Γ.set i (.own o' n)) σ H' := by
  obtain ⟨_, h1', _, hA⟩ := e.own hi
  rw [ha] at h1'
  cases h1'
  have st : Kpt (Sx c Γ σ) H H' := ⟨fun b u s z h => f.go b u (fun q => s.2.1 ⟨i, o, n, a, hi, ha, q⟩) h z, f.ne, f.tab⟩
  have se : Kpt c.E H H' := ⟨fun b u s z h => f.go b u (fun q => e.oe b ⟨i, o, n, a, hi, ha, q⟩ s) h z, f.ne, f.tab⟩
  have own : ∀ b, OwnA (Γ.set i (.own o' n)) σ b → OwnA Γ σ b ∨ (o'.fp b ∧ n = true ∧ H b = none) := fun b hb => by
    obtain ⟨j, o1, n1, a1, h1, h2, h3⟩ := hb
    by_cases cj : i = j
    · subst cj
      cases getElem?_set_some h1
      rw [ha] at h2
      cases h2
      rcases h3 with h3 | h3
      · exact .inl ⟨i, o, n, a, hi, ha, .inl h3⟩
      · rcases hfp b h3 with h4 | h4
        · exact .inl ⟨i, o, n, a, hi, ha, .inr h4⟩
        · exact .inr ⟨h3, h4⟩
    · rw [List.getElem?_set_ne cj] at h1
      exact .inl ⟨j, o1, n1, a1, h1, h2, h3⟩
  have sub : ∀ b, Sx c Γ σ b ∧ ¬ o'.fp b → Sx c (Γ.set i (.own o' n)) σ b := fun b hb => ⟨hb.1.1, fun z => (own b z).elim hb.1.2.1 fun y => hb.2 y.1, hb.1.2.2⟩
  have sub2 : ∀ b, Sx c Γ σ b ∧ H b ≠ none → Sx c (Γ.set i (.own o' n)) σ b := fun b hb => ⟨hb.1.1, fun z => (own b z).elim hb.1.2.1 fun y => hb.2 y.2.2, hb.1.2.2⟩
  have np : ∀ (j : Nat) o2 n2 b x, i ≠ j → Γ[j]? = some (WSlot.own o2 n2) → σ[j]? = some (some (V.ref b)) → (x = b ∨ o2.fp x) → (x = a ∨ o.fp x ∨ H x = none) → False := fun j o2 n2 b x ij h1 h2 h3 h4 => by
    rcases h4 with h4 | h4 | h4
    · exact e.sep i j o o2 n n2 a b x ij hi h1 ha h2 (.inl h4) h3
    · exact e.sep i j o o2 n n2 a b x ij hi h1 ha h2 (.inr h4) h3
    · obtain ⟨⟨u, hu, _⟩, _⟩ := e.ownA (a := x) ⟨j, o2, n2, b, h1, h2, h3⟩
      rw [h4] at hu; cases hu
  have cut : ∀ x, (x = a ∨ o'.fp x) → (x = a ∨ o.fp x ∨ H x = none) := fun x h => h.imp id fun h => (hfp x h).imp id fun z => z.2
  refine ⟨by rw [List.length_set]; exact e.len, e.fr.trans' f (fun b hb => (hA b hb).or), fun b h => f.ne b (e.nn b h), fun b h z => (own b h).elim (fun y => e.on b y z) fun y => e.nn b z y.2.2, fun b h => f.ne b (e.en b h), fun b h z => (own b h).elim (fun y => e.oe b y z) fun y => e.en b z y.2.2, fun t ht => t.T.mono sub2 (st.imp fun _ h => h.1) (t.T.alloc (e.tm t ht)), fun j s' w' h1 h2 => ?_, fun j k o1 o2 n1 n2 a1 b1 x jk h1 h2 h3 h4 h5 h6 => ?_⟩
  · by_cases cj : i = j
    · subst cj
      cases getElem?_set_some h1
      rw [ha] at h2
      cases h2
      refine ⟨a, rfl, o'.mono sub .refl (fun _ _ => rfl) r, fun b hb => ?_⟩
      rcases hb with hb | hb
      · exact hA b (.inl hb)
      · rcases hfp b hb with h4 | ⟨hn, h4⟩
        · exact hA b (.inr h4)
        · show c.A n b
          unfold WCtx.A
          rw [if_pos hn]
          exact e.fr.fresh h4
    · rw [List.getElem?_set_ne cj] at h1
      refine (e.at' j s' w' h1 h2).alloc.mono sub2 (st.imp fun _ h => h.1) (fun _ z => z) se fun o1 n1 b hs hw x hx => ?_
      obtain ⟨⟨u, hu, pl⟩, _⟩ := e.ownA (a := x) ⟨j, o1, n1, b, by rw [h1, hs], by rw [h2, hw], hx⟩
      rw [hu]
      exact f.go x u (fun z => np j o1 n1 b x cj (by rw [h1, hs]) (by rw [h2, hw]) hx (z.imp id .inl)) hu (pl_tbl pl)
  · by_cases cj : i = j
    · subst cj
      cases getElem?_set_some h1
      rw [ha] at h3
      cases h3
      rw [List.getElem?_set_ne jk] at h2
      exact np k o2 n2 b1 x jk h2 h4 h6 (cut x h5)
    · rw [List.getElem?_set_ne cj] at h1
      by_cases ck : i = k
      · subst ck
        cases getElem?_set_some h2
        rw [ha] at h4
        cases h4
        exact np j o1 n1 a1 x cj h1 h3 h5 (cut x h6)
      · rw [List.getElem?_set_ne ck] at h2
        exact e.sep j k o1 o2 n1 n2 a1 b1 x jk h1 h2 h3 h4 h5 h6
theorem WEnv.mut' (e : WEnv c Γ σ H) {a : Addr} {i : Nat} {o : Ow} {n : Bool} (hi : Γ[i]? = some (.own o n)) (ha : σ[i]? = some (some (.ref a))) (f : Fr (fun x => x = a ∨ o.fp x) H H') (r : o.R (Sx c Γ σ) H' a) : WEnv c Γ σ H' := by
  have := e.mut (o' := o) hi ha f (fun _ => .inl) (o.mono (fun b hb => ⟨hb, fun z => hb.2.1 ⟨i, o, n, a, hi, ha, .inr z⟩⟩) .refl (fun _ _ => rfl) r)
  rwa [set_self' hi] at this
/-- an own object is given away: it is a value from now on -/
theorem WEnv.freeze {α : Type} {T : Ty α} {x : α} (e : WEnv c Γ σ H) {i : Nat} {o : Ow} (hi : Γ[i]? = some (.own o true)) (f : ∀ S H a, o.R S H a → T.R (fun b => S b ∨ b = a ∨ o.fp b) H (.ref a) x) : WEnv c (Γ.set i (.val T x)) σ H := by
  obtain ⟨a, ha, r, hA⟩ := e.own hi
  have own : ∀ b, OwnA (Γ.set i (.val T x)) σ b → OwnA Γ σ b ∧ ¬ (b = a ∨ o.fp b) := fun b hb => by
    obtain ⟨j, o', n', a', h1, h2, h3⟩ := hb
    by_cases cj : i = j
    · subst cj; cases getElem?_set_some h1
    · rw [List.getElem?_set_ne cj] at h1
      exact ⟨⟨j, o', n', a', h1, h2, h3⟩, fun z => e.sep i j o o' true n' a a' b cj hi h1 ha h2 z h3⟩
  have sub : ∀ b, Sx c Γ σ b → Sx c (Γ.set i (.val T x)) σ b := fun b hb => ⟨hb.1, fun z => hb.2.1 (own b z).1, hb.2.2⟩
  refine ⟨by rw [List.length_set]; exact e.len, e.fr, e.nn, fun b h => e.on b (own b h).1, e.en, fun b h => e.oe b (own b h).1, fun t ht => t.T.imp (e.tm t ht) sub, fun j s' w' h1 h2 => ?_, fun j k o1 o2 n1 n2 a1 b1 x jk h1 h2 h3 h4 h5 h6 => ?_⟩
  · by_cases cj : i = j
    · subst cj
      cases getElem?_set_some h1
      rw [ha] at h2
      cases h2
      refine ⟨.ref a, rfl, T.imp (f _ _ _ r) fun b hb => hb.elim (sub b) fun z => ?_⟩
      exact ⟨.inr (hA b z), fun q => (own b q).2 z, e.on b ⟨i, o, true, a, hi, ha, z⟩, e.oe b ⟨i, o, true, a, hi, ha, z⟩⟩
    · rw [List.getElem?_set_ne cj] at h1
      exact (e.at' j s' w' h1 h2).mono sub .refl (fun _ z => z) .refl fun _ _ _ _ _ _ _ => rfl
  · have nj : i ≠ j := fun z => by subst z; cases getElem?_set_some h1
    have nk : i ≠ k := fun z => by subst z; cases getElem?_set_some h2
    rw [List.getElem?_set_ne nj] at h1
    rw [List.getElem?_set_ne nk] at h2
    exact e.sep j k o1 o2 n1 n2 a1 b1 x jk h1 h2 h3 h4 h5 h6
end
end TP

namespace TP
open PySem PySem.Spec PyProof.Rows L2
/-! ### typed readings: judgements and rules -/
theorem _root_.PySem.Paired.imp {α β : Type} {F G : α → β → Prop} {xs : List α} {ys : List β} (h : Paired F xs ys) (k : ∀ a b, F a b → G a b) : Paired G xs ys := by
  induction h with
  | nil => exact .nil
  | cons a _ ih => exact .cons (k _ _ a) ih
theorem _root_.PySem.Paired.len {α β : Type} {F : α → β → Prop} {xs : List α} {ys : List β} (h : Paired F xs ys) : xs.length = ys.length := by
  induction h with
  | nil => rfl
  | cons _ _ ih => exact congrArg Nat.succ ih
theorem _root_.PySem.Paired.app {α β : Type} {F : α → β → Prop} {xs xs' : List α} {ys ys' : List β} (h : Paired F xs ys) (h' : Paired F xs' ys') : Paired F (xs ++ xs') (ys ++ ys') := by
  induction h with
  | nil => exact h'
  | cons a _ ih => exact .cons a ih
theorem _root_.PySem.Paired.get {α β : Type} {F : α → β → Prop} {xs : List α} {ys : List β} (h : Paired F xs ys) : ∀ {i : Nat} {a : α}, xs[i]? = some a → ∃ b, ys[i]? = some b ∧ F a b := by
  induction h with
  | nil => intro i a z; cases z
  | cons f _ ih =>
    intro i a z
    cases i with
    | zero => cases z; exact ⟨_, rfl, f⟩
    | succ i => exact ih z
theorem _root_.PySem.Paired.get' {α β : Type} {F : α → β → Prop} {xs : List α} {ys : List β} (h : Paired F xs ys) : ∀ {i : Nat} {b : β}, ys[i]? = some b → ∃ a, xs[i]? = some a ∧ F a b := by
  induction h with
  | nil => intro i a z; cases z
  | cons f _ ih =>
    intro i a z
    cases i with
    | zero => cases z; exact ⟨_, rfl, f⟩
    | succ i => exact ih z
theorem _root_.PySem.Paired.drop {α β : Type} {F : α → β → Prop} {xs : List α} {ys : List β} (h : Paired F xs ys) : ∀ (n : Nat), Paired F (xs.drop n) (ys.drop n) := by
  induction h with
  | nil => intro n; rw [List.drop_nil, List.drop_nil]; exact .nil
  | cons f t ih =>
    intro n
    cases n with
    | zero => exact .cons f t
    | succ n => exact ih n
theorem _root_.PySem.Paired.take {α β : Type} {F : α → β → Prop} {xs : List α} {ys : List β} (h : Paired F xs ys) : ∀ (n : Nat), Paired F (xs.take n) (ys.take n) := by
  induction h with
  | nil => intro n; rw [List.take_nil, List.take_nil]; exact .nil
  | cons f t ih =>
    intro n
    cases n with
    | zero => exact .nil
    | succ n => exact .cons f (ih n)
/-! types -/
section
variable [TabL]
def TInt : Ty Int := ⟨fun _ _ v x => v = .int x, fun _ _ h => h, fun h => h⟩
def TStr : Ty Str := ⟨fun _ _ v x => v = .str x, fun _ _ h => h, fun h => h⟩
def TBool : Ty Bool := ⟨fun _ _ v x => v = .bl x, fun _ _ h => h, fun h => h⟩
def TNone : Ty Unit := ⟨fun _ _ v _ => v = .non, fun _ _ h => h, fun h => h⟩
/-- a scalar, as it is -/
def TSc : Ty V := ⟨fun _ _ v x => v = x ∧ isSc x = true, fun _ _ h => h, fun h => h⟩
def TLst {α : Type} (T : Ty α) : Ty (List α) := ⟨fun S H v xs => ∃ a vs, v = .ref a ∧ S a ∧ H a = some (.lst vs) ∧ vs.length ≤ sizeLine ∧ Paired (T.R S H) vs xs,
  fun h st ⟨a, vs, e, s, r, l, p⟩ => ⟨a, vs, e, h a s, st.go a _ s rfl r, l, p.imp fun _ _ z => T.mono h st z⟩,
  fun ⟨a, vs, e, s, r, l, p⟩ => ⟨a, vs, e, ⟨s, by rw [r]; exact fun z => nomatch z⟩, r, l, p.imp fun _ _ z => T.alloc z⟩⟩
/-- a tuple of things of one type -/
def TTup {α : Type} (T : Ty α) : Ty (List α) := ⟨fun S H v xs => ∃ a vs, v = .ref a ∧ S a ∧ H a = some (.tup vs) ∧ vs.length ≤ sizeLine ∧ Paired (T.R S H) vs xs,
  fun h st ⟨a, vs, e, s, r, l, p⟩ => ⟨a, vs, e, h a s, st.go a _ s rfl r, l, p.imp fun _ _ z => T.mono h st z⟩,
  fun ⟨a, vs, e, s, r, l, p⟩ => ⟨a, vs, e, ⟨s, by rw [r]; exact fun z => nomatch z⟩, r, l, p.imp fun _ _ z => T.alloc z⟩⟩
def TPair {α β : Type} (T : Ty α) (U : Ty β) : Ty (α × β) := ⟨fun S H v x => ∃ a v1 v2, v = .ref a ∧ S a ∧ H a = some (.tup [v1, v2]) ∧ T.R S H v1 x.1 ∧ U.R S H v2 x.2,
  fun h st ⟨a, v1, v2, e, s, r, p, q⟩ => ⟨a, v1, v2, e, h a s, st.go a _ s rfl r, T.mono h st p, U.mono h st q⟩,
  fun ⟨a, v1, v2, e, s, r, p, q⟩ => ⟨a, v1, v2, e, ⟨s, by rw [r]; exact fun z => nomatch z⟩, r, T.alloc p, U.alloc q⟩⟩
def TTri {α β γ : Type} (T : Ty α) (U : Ty β) (W : Ty γ) : Ty (α × β × γ) := ⟨fun S H v x => ∃ a v1 v2 v3, v = .ref a ∧ S a ∧ H a = some (.tup [v1, v2, v3]) ∧ T.R S H v1 x.1 ∧ U.R S H v2 x.2.1 ∧ W.R S H v3 x.2.2,
  fun h st ⟨a, v1, v2, v3, e, s, r, p, q, u⟩ => ⟨a, v1, v2, v3, e, h a s, st.go a _ s rfl r, T.mono h st p, U.mono h st q, W.mono h st u⟩,
  fun ⟨a, v1, v2, v3, e, s, r, p, q, u⟩ => ⟨a, v1, v2, v3, e, ⟨s, by rw [r]; exact fun z => nomatch z⟩, r, T.alloc p, U.alloc q, W.alloc u⟩⟩
/-- a document -/
def TDoc (G : Gen) (n : Nat) : Ty D := ⟨fun S H v d => Dc S G H n v d, fun h st z => z.mono h (fun a u s t r => st.go a u s t r) (Nat.le_refl _), fun z => z.alloc⟩
/-- a type with a fact -/
def TWh {α : Type} (T : Ty α) (p : α → Prop) : Ty α := ⟨fun S H v x => T.R S H v x ∧ p x, fun h st z => ⟨T.mono h st z.1, z.2⟩, fun z => ⟨T.alloc z.1, z.2⟩⟩
/-- None or such a thing -/
def TOpt {α : Type} (T : Ty α) : Ty (Option α) := ⟨fun S H v x => match x with | none => v = .non | some y => T.R S H v y ∧ v ≠ .non,
  fun {_ _ _ _ _ x} h st z => by
    cases x with
    | none => exact z
    | some y => exact ⟨T.mono h st z.1, z.2⟩,
  fun {_ _ _ x} z => by
    cases x with
    | none => exact z
    | some y => exact ⟨T.alloc z.1, z.2⟩⟩
/-! own things -/
def Ow.one (R : (Addr → Prop) → Hp → Addr → Prop) (mono : ∀ {S S' : Addr → Prop} {H H' : Hp} {a : Addr}, (∀ b, S b → S' b) → Kpt S H H' → H' a = H a → R S H a → R S' H' a)
    (alloc : ∀ {S : Addr → Prop} {H : Hp} {a : Addr}, R S H a → R (fun b => S b ∧ H b ≠ none) H a) (has : ∀ {S : Addr → Prop} {H : Hp} {a : Addr}, R S H a → ∃ u, H a = some u ∧ isPl u = true) (pl : Bool := false) (plh : pl = true → ∀ {S S' : Addr → Prop} {H : Hp} {a : Addr}, R S H a → R S' H a := by exact fun z => nomatch z) : Ow :=
  ⟨fun _ => False, R, fun h st e => mono h st (e _ (.inl rfl)), alloc, fun r b hb => hb.elim (fun z => by rw [z]; exact has r) False.elim, pl, plh⟩
def OwLst {α : Type} (T : Ty α) (xs : List α) : Ow := .one (fun S H a => ∃ vs, H a = some (.lst vs) ∧ vs.length ≤ sizeLine ∧ Paired (T.R S H) vs xs)
  (fun h st e ⟨vs, r, l, p⟩ => ⟨vs, by rw [e]; exact r, l, p.imp fun _ _ z => T.mono h st z⟩)
  (fun ⟨vs, r, l, p⟩ => ⟨vs, r, l, p.imp fun _ _ z => T.alloc z⟩) (fun ⟨vs, r, _⟩ => ⟨_, r, rfl⟩)
/-- a dict with texts as keys -/
structure KAt {α : Type} (T : Ty α) (S : Addr → Prop) (H : Hp) (ms : List (Str × V)) (kvs : List (Str × α)) : Prop where
  nd : (ms.map (·.1)).Nodup
  at' : Paired (fun m k => m.1 = k.1 ∧ T.R S H m.2 k.2) ms kvs
def OwDic {α : Type} (T : Ty α) (kvs : List (Str × α)) : Ow := .one (fun S H a => ∃ ms, H a = some (.dK (kvsOf ms)) ∧ ms.length ≤ 5000 ∧ KAt T S H ms kvs)
  (fun h st e ⟨ms, r, l, p⟩ => ⟨ms, by rw [e]; exact r, l, p.nd, p.at'.imp fun _ _ z => ⟨z.1, T.mono h st z.2⟩⟩)
  (fun ⟨ms, r, l, p⟩ => ⟨ms, r, l, p.nd, p.at'.imp fun _ _ z => ⟨z.1, T.alloc z.2⟩⟩) (fun ⟨ms, r, _⟩ => ⟨_, r, rfl⟩)
/-- an object that becomes a document -/
def OwOb (G : Gen) (n : Nat) (f : Str → D) : Ow := .one (fun S H a => ∃ ms, H a = some (.dK (kvsOf ms)) ∧ Mem S G H n ms f)
  (fun h st e ⟨ms, r, m⟩ => ⟨ms, by rw [e]; exact r, m.mono h (fun a u s t z => st.go a u s t z) (Nat.le_refl _)⟩)
  (fun ⟨ms, r, m⟩ => ⟨ms, r, m.alloc⟩) (fun ⟨ms, r, _⟩ => ⟨_, r, rfl⟩)
def OwRng : Ow := .one (fun _ H a => StAt H a) (fun _ _ e ⟨x, y, z, h, r⟩ => ⟨x, y, z, by rw [e]; exact h, r⟩) (fun z => z) (fun ⟨x, y, z, h, r⟩ => ⟨_, h, rfl⟩) true (fun _ {_ _ _ _} h => h)
theorem Fr.imp {M M' : Addr → Prop} {H H' : Hp} (f : Fr M H H') (h : ∀ a, M a → M' a) : Fr M' H H' := ⟨fun b o n => f.go b o fun z => n (h b z), f.ne, f.tab⟩
/-- own things whose parts lie nowhere else -/
class OwPl (o : Ow) : Prop where
  pl : o.pl = true
theorem OwPl.h {o : Ow} [x : OwPl o] {S S' : Addr → Prop} {H : Hp} {a : Addr} (r : o.R S H a) : o.R S' H a := o.plh x.pl r
instance : OwPl OwRng := ⟨rfl⟩
instance {o : Ow} {s : Addr} [x : OwPl o] : OwPl (o.pin s) := ⟨x.pl⟩
/-- an expression's frame: what is not own stays; own things stay, or have no parts elsewhere -/
structure FrO (Γ : List WSlot) (σ : L2.St) (H H' : Hp) : Prop extends Fr (OwnA Γ σ) H H' where
  kept : ∀ (i : Nat) o n a, Γ[i]? = some (WSlot.own o n) → σ[i]? = some (some (V.ref a)) → o.pl = true ∨ ∀ b u, (b = a ∨ o.fp b) → isTbl u = false → H b = some u → H' b = some u
theorem FrO.refl {Γ σ H} : FrO Γ σ H H := ⟨.refl, fun _ _ _ _ _ _ => .inr fun _ _ _ _ h => h⟩
theorem FrO.of_ex {Γ σ H H'} (x : Ex H H') : FrO Γ σ H H' := ⟨.of_ex x, fun _ _ _ _ _ _ => .inr fun b u _ z h => x.go b u h z⟩
theorem FrO.trans {Γ σ H H1 H2} (x : FrO Γ σ H H1) (y : FrO Γ σ H1 H2) : FrO Γ σ H H2 := ⟨x.toFr.trans y.toFr, fun i o n a h1 h2 => (x.kept i o n a h1 h2).elim .inl fun p => (y.kept i o n a h1 h2).imp id fun q b u hb z h => q b u hb z (p b u hb z h)⟩
theorem FrO.exr {Γ σ H H1 H2} (x : FrO Γ σ H H1) (y : Ex H1 H2) : FrO Γ σ H H2 := x.trans (.of_ex y)
/-- where the parts of a value lie: what may be stored (true), what may be read (false) -/
def OwnK (Γ : List WSlot) (σ : L2.St) : Addr → Prop := fun b => ∃ (i : Nat) (o : Ow) (n : Bool) (a : Addr), Γ[i]? = some (WSlot.own o n) ∧ σ[i]? = some (some (V.ref a)) ∧ (b = a ∨ o.fp b) ∧ o.pl = false
theorem OwnK.a {Γ : List WSlot} {σ : L2.St} {b : Addr} (h : OwnK Γ σ b) : OwnA Γ σ b := let ⟨i, o, n, a, h1, h2, h3, _⟩ := h; ⟨i, o, n, a, h1, h2, h3⟩
def Fxm (m : Bool) (c : WCtx) (Γ : List WSlot) (σ : L2.St) : Addr → Prop := fun b => Sx c Γ σ b ∨ (m = false ∧ (c.E b ∨ OwnK Γ σ b))
structure P (m : Bool) (c : WCtx) (Γ : List WSlot) (t : TE) {α : Type} (T : Ty α) (X : α → Prop) : Prop where
  run : ∀ σ H Q, WEnv c Γ σ H → (∀ v x H', WEnv c Γ σ H' → FrO Γ σ H H' → T.R (Fxm m c Γ σ) H' v x → X x → Q v H') → t σ H Q
structure PB (c : WCtx) (Γ : List WSlot) (t : TT) (X : Bool → Prop) : Prop where
  run : ∀ σ H Q, WEnv c Γ σ H → (∀ b H', WEnv c Γ σ H' → FrO Γ σ H H' → X b → Q b H') → t σ H Q
structure PL (m : Bool) (c : WCtx) (Γ : List WSlot) (t : TA) {α : Type} (T : Ty α) (X : List α → Prop) : Prop where
  run : ∀ σ H Q, WEnv c Γ σ H → (∀ vs xs H', WEnv c Γ σ H' → FrO Γ σ H H' → Paired (T.R (Fxm m c Γ σ) H') vs xs → X xs → Q vs H') → t σ H Q
/-- a new object that the slot alone will know -/
structure PN (c : WCtx) (Γ : List WSlot) (t : TE) {α : Type} (o : α → Ow) (X : α → Prop) : Prop where
  run : ∀ σ H Q, WEnv c Γ σ H → (∀ p x H1 H', WEnv c Γ σ H1 → FrO Γ σ H H1 → H1 p = none → (∀ b, (o x).fp b → H1 b = none) → Ex H1 H' → (o x).R (fun b => Sx c Γ σ b ∧ b ≠ p ∧ ¬ (o x).fp b) H' p → X x → Q (.ref p) H') → t σ H Q
structure Ko (β : Type) where
  T : Ty β
  X : List WSlot → β → Prop
  nx : List WSlot → Prop := fun _ => False
  bk : List WSlot → Prop := fun _ => False
  ct : List WSlot → Prop := fun _ => False
structure KoOk {β : Type} (c : WCtx) (K : Ko β) (D : Ends) : Prop where
  rt : ∀ v y Γ' σ' H', WEnv c Γ' σ' H' → K.T.R (Sx c Γ' σ') H' v y → K.X Γ' y → D.rt v H'
  nx : ∀ Γ' σ' H', WEnv c Γ' σ' H' → K.nx Γ' → D.nx σ' H'
  bk : ∀ Γ' σ' H', WEnv c Γ' σ' H' → K.bk Γ' → D.bk σ' H'
  ct : ∀ Γ' σ' H', WEnv c Γ' σ' H' → K.ct Γ' → D.ct σ' H'
structure Run (c : WCtx) (Γ : List WSlot) (t : TS) {β : Type} (K : Ko β) : Prop where
  run : ∀ D σ H, WEnv c Γ σ H → KoOk c K D → t D σ H
variable {m : Bool} {c : WCtx} {Γ Γ' : List WSlot} {α β γ δ : Type} {T : Ty α} {U : Ty β} {W : Ty γ} {K : Ko δ}
theorem P.imp {t : TE} {X Y : α → Prop} (h : P m c Γ t T X) (k : ∀ x, X x → Y x) : P m c Γ t T Y := .mk fun σ H Q e q => h.run σ H Q e fun v x H' e' f r z => q v x H' e' f r (k x z)
/-- another type -/
theorem P.to {t : TE} {X : α → Prop} (f : α → β) (h : P m c Γ t T X) (k : ∀ S H v x, X x → T.R S H v x → U.R S H v (f x)) {Y : β → Prop} (z : ∀ x, X x → Y (f x)) : P m c Γ t U Y := .mk fun σ H Q e q => h.run σ H Q e fun v x H' e' fr r hx => q v (f x) H' e' fr (k _ _ _ _ hx r) (z x hx)
theorem p_var {i : Nat} {x : α} {X : α → Prop} (h : Γ[i]? = some (.val T x)) (k : X x) : P m c Γ (tVar i) T X := .mk fun σ H Q e q => by
  obtain ⟨v, hv, r⟩ := e.get h
  exact ⟨v, hv, q v x H e .refl (T.imp r fun _ => .inl) k⟩
theorem p_int {n : Int} {X : Int → Prop} (k : X n) : P m c Γ (tC (.int n)) TInt X := .mk fun σ H Q e q => q _ n H e .refl rfl k
theorem p_str {n : Str} {X : Str → Prop} (k : X n) : P m c Γ (tC (.str n)) TStr X := .mk fun σ H Q e q => q _ n H e .refl rfl k
theorem p_bl {n : Bool} {X : Bool → Prop} (k : X n) : P m c Γ (tC (.bl n)) TBool X := .mk fun σ H Q e q => q _ n H e .refl rfl k
theorem p_non {X : Unit → Prop} (k : X ()) : P m c Γ (tC .non) TNone X := .mk fun σ H Q e q => q _ () H e .refl rfl k
theorem p_docC {G : Gen} {n : Nat} {v : V} {X : D → Prop} (h : G.C v = true) (k : X (.sc v)) : P m c Γ (tC v) (TDoc G (n + 1)) X := .mk fun σ H Q e q => q _ _ H e .refl (Dc.sc h) k
/-- operators by values -/
def Op2 (r : V → V → Hp → VK → Prop) (T : Ty α) (U : Ty β) (W : Ty γ) (C : α → β → Prop) (f : α → β → γ) : Prop :=
  ∀ S H v w x y Q, T.R S H v x → U.R S H w y → C x y → (∀ u H', Ex H H' → W.R (fun b => S b ∨ H b = none) H' u (f x y) → Q u H') → r v w H Q
def Op1 (r : V → Hp → VK → Prop) (T : Ty α) (W : Ty γ) (C : α → Prop) (f : α → γ) : Prop :=
  ∀ S H v x Q, T.R S H v x → C x → (∀ u H', Ex H H' → W.R (fun b => S b ∨ H b = none) H' u (f x) → Q u H') → r v H Q
theorem WEnv.stp_mut {σ : L2.St} {H H' : Hp} (e : WEnv c Γ σ H) {a : Addr} {i : Nat} {o : Ow} {n : Bool} (hi : Γ[i]? = some (.own o n)) (ha : σ[i]? = some (some (.ref a))) (f : Fr (fun x => x = a ∨ o.fp x) H H') : Kpt (Sx c Γ σ) H H' :=
  ⟨fun b u s z h => f.go b u (fun q => s.2.1 ⟨i, o, n, a, hi, ha, q⟩) h z, f.ne, f.tab⟩
theorem Fr.inl {M M' : Addr → Prop} {H H' : Hp} (f : Fr M H H') : Fr (fun b => M b ∨ M' b) H H' := f.imp fun _ => .inl
theorem WEnv.nwF {σ : L2.St} {H : Hp} (e : WEnv c Γ σ H) : ∀ b, (Fxm m c Γ σ b ∨ H b = none) → Fxm m c Γ σ b := fun _ h => h.elim id fun z => .inl (e.nw z)
theorem WEnv.stp_fx {σ : L2.St} {H H' : Hp} (e : WEnv c Γ σ H) (f : FrO Γ σ H H') : Kpt (Fxm m c Γ σ) H H' := ⟨fun b u s z h => s.elim (fun s => (e.stp_own f.toFr).go b u s z h) fun s => s.2.elim (fun s => (e.stp_exc f.toFr).go b u s z h) fun ⟨i, o, n, a, h1, h2, h3, h4⟩ => (f.kept i o n a h1 h2).elim (fun y => by rw [h4] at y; cases y) fun q => q b u h3 z h, f.ne, f.tab⟩
theorem fx_t {σ : L2.St} {b : Addr} (h : Fxm true c Γ σ b) : Sx c Γ σ b := h.elim id fun z => nomatch z.1
theorem WEnv.nwS {σ : L2.St} {H : Hp} (e : WEnv c Γ σ H) : ∀ b, (Sx c Γ σ b ∨ H b = none) → Sx c Γ σ b := fun _ h => h.elim id e.nw
theorem p_op2 {r : V → V → Hp → VK → Prop} {C : α → β → Prop} {f : α → β → γ} {ta tb : TE} {X : γ → Prop} (o : Op2 r T U W C f) (h : P m c Γ ta T fun x => P m c Γ tb U fun y => C x y ∧ X (f x y)) : P m c Γ (tOp r ta tb) W X := .mk fun σ H Q e q =>
  h.run σ H _ e fun v x H1 e1 f1 r1 hb => hb.run σ H1 _ e1 fun w y H2 e2 f2 r2 hc => o _ H2 v w x y Q (T.stp r1 (e1.stp_fx f2)) r2 hc.1 fun u H3 x3 r3 => q u _ H3 (e2.ex x3) ((f1.trans f2).exr x3) (W.imp r3 e2.nwF) hc.2
theorem p_op1 {r : V → Hp → VK → Prop} {C : α → Prop} {f : α → γ} {ta : TE} {X : γ → Prop} (o : Op1 r T W C f) (h : P m c Γ ta T fun x => C x ∧ X (f x)) : P m c Γ (tUn r ta) W X := .mk fun σ H Q e q =>
  h.run σ H _ e fun v x H1 e1 f1 r1 hc => o _ H1 v x Q r1 hc.1 fun u H3 x3 r3 => q u _ H3 (e1.ex x3) (f1.exr x3) (W.imp r3 e1.nwF) hc.2
/-- built-ins by values -/
theorem p_cb1 {r : List V → Hp → VK → Prop} {C : α → Prop} {f : α → γ} {ta : TE} {X : γ → Prop} (o : Op1 (fun v => r [v]) T W C f) (h : P m c Γ ta T fun x => C x ∧ X (f x)) : P m c Γ (tCB r (tCons ta tNil)) W X := .mk fun σ H Q e q =>
  h.run σ H _ e fun v x H1 e1 f1 r1 hc => o _ H1 v x Q r1 hc.1 fun u H3 x3 r3 => q u _ H3 (e1.ex x3) (f1.exr x3) (W.imp r3 e1.nwF) hc.2
theorem p_cb2 {r : List V → Hp → VK → Prop} {C : α → β → Prop} {f : α → β → γ} {ta tb : TE} {X : γ → Prop} (o : Op2 (fun v w => r [v, w]) T U W C f) (h : P m c Γ ta T fun x => P m c Γ tb U fun y => C x y ∧ X (f x y)) : P m c Γ (tCB r (tCons ta (tCons tb tNil))) W X := .mk fun σ H Q e q =>
  h.run σ H _ e fun v x H1 e1 f1 r1 hb => hb.run σ H1 _ e1 fun w y H2 e2 f2 r2 hc => o _ H2 v w x y Q (T.stp r1 (e1.stp_fx f2)) r2 hc.1 fun u H3 x3 r3 => q u _ H3 (e2.ex x3) ((f1.trans f2).exr x3) (W.imp r3 e2.nwF) hc.2
/-! tests -/
theorem pb_val {t : TE} {X : Bool → Prop} (h : P false c Γ t TBool X) : PB c Γ (tB t) X := .mk fun σ H Q e q => h.run σ H _ e fun v x H' e' f r hx => ⟨x, r, q x H' e' f hx⟩
theorem pb_test {t : TE} {X : Bool → Prop} (h : P false c Γ t TBool X) : PB c Γ (tTest t) X := .mk fun σ H Q e q => h.run σ H _ e fun v x H' e' f r hx => ⟨x, r, q x H' e' f hx⟩
theorem pb_not {t : TT} {X : Bool → Prop} (h : PB c Γ t fun b => X (!b)) : PB c Γ (tNot t) X := .mk fun σ H Q e q => h.run σ H _ e fun b H' e' f hx => q _ H' e' f hx
theorem pb_and {t u : TT} {X : Bool → Prop} (h : PB c Γ t fun b => (b = true → PB c Γ u X) ∧ (b = false → X false)) : PB c Γ (tAnd t u) X := .mk fun σ H Q e q => h.run σ H _ e fun b H1 e1 f1 hx => by
  cases b with
  | true => exact iteT ((hx.1 rfl).run σ H1 Q e1 fun b' H2 e2 f2 hx2 => q b' H2 e2 (f1.trans f2) hx2)
  | false => exact iteF (q false H1 e1 f1 (hx.2 rfl))
theorem pb_or {t u : TT} {X : Bool → Prop} (h : PB c Γ t fun b => (b = true → X true) ∧ (b = false → PB c Γ u X)) : PB c Γ (tOr t u) X := .mk fun σ H Q e q => h.run σ H _ e fun b H1 e1 f1 hx => by
  cases b with
  | true => exact iteT (q true H1 e1 f1 (hx.1 rfl))
  | false => exact iteF ((hx.2 rfl).run σ H1 Q e1 fun b' H2 e2 f2 hx2 => q b' H2 e2 (f1.trans f2) hx2)
theorem pb_yes {X : Bool → Prop} (h : X true) : PB c Γ tYes X := .mk fun σ H Q e q => q true H e .refl h
theorem p_not {t : TE} {X : Bool → Prop} (h : P false c Γ t TBool fun b => X (!b)) : P false c Γ (tNotV t) TBool X := .mk fun σ H Q e q => h.run σ H _ e fun v x H' e' f r hx => ⟨x, r, q _ _ H' e' f rfl hx⟩
theorem p_and {t u : TE} {X : Bool → Prop} (h : P false c Γ t TBool fun b => (b = true → P false c Γ u TBool X) ∧ (b = false → X false)) : P false c Γ (tAndV t u) TBool X := .mk fun σ H Q e q => h.run σ H _ e fun v b H1 e1 f1 r hx => by
  refine ⟨b, r, ?_⟩
  cases b with
  | true => exact iteT ((hx.1 rfl).run σ H1 Q e1 fun v' b' H2 e2 f2 r2 hx2 => q v' b' H2 e2 (f1.trans f2) r2 hx2)
  | false => exact iteF (q _ false H1 e1 f1 rfl (hx.2 rfl))
theorem p_or {t u : TE} {X : Bool → Prop} (h : P false c Γ t TBool fun b => (b = true → X true) ∧ (b = false → P false c Γ u TBool X)) : P false c Γ (tOrV t u) TBool X := .mk fun σ H Q e q => h.run σ H _ e fun v b H1 e1 f1 r hx => by
  refine ⟨b, r, ?_⟩
  cases b with
  | true => exact iteT (q _ true H1 e1 f1 rfl (hx.1 rfl))
  | false => exact iteF ((hx.2 rfl).run σ H1 Q e1 fun v' b' H2 e2 f2 r2 hx2 => q v' b' H2 e2 (f1.trans f2) r2 hx2)
theorem p_if {t : TT} {ta tb : TE} {X : α → Prop} (h : PB c Γ t fun b => (b = true → P m c Γ ta T X) ∧ (b = false → P m c Γ tb T X)) : P m c Γ (tIf t ta tb) T X := .mk fun σ H Q e q => h.run σ H _ e fun b H1 e1 f1 hx => by
  cases b with
  | true => exact iteT ((hx.1 rfl).run σ H1 Q e1 fun v x H2 e2 f2 r2 hx2 => q v x H2 e2 (f1.trans f2) r2 hx2)
  | false => exact iteF ((hx.2 rfl).run σ H1 Q e1 fun v x H2 e2 f2 r2 hx2 => q v x H2 e2 (f1.trans f2) r2 hx2)
/-! lists, tuples -/
theorem pl_nil {X : List α → Prop} (h : X []) : PL m c Γ tNil T X := .mk fun σ H Q e q => q [] [] H e .refl .nil h
theorem pl_cons {ta : TE} {tr : TA} {X : List α → Prop} (h : P m c Γ ta T fun x => PL m c Γ tr T fun xs => X (x :: xs)) : PL m c Γ (tCons ta tr) T X := .mk fun σ H Q e q =>
  h.run σ H _ e fun v x H1 e1 f1 r1 hb => hb.run σ H1 _ e1 fun vs xs H2 e2 f2 r2 hx => q _ _ H2 e2 (f1.trans f2) (.cons (T.stp r1 (e1.stp_fx f2)) r2) hx
theorem p_lst {ta : TA} {X : List α → Prop} (h : PL m c Γ ta T fun xs => xs.length ≤ sizeLine ∧ X xs) : P m c Γ (tLst ta) (TLst T) X := .mk fun σ H Q e q =>
  h.run σ H _ e fun vs xs H1 e1 f1 r1 hx => by
    have hl : vs.length ≤ sizeLine := by rw [r1.len]; exact hx.1
    exact ⟨hl, fun p hp => q _ xs _ (e1.ex (.new hp)) (f1.exr (.new hp)) ⟨p, vs, rfl, (.inl (e1.nw hp)), upd_same, hl, r1.imp fun _ _ z => T.stp z (.of_ex (.new hp))⟩ hx.2⟩
theorem p_tup {ta : TA} {X : List α → Prop} (h : PL m c Γ ta T fun xs => xs.length ≤ sizeLine ∧ X xs) : P m c Γ (tTup ta) (TTup T) X := .mk fun σ H Q e q =>
  h.run σ H _ e fun vs xs H1 e1 f1 r1 hx => by
    have hl : vs.length ≤ sizeLine := by rw [r1.len]; exact hx.1
    exact ⟨hl, fun p hp => q _ xs _ (e1.ex (.new hp)) (f1.exr (.new hp)) ⟨p, vs, rfl, (.inl (e1.nw hp)), upd_same, hl, r1.imp fun _ _ z => T.stp z (.of_ex (.new hp))⟩ hx.2⟩
theorem p_pair {ta tb : TE} {X : α × β → Prop} (h : P m c Γ ta T fun x => P m c Γ tb U fun y => X (x, y)) : P m c Γ (tTup (tCons ta (tCons tb tNil))) (TPair T U) X := .mk fun σ H Q e q =>
  h.run σ H _ e fun v x H1 e1 f1 r1 hb => hb.run σ H1 _ e1 fun w y H2 e2 f2 r2 hx => ⟨by show 2 ≤ sizeLine; decide, fun p hp =>
    q _ (x, y) _ (e2.ex (.new hp)) ((f1.trans f2).exr (.new hp)) ⟨p, v, w, rfl, (.inl (e2.nw hp)), upd_same, T.stp (T.stp r1 (e1.stp_fx f2)) (.of_ex (.new hp)), U.stp r2 (.of_ex (.new hp))⟩ hx⟩
theorem p_tri {ta tb tc : TE} {X : α × β × γ → Prop} (h : P m c Γ ta T fun x => P m c Γ tb U fun y => P m c Γ tc W fun z => X (x, y, z)) : P m c Γ (tTup (tCons ta (tCons tb (tCons tc tNil)))) (TTri T U W) X := .mk fun σ H Q e q =>
  h.run σ H _ e fun v x H1 e1 f1 r1 hb => hb.run σ H1 _ e1 fun w y H2 e2 f2 r2 hc => hc.run σ H2 _ e2 fun u z H3 e3 f3 r3 hx => ⟨by show 3 ≤ sizeLine; decide, fun p hp =>
    q _ (x, y, z) _ (e3.ex (.new hp)) (((f1.trans f2).trans f3).exr (.new hp)) ⟨p, v, w, u, rfl, (.inl (e3.nw hp)), upd_same, T.stp (T.stp (T.stp r1 (e1.stp_fx f2)) (e2.stp_fx f3)) (.of_ex (.new hp)), U.stp (U.stp r2 (e2.stp_fx f3)) (.of_ex (.new hp)), W.stp r3 (.of_ex (.new hp))⟩ hx⟩
theorem pn_lst {ta : TA} {X : List α → Prop} (h : PL true c Γ ta T fun xs => xs.length ≤ sizeLine ∧ X xs) : PN c Γ (tLst ta) (OwLst T) X := .mk fun σ H Q e q =>
  h.run σ H _ e fun vs xs H1 e1 f1 r1 hx => by
    have hl : vs.length ≤ sizeLine := by rw [r1.len]; exact hx.1
    exact ⟨hl, fun p hp => q p xs H1 _ e1 f1 hp (fun _ => False.elim) (.new hp) ⟨vs, upd_same, hl, r1.imp fun _ _ z => T.mono (S := fun b => Fxm true c Γ σ b ∧ H1 b ≠ none) (fun b hb => ⟨fx_t hb.1, (fun y => hb.2 (by rw [y]; exact hp)), id⟩) (.of_ex (.new hp)) (T.alloc z)⟩ hx.2⟩
theorem pn_obj {G : Gen} {n : Nat} {X : (Str → D) → Prop} (h : X fun _ => .nil) : PN c Γ tDNewK (OwOb G n) X := .mk fun σ H Q e q p hp =>
  q p _ H _ e .refl hp (fun _ => False.elim) (.new hp) ⟨[], upd_same, Mem.nil⟩ h
theorem p_obj0 {G : Gen} {n : Nat} {X : D → Prop} (h : X (.ob fun _ => .nil)) : P m c Γ tDNewK (TDoc G (n + 1)) X := .mk fun σ H Q e q p hp =>
  q _ _ _ (e.ex (.new hp)) (.of_ex (.new hp)) (Dc.ob (ms := []) (.inl (e.nw hp)) upd_same Mem.nil) h
/-! calls -/
/-- a def that changes nothing, by one, two, three, four values -/
def pf0 (W : Ty γ) (Post : γ → Prop) : Sp := fun vs H Q _ => vs = [] ∧ TabA H ∧ ∀ r z H', Ex H H' → W.R (fun b => H b = none) H' r z → Post z → Q r H'
def pf1 (T : Ty α) (W : Ty γ) (Pre : α → Prop) (Post : α → γ → Prop) : Sp := fun vs H Q _ => ∃ S v x, vs = [v] ∧ TabA H ∧ T.R S H v x ∧ Pre x ∧ ∀ r z H', Ex H H' → W.R (fun b => S b ∨ H b = none) H' r z → Post x z → Q r H'
def pf2 (T : Ty α) (U : Ty β) (W : Ty γ) (Pre : α → β → Prop) (Post : α → β → γ → Prop) : Sp := fun vs H Q _ => ∃ S v w x y, vs = [v, w] ∧ TabA H ∧ T.R S H v x ∧ U.R S H w y ∧ Pre x y ∧ ∀ r z H', Ex H H' → W.R (fun b => S b ∨ H b = none) H' r z → Post x y z → Q r H'
def pf3 (T : Ty α) (U : Ty β) (V' : Ty δ) (W : Ty γ) (Pre : α → β → δ → Prop) (Post : α → β → δ → γ → Prop) : Sp := fun vs H Q _ => ∃ S v w u x y z, vs = [v, w, u] ∧ TabA H ∧ T.R S H v x ∧ U.R S H w y ∧ V'.R S H u z ∧ Pre x y z ∧ ∀ r s H', Ex H H' → W.R (fun b => S b ∨ H b = none) H' r s → Post x y z s → Q r H'
/-- the first argument is an own object o -/
def pg0 (o : Ow) (W : Ty γ) (Post : γ → Prop) : Sp := fun vs H Q _ => ∃ S s, vs = [.ref s] ∧ TabA H ∧ o.R S H s ∧ (∀ b, b = s ∨ o.fp b → ¬ S b) ∧ ∀ r z H', Fr (fun b => b = s ∨ o.fp b) H H' → o.R (fun b => S b ∨ H b = none) H' s → W.R (fun b => S b ∨ H b = none) H' r z → Post z → Q r H'
def pg1 (o : Ow) (T : Ty α) (W : Ty γ) (Pre : α → Prop) (Post : α → γ → Prop) : Sp := fun vs H Q _ => ∃ S s v x, vs = [.ref s, v] ∧ TabA H ∧ o.R S H s ∧ (∀ b, b = s ∨ o.fp b → ¬ S b) ∧ T.R S H v x ∧ Pre x ∧ ∀ r z H', Fr (fun b => b = s ∨ o.fp b) H H' → o.R (fun b => S b ∨ H b = none) H' s → W.R (fun b => S b ∨ H b = none) H' r z → Post x z → Q r H'
def pg2 (o : Ow) (T : Ty α) (U : Ty β) (W : Ty γ) (Pre : α → β → Prop) (Post : α → β → γ → Prop) : Sp := fun vs H Q _ => ∃ S s v w x y, vs = [.ref s, v, w] ∧ TabA H ∧ o.R S H s ∧ (∀ b, b = s ∨ o.fp b → ¬ S b) ∧ T.R S H v x ∧ U.R S H w y ∧ Pre x y ∧ ∀ r z H', Fr (fun b => b = s ∨ o.fp b) H H' → o.R (fun b => S b ∨ H b = none) H' s → W.R (fun b => S b ∨ H b = none) H' r z → Post x y z → Q r H'
def pg3 (o : Ow) (T : Ty α) (U : Ty β) (V' : Ty δ) (W : Ty γ) (Pre : α → β → δ → Prop) (Post : α → β → δ → γ → Prop) : Sp := fun vs H Q _ => ∃ S s v w u x y z, vs = [.ref s, v, w, u] ∧ TabA H ∧ o.R S H s ∧ (∀ b, b = s ∨ o.fp b → ¬ S b) ∧ T.R S H v x ∧ U.R S H w y ∧ V'.R S H u z ∧ Pre x y z ∧ ∀ r t H', Fr (fun b => b = s ∨ o.fp b) H H' → o.R (fun b => S b ∨ H b = none) H' s → W.R (fun b => S b ∨ H b = none) H' r t → Post x y z t → Q r H'
theorem p_f0 {E : XK} {Post : γ → Prop} {X : γ → Prop} (h : ∀ z, Post z → X z) : P m c Γ (tCall (pf0 W Post) [] E tNil) W X := .mk fun σ H Q e q =>
  ⟨rfl, e.tabA, fun r z H2 x2 r2 hz => q r z H2 (e.ex x2) (.of_ex x2) (W.imp r2 fun _ z => .inl (e.nw z)) (h z hz)⟩
theorem p_f1 {E : XK} {Pre : α → Prop} {Post : α → γ → Prop} {ta : TE} {X : γ → Prop} (h : P m c Γ ta T fun x => Pre x ∧ ∀ z, Post x z → X z) : P m c Γ (tCall (pf1 T W Pre Post) [] E (tCons ta tNil)) W X := .mk fun σ H Q e q =>
  h.run σ H _ e fun v x H1 e1 f1 r1 hx => ⟨_, v, x, rfl, e1.tabA, r1, hx.1, fun r z H2 x2 r2 hz => q r z H2 (e1.ex x2) (f1.exr x2) (W.imp r2 e1.nwF) (hx.2 z hz)⟩
theorem p_f2 {E : XK} {Pre : α → β → Prop} {Post : α → β → γ → Prop} {ta tb : TE} {X : γ → Prop} (h : P m c Γ ta T fun x => P m c Γ tb U fun y => Pre x y ∧ ∀ z, Post x y z → X z) : P m c Γ (tCall (pf2 T U W Pre Post) [] E (tCons ta (tCons tb tNil))) W X := .mk fun σ H Q e q =>
  h.run σ H _ e fun v x H1 e1 f1 r1 hb => hb.run σ H1 _ e1 fun w y H2 e2 f2 r2 hx => ⟨_, v, w, x, y, rfl, e2.tabA, T.stp r1 (e1.stp_fx f2), r2, hx.1, fun r z H3 x3 r3 hz => q r z H3 (e2.ex x3) ((f1.trans f2).exr x3) (W.imp r3 e2.nwF) (hx.2 z hz)⟩
theorem p_f3 {ε : Type} {V' : Ty ε} {E : XK} {Pre : α → β → ε → Prop} {Post : α → β → ε → γ → Prop} {ta tb tc : TE} {X : γ → Prop} (h : P m c Γ ta T fun x => P m c Γ tb U fun y => P m c Γ tc V' fun z => Pre x y z ∧ ∀ s, Post x y z s → X s) : P m c Γ (tCall (pf3 T U V' W Pre Post) [] E (tCons ta (tCons tb (tCons tc tNil)))) W X := .mk fun σ H Q e q =>
  h.run σ H _ e fun v x H1 e1 f1 r1 hb => hb.run σ H1 _ e1 fun w y H2 e2 f2 r2 hc => hc.run σ H2 _ e2 fun u z H3 e3 f3 r3 hx => ⟨_, v, w, u, x, y, z, rfl, e3.tabA, T.stp (T.stp r1 (e1.stp_fx f2)) (e2.stp_fx f3), U.stp r2 (e2.stp_fx f3), r3, hx.1, fun r s H4 x4 r4 hz => q r s H4 (e3.ex x4) (((f1.trans f2).trans f3).exr x4) (W.imp r4 e3.nwF) (hx.2 s hz)⟩
/-- what a call with an own object at slot i leaves -/
theorem p_own {σ : L2.St} {H H' : Hp} {i : Nat} {o : Ow} [OwPl o] {n : Bool} {s s' : Addr} (e : WEnv c Γ σ H) (hi : Γ[i]? = some (.own (o.pin s') n)) (hs : σ[i]? = some (some (.ref s))) (f : Fr (fun b => b = s ∨ o.fp b) H H') (r : o.R (fun b => Sx c Γ σ b ∨ H b = none) H' s) : WEnv c Γ σ H' ∧ FrO Γ σ H H' := by
  obtain ⟨a, ha, q, _⟩ := e.own hi
  rw [hs] at ha
  cases ha
  refine ⟨e.mut' hi hs f ⟨q.1, o.mono e.nwS .refl (fun _ _ => rfl) r⟩, f.imp fun b hb => ⟨i, _, n, s, hi, hs, hb⟩, fun j o2 n2 b h1 h2 => ?_⟩
  by_cases cj : i = j
  · subst cj
    rw [hi] at h1
    cases h1
    exact .inl (OwPl.pl (o := o))
  · exact .inr fun x u hx z h => f.go x u (fun y => e.sep i j _ _ _ _ _ _ x cj hi h1 hs h2 y hx) h z
theorem p_g0 {E : XK} {i : Nat} {o : Ow} [OwPl o] {n : Bool} {s : Addr} {Post : γ → Prop} {X : γ → Prop} (hi : Γ[i]? = some (.own (o.pin s) n)) (h : ∀ z, Post z → X z) : P m c Γ (tCall (pg0 o W Post) [] E (tCons (tVar i) tNil)) W X := .mk fun σ H Q e q => by
  obtain ⟨a, ha, r, _⟩ := e.own hi
  refine ⟨.ref a, ha, Sx c Γ σ, a, rfl, e.tabA, r.2, fun b hb z => z.2.1 ⟨i, _, n, a, hi, ha, hb⟩, fun u z H' f o' w hz => ?_⟩
  obtain ⟨e', f'⟩ := p_own e hi ha f o'
  exact q u z H' e' f' (W.imp w fun b hb => .inl (e.nwS b hb)) (h z hz)
theorem p_g1 {E : XK} {i : Nat} {o : Ow} [OwPl o] {n : Bool} {s : Addr} {Pre : α → Prop} {Post : α → γ → Prop} {ta : TE} {X : γ → Prop} (hi : Γ[i]? = some (.own (o.pin s) n)) (h : P true c Γ ta T fun x => Pre x ∧ ∀ z, Post x z → X z) : P m c Γ (tCall (pg1 o T W Pre Post) [] E (tCons (tVar i) (tCons ta tNil))) W X := .mk fun σ H Q e q => by
  obtain ⟨a, ha, r, _⟩ := e.own hi
  refine ⟨.ref a, ha, h.run σ H _ e fun v x H1 e1 f1 r1 hx => ?_⟩
  obtain ⟨a', ha', r', _⟩ := e1.own hi
  rw [ha] at ha'
  cases ha'
  refine ⟨Sx c Γ σ, a, v, x, rfl, e1.tabA, r'.2, fun b hb z => z.2.1 ⟨i, _, n, a, hi, ha, hb⟩, T.imp r1 fun _ => fx_t, hx.1, fun u z H' f o' w hz => ?_⟩
  obtain ⟨e', f'⟩ := p_own e1 hi ha f o'
  exact q u z H' e' (f1.trans f') (W.imp w fun b hb => .inl (e1.nwS b hb)) (hx.2 z hz)
theorem p_g2 {E : XK} {i : Nat} {o : Ow} [OwPl o] {n : Bool} {s : Addr} {Pre : α → β → Prop} {Post : α → β → γ → Prop} {ta tb : TE} {X : γ → Prop} (hi : Γ[i]? = some (.own (o.pin s) n)) (h : P true c Γ ta T fun x => P true c Γ tb U fun y => Pre x y ∧ ∀ z, Post x y z → X z) : P m c Γ (tCall (pg2 o T U W Pre Post) [] E (tCons (tVar i) (tCons ta (tCons tb tNil)))) W X := .mk fun σ H Q e q => by
  obtain ⟨a, ha, r, _⟩ := e.own hi
  refine ⟨.ref a, ha, h.run σ H _ e fun v x H1 e1 f1 r1 hb => hb.run σ H1 _ e1 fun w y H2 e2 f2 r2 hx => ?_⟩
  obtain ⟨a', ha', r', _⟩ := e2.own hi
  rw [ha] at ha'
  cases ha'
  refine ⟨Sx c Γ σ, a, v, w, x, y, rfl, e2.tabA, r'.2, fun b hb z => z.2.1 ⟨i, _, n, a, hi, ha, hb⟩, T.imp (T.stp r1 (e1.stp_fx f2)) fun _ => fx_t, U.imp r2 fun _ => fx_t, hx.1, fun u z H' f o' w hz => ?_⟩
  obtain ⟨e', f'⟩ := p_own e2 hi ha f o'
  exact q u z H' e' ((f1.trans f2).trans f') (W.imp w fun b hb => .inl (e2.nwS b hb)) (hx.2 z hz)
theorem p_g3 {ε : Type} {V' : Ty ε} {E : XK} {i : Nat} {o : Ow} [OwPl o] {n : Bool} {s : Addr} {Pre : α → β → ε → Prop} {Post : α → β → ε → γ → Prop} {ta tb tc : TE} {X : γ → Prop} (hi : Γ[i]? = some (.own (o.pin s) n)) (h : P true c Γ ta T fun x => P true c Γ tb U fun y => P true c Γ tc V' fun z => Pre x y z ∧ ∀ t, Post x y z t → X t) : P m c Γ (tCall (pg3 o T U V' W Pre Post) [] E (tCons (tVar i) (tCons ta (tCons tb (tCons tc tNil))))) W X := .mk fun σ H Q e q => by
  obtain ⟨a, ha, r, _⟩ := e.own hi
  refine ⟨.ref a, ha, h.run σ H _ e fun v x H1 e1 f1 r1 hb => hb.run σ H1 _ e1 fun w y H2 e2 f2 r2 hc => hc.run σ H2 _ e2 fun u' z' H3 e3 f3 r3 hx => ?_⟩
  obtain ⟨a', ha', r', _⟩ := e3.own hi
  rw [ha] at ha'
  cases ha'
  refine ⟨Sx c Γ σ, a, v, w, u', x, y, z', rfl, e3.tabA, r'.2, fun b hb z => z.2.1 ⟨i, _, n, a, hi, ha, hb⟩, T.imp (T.stp (T.stp r1 (e1.stp_fx f2)) (e2.stp_fx f3)) fun _ => fx_t, U.imp (U.stp r2 (e2.stp_fx f3)) fun _ => fx_t, V'.imp r3 fun _ => fx_t, hx.1, fun u z H' f o' w hz => ?_⟩
  obtain ⟨e', f'⟩ := p_own e3 hi ha f o'
  exact q u z H' e' (((f1.trans f2).trans f3).trans f') (W.imp w fun b hb => .inl (e3.nwS b hb)) (hx.2 z hz)
/-! statements -/
theorem run_seq {t u : TS} (h : Run c Γ t { K with nx := fun Γ' => Run c Γ' u K }) : Run c Γ (tSeq t u) K := .mk fun D σ H e k => h.run { D with nx := u D } σ H e ⟨k.rt, fun Γ' σ' H' e' r => r.run D σ' H' e' k, k.bk, k.ct⟩
theorem run_cut {t u : TS} (Mid : List WSlot → Prop) (h : Run c Γ t { K with nx := Mid }) (g : ∀ Γ', Mid Γ' → Run c Γ' u K) : Run c Γ (C8.tCut t u) K := .mk fun D σ H e k =>
  ⟨fun σ' H' => ∃ Γ', WEnv c Γ' σ' H' ∧ Mid Γ', h.run { D with nx := fun σ' H' => ∃ Γ', WEnv c Γ' σ' H' ∧ Mid Γ' } σ H e ⟨k.rt, fun Γ' σ' H' e' r => ⟨Γ', e', r⟩, k.bk, k.ct⟩, fun σ' H' ⟨Γ', e', r⟩ => (g Γ' r).run D σ' H' e' k⟩
/-- a cut where nothing is to be joined -/
theorem run_cut' {t u : TS} (h : Run c Γ t { K with nx := fun Γ' => Run c Γ' u K }) : Run c Γ (C8.tCut t u) K := run_cut _ h fun _ r => r
theorem run_nx (h : K.nx Γ) : Run c Γ tNext K := .mk fun D σ H e k => k.nx Γ σ H e h
theorem run_brk (h : K.bk Γ) : Run c Γ tBreak K := .mk fun D σ H e k => k.bk Γ σ H e h
theorem run_cont (h : K.ct Γ) : Run c Γ tCont K := .mk fun D σ H e k => k.ct Γ σ H e h
theorem run_ret {t : TE} {K : Ko δ} (h : P true c Γ t K.T fun y => K.X Γ y) : Run c Γ (tRet t) K := .mk fun D σ H e k => h.run σ H _ e fun v y H' e' f r hx => k.rt v y Γ σ H' e' (K.T.imp r fun _ => fx_t) hx
theorem run_asg {t : TE} {i : Nat} (T : Ty α) (h : P true c Γ t T fun x => K.nx (Γ.set i (.val T x))) : Run c Γ (tAsg t (gName i)) K := .mk fun D σ H e k => h.run σ H _ e fun v x H' e' f r hx => k.nx _ _ _ (e'.setv i (T.imp r fun _ => fx_t)) hx
theorem run_asgN {t : TE} {i : Nat} {o : α → Ow} (h : PN c Γ t o fun x => K.nx (Γ.set i (.own (o x) true))) : Run c Γ (tAsg t (gName i)) K := .mk fun D σ H e k => h.run σ H _ e fun p x H1 H' e' f hp hf x' r hx => k.nx _ _ _ (e'.new hp hf x' r) hx
theorem run_par {i j : Nat} {ta tb : TE} (T : Ty α) (U : Ty β) (h : P true c Γ ta T fun x => P true c Γ tb U fun y => K.nx ((Γ.set i (.val T x)).set j (.val U y))) : Run c Γ (tPar i j (tCons ta (tCons tb tNil))) K := .mk fun D σ H e k =>
  h.run σ H _ e fun v x H1 e1 f1 r1 hb => hb.run σ H1 _ e1 fun w y H2 e2 f2 r2 hx => ⟨v, w, rfl, k.nx _ _ _ ((e2.setv i (T.imp (T.stp r1 (e1.stp_fx f2)) fun _ => fx_t)).setv j (U.imp (U.imp r2 fun _ => fx_t) fun b hb => ⟨hb.1, fun z => hb.2.1 (ownA_set (s := .val T x) (fun _ _ y => (by cases y)) z), hb.2.2⟩)) hx⟩
theorem run_drop {t : TE} (T : Ty α) (h : P false c Γ t T fun _ => K.nx Γ) : Run c Γ (tDrop t) K := .mk fun D σ H e k => h.run σ H _ e fun v x H' e' f r hx => k.nx _ _ _ e' hx
theorem run_if {t : TT} {a b : TS} (h : PB c Γ t fun x => (x = true → Run c Γ a K) ∧ (x = false → Run c Γ b K)) : Run c Γ (tIfS t a b) K := .mk fun D σ H e k => h.run σ H _ e fun x H' e' f hx => by
  cases x with
  | true => exact iteT ((hx.1 rfl).run D σ H' e' k)
  | false => exact iteF ((hx.2 rfl).run D σ H' e' k)
theorem run_imp {n b d : List WSlot → Prop} {t : TS} (h : Run c Γ t { K with nx := n, bk := b, ct := d }) (hn : ∀ Γ, n Γ → K.nx Γ) (hb : ∀ Γ, b Γ → K.bk Γ) (hc : ∀ Γ, d Γ → K.ct Γ) : Run c Γ t K := .mk fun D σ H e k =>
  h.run D σ H e ⟨k.rt, fun Γ' σ' H' e' r => k.nx Γ' σ' H' e' (hn Γ' r), fun Γ' σ' H' e' r => k.bk Γ' σ' H' e' (hb Γ' r), fun Γ' σ' H' e' r => k.ct Γ' σ' H' e' (hc Γ' r)⟩
/-- the environment is seen otherwise -/
theorem run_env {t : TS} (h : ∀ σ H, WEnv c Γ σ H → ∃ Γ', WEnv c Γ' σ H ∧ Run c Γ' t K) : Run c Γ t K := .mk fun D σ H e k => let ⟨Γ', e', r⟩ := h σ H e; r.run D σ H e' k
/-- an own list is given away -/
theorem OwLst.val {xs : List α} {S : Addr → Prop} {H : Hp} {a : Addr} (z : (OwLst T xs).R S H a) : (TLst T).R (fun b => S b ∨ b = a) H (.ref a) xs := by
  obtain ⟨vs, r, l, p⟩ := z
  exact ⟨a, vs, rfl, .inr rfl, r, l, p.imp fun _ _ z => T.imp z fun _ => .inl⟩
theorem OwOb.val {G : Gen} {n : Nat} {f : Str → D} {S : Addr → Prop} {H : Hp} {a : Addr} (z : (OwOb G n f).R S H a) : (TDoc G (n + 1)).R (fun b => S b ∨ b = a) H (.ref a) (.ob f) := by
  obtain ⟨ms, r, m⟩ := z
  exact Dc.ob (.inr rfl) r (m.imp fun _ => .inl)
theorem run_frzL {t : TS} {i : Nat} {xs : List α} (hi : Γ[i]? = some (.own (OwLst T xs) true)) (h : Run c (Γ.set i (.val (TLst T) xs)) t K) : Run c Γ t K := run_env fun σ H e => ⟨_, e.freeze hi fun S H a z => (TLst T).imp (OwLst.val z) fun b hb => hb.imp id .inl, h⟩
theorem run_frzO {t : TS} {i : Nat} {G : Gen} {n : Nat} {f : Str → D} (hi : Γ[i]? = some (.own (OwOb G n f) true)) (h : Run c (Γ.set i (.val (TDoc G (n + 1)) (.ob f))) t K) : Run c Γ t K := run_env fun σ H e => ⟨_, e.freeze hi fun S H a z => (TDoc G (n + 1)).imp (OwOb.val z) fun b hb => hb.imp id .inl, h⟩
/-- x.append(e) -/
theorem run_append {Kf : PySem.W.Frag} {i : Nat} {n : Bool} {xs : List α} {te : TE} (hi : Γ[i]? = some (.own (OwLst T xs) n)) (h : P true c Γ te T fun x => xs.length < sizeLine ∧ K.nx (Γ.set i (.own (OwLst T (xs ++ [x])) n))) : Run c Γ (tDrop (tBM Kf "list" rAppend (tVar i) (tCons te tNil))) K := .mk fun D σ H e k => by
  obtain ⟨a, ha, ⟨vs, r, l, p⟩, _⟩ := e.own hi
  refine ⟨.ref a, ha, .inl ⟨rfl, _, .inl (.inl r)⟩, h.run σ H _ e fun v x H1 e1 f1 r1 hx => ?_⟩
  obtain ⟨a', ha', ⟨vs', r', l', p'⟩, _⟩ := e1.own hi
  rw [ha] at ha'
  cases ha'
  have hl : vs'.length < sizeLine := by rw [p'.len]; exact hx.1
  have st : Kpt (Sx c Γ σ) H1 (upd H1 a (.lst (vs' ++ [v]))) := e1.stp_mut hi ha (Fr.put r' rfl).inl
  exact ⟨a, vs', v, rfl, rfl, r', hl, k.nx _ _ _ (e1.mut (o' := OwLst T (xs ++ [x])) hi ha (Fr.put r' rfl).inl (fun _ => False.elim) ⟨_, upd_same, by rw [List.length_append]; exact hl, ((p'.imp fun _ _ z => T.stp z st).snoc (T.stp (T.imp r1 fun _ => fx_t) st)).imp fun _ _ z => T.imp z fun b hb => ⟨hb, id⟩⟩) hx.2⟩
end
end TP

namespace TP
open PySem PySem.Spec PyProof.Rows L2
/-! ### typed readings: loops and comprehensions -/
section
variable [TabL]
variable {m : Bool} {c : WCtx} {Γ Γ' : List WSlot} {α β γ δ : Type} {T : Ty α} {U : Ty β} {W : Ty γ} {K : Ko δ}
/-- a target: which slots it changes, what it leaves -/
structure Tgt (g : TG) (T : Ty α) (ks : List Nat) (bind : List WSlot → α → List WSlot) : Prop where
  keep : ∀ (Γ : List WSlot) (x : α) (k : Nat), k ∉ ks → (bind Γ x)[k]? = Γ[k]?
  run : ∀ (c : WCtx) (Γ : List WSlot) (σ : L2.St) (H : Hp) (v : V) (x : α) (Q : L2.St → Hp → Prop), WEnv c Γ σ H → T.R (Sx c Γ σ) H v x →
    (∀ σ', WEnv c (bind Γ x) σ' H → (∀ k, k ∉ ks → σ'[k]? = σ[k]?) → σ'.length = σ.length → (∀ a, OwnA (bind Γ x) σ' a → OwnA Γ σ a) → Q σ' H) → g v σ H Q
theorem tgt1 {j : Nat} : Tgt (gName j) T [j] (fun Γ x => Γ.set j (.val T x)) := by
  refine ⟨fun Γ x k hk => List.getElem?_set_ne fun z => hk (by rw [z]; exact List.mem_singleton.mpr rfl), fun c Γ σ H v x Q e r q => ?_⟩
  exact q _ (e.setv j r) (fun k hk => List.getElem?_set_ne fun z => hk (by rw [z]; exact List.mem_singleton.mpr rfl)) (by rw [List.length_set]) fun a h => ownA_set (s := .val T x) (fun _ _ y => (by cases y)) h
theorem tgt2 {Kf : PySem.W.Frag} {j k : Nat} : Tgt (gTup Kf 2 (gCons (gName j) (gCons (gName k) gNil))) (TPair T U) [j, k] (fun Γ x => (Γ.set j (.val T x.1)).set k (.val U x.2)) := by
  refine ⟨fun Γ x i hi => (by rw [List.getElem?_set_ne fun z => hi (by rw [z]; simp), List.getElem?_set_ne fun z => hi (by rw [z]; simp)]), fun c Γ σ H v x Q e r q => ?_⟩
  obtain ⟨a, v1, v2, rfl, _, hp, r1, r2⟩ := r
  have own1 : ∀ a, OwnA (Γ.set j (.val T x.1)) (σ.set j (some v1)) a → OwnA Γ σ a := fun a h => ownA_set (s := .val T x.1) (fun _ _ y => (by cases y)) h
  have e1 := e.setv j r1
  have e2 := e1.setv k (U.imp r2 fun b hb => (⟨hb.1, fun z => hb.2.1 (own1 b z), hb.2.2⟩ : Sx c _ _ b))
  refine ⟨a, _, rfl, .inl (.inl hp), rfl, v1, _, rfl, v2, _, rfl, rfl, q _ e2 (fun i hi => ?_) (by rw [List.length_set, List.length_set]) fun a h => own1 a (ownA_set (s := .val U x.2) (fun _ _ y => (by cases y)) h)⟩
  rw [List.getElem?_set_ne fun z => hi (by rw [z]; exact List.mem_cons_of_mem _ (List.mem_singleton.mpr rfl)), List.getElem?_set_ne fun z => hi (by rw [z]; exact List.mem_cons_self)]
/-- (j, (k, l)) -/
theorem tgt3 {Kf : PySem.W.Frag} {j k l : Nat} : Tgt (gTup Kf 3 (gCons (gName j) (gCons (gName k) (gCons (gName l) gNil)))) (TTri T U W) [j, k, l] (fun Γ x => ((Γ.set j (.val T x.1)).set k (.val U x.2.1)).set l (.val W x.2.2)) := by
  refine ⟨fun Γ x i hi => (by rw [List.getElem?_set_ne fun z => hi (by rw [z]; simp), List.getElem?_set_ne fun z => hi (by rw [z]; simp), List.getElem?_set_ne fun z => hi (by rw [z]; simp)]), fun c Γ σ H v x Q e r q => ?_⟩
  obtain ⟨a, v1, v2, v3, rfl, _, hp, r1, r2, r3⟩ := r
  have own1 : ∀ a, OwnA (Γ.set j (.val T x.1)) (σ.set j (some v1)) a → OwnA Γ σ a := fun a h => ownA_set (s := .val T x.1) (fun _ _ y => (by cases y)) h
  have e1 := e.setv j r1
  have own2 : ∀ a, OwnA ((Γ.set j (.val T x.1)).set k (.val U x.2.1)) ((σ.set j (some v1)).set k (some v2)) a → OwnA Γ σ a := fun a h => own1 a (ownA_set (s := .val U x.2.1) (fun _ _ y => (by cases y)) h)
  have e2 := e1.setv k (U.imp r2 fun b hb => (⟨hb.1, fun z => hb.2.1 (own1 b z), hb.2.2⟩ : Sx c _ _ b))
  have e3 := e2.setv l (W.imp r3 fun b hb => (⟨hb.1, fun z => hb.2.1 (own2 b z), hb.2.2⟩ : Sx c _ _ b))
  refine ⟨a, _, rfl, .inl (.inl hp), rfl, v1, _, rfl, v2, _, rfl, v3, _, rfl, rfl, q _ e3 (fun i hi => ?_) (by rw [List.length_set, List.length_set, List.length_set]) fun a h => own2 a (ownA_set (s := .val W x.2.2) (fun _ _ y => (by cases y)) h)⟩
  rw [List.getElem?_set_ne fun z => hi (by rw [z]; simp), List.getElem?_set_ne fun z => hi (by rw [z]; simp), List.getElem?_set_ne fun z => hi (by rw [z]; simp)]
/-- what is walked: n things xs; w is what stands while one walks -/
structure WalkT (J : It) (w : Tmp) (T : Ty α) (xs : List α) : Prop where
  wk : ∃ (n : Nat) (G : Hp → Prop) (Y : Nat → Hp → V → Hp → Prop), Walk J n G Y ∧ n = xs.length ∧ (∀ S H, w.T.R S H w.v w.x → G H) ∧
    xs.length ≤ sizeLine ∧ ∀ S i H v H', w.T.R S H w.v w.x → i < n → Y i H v H' → Ex H H' ∧ ∃ x, xs[i]? = some x ∧ T.R (fun b => S b ∨ H b = none) H' v x
structure PIt (c : WCtx) (Γ : List WSlot) (wi : TI) {α : Type} (T : Ty α) (X : List α → Prop) : Prop where
  run : ∀ σ H R, WEnv c Γ σ H → (∀ J (w : Tmp) xs H', WEnv c Γ σ H' → FrO Γ σ H H' → WalkT J w T xs → w.T.R (Sx c Γ σ) H' w.v w.x → X xs → R J H') → wi σ H R
def WCtx.tmp (c : WCtx) (t : Tmp) : WCtx := { c with τ := t :: c.τ }
theorem WEnv.tmp {t : Tmp} {σ : L2.St} {H : Hp} (e : WEnv c Γ σ H) (h : t.T.R (Sx c Γ σ) H t.v t.x) : WEnv (c.tmp t) Γ σ H :=
  ⟨e.len, e.fr, e.nn, e.on, e.en, e.oe, fun u hu => (List.mem_cons.mp hu).elim (fun z => by rw [z]; exact h) (e.tm u), e.at', e.sep⟩
theorem WEnv.untmp {t : Tmp} {σ : L2.St} {H : Hp} (e : WEnv (c.tmp t) Γ σ H) : WEnv c Γ σ H := ⟨e.len, e.fr, e.nn, e.on, e.en, e.oe, fun u hu => e.tm u (List.mem_cons_of_mem _ hu), e.at', e.sep⟩
theorem KoOk.tmp {t : Tmp} {D : Ends} (k : KoOk c K D) : KoOk (c.tmp t) K D := ⟨fun v y Γ' σ' H' e r x => k.rt v y Γ' σ' H' e.untmp r x, fun Γ' σ' H' e r => k.nx Γ' σ' H' e.untmp r, fun Γ' σ' H' e r => k.bk Γ' σ' H' e.untmp r, fun Γ' σ' H' e r => k.ct Γ' σ' H' e.untmp r⟩
/-- for: Inv by the turn -/
theorem run_for {wi : TI} {g : TG} {tb : TS} {ks : List Nat} {bind : List WSlot → α → List WSlot} (tg : Tgt g T ks bind) (h : PIt c Γ wi T fun xs => ∃ Inv : Nat → List WSlot → Prop, Inv 0 Γ ∧
    (∀ (c' : WCtx) (i : Nat) x Γ', xs[i]? = some x → Inv i Γ' → Run c' (bind Γ' x) tb { K with nx := Inv (i + 1), ct := Inv (i + 1), bk := K.nx }) ∧ ∀ Γ', Inv xs.length Γ' → K.nx Γ') : Run c Γ (tFor wi g tb) K := .mk fun D σ H e k => by
  refine h.run σ H _ e fun J w xs H1 e1 f1 wk hw hx => ?_
  obtain ⟨Inv, h0, hs, hd⟩ := hx
  obtain ⟨n, G, Y, wl, rfl, hG, _, hY⟩ := wk.wk
  refine for_it wl (fun i σ' H' => ∃ Γ', WEnv (c.tmp w) Γ' σ' H' ∧ Inv i Γ') ⟨Γ, e1.tmp hw, h0⟩ (fun i σ' H' _ ⟨Γ', e', _⟩ => hG _ _ (e'.tm w List.mem_cons_self)) (fun i v σ' H' H2 hi ⟨Γ', e', iv⟩ y => ?_) fun σ' H' ⟨Γ', e', iv⟩ => k.nx _ _ _ e'.untmp (hd Γ' iv)
  obtain ⟨x2, x, hx, rx⟩ := hY _ i H' v H2 (e'.tm w List.mem_cons_self) hi y
  have e2 := e'.ex x2
  refine tg.run _ _ _ _ v x _ e2 (T.imp rx e'.nwS) fun σ2 e3 _ _ _ => (hs (c.tmp w) i x Γ' hx iv).run _ _ _ e3 ⟨k.tmp.rt, fun Γ2 σ2 H2 e r => ⟨Γ2, e, r⟩, fun Γ2 σ2 H2 e r => k.tmp.nx Γ2 σ2 H2 e r, fun Γ2 σ2 H2 e r => ⟨Γ2, e, r⟩⟩
/-! what is walked -/
def TAt (seq : List V → HO) (a : Addr) (vs : List V) {α : Type} (T : Ty α) (pl : ∀ vs, isTbl (seq vs) = false) : Ty (List α) := ⟨fun S H v xs => v = .ref a ∧ S a ∧ H a = some (seq vs) ∧ vs.length ≤ sizeLine ∧ Paired (T.R S H) vs xs,
  fun h st ⟨e, s, r, l, p⟩ => ⟨e, h a s, st.go a _ s (pl _) r, l, p.imp fun _ _ z => T.mono h st z⟩,
  fun ⟨e, s, r, l, p⟩ => ⟨e, ⟨s, by rw [r]; exact fun z => nomatch z⟩, r, l, p.imp fun _ _ z => T.alloc z⟩⟩
def TAny (α : Type) : Ty α := ⟨fun _ _ _ _ => True, fun _ _ _ => trivial, fun _ => trivial⟩
theorem pit_list {Kf : PySem.W.Frag} {t : TE} {X : List α → Prop} (h : P true c Γ t (TLst T) X) : PIt c Γ (iList Kf t) T X := .mk fun σ H R e q => h.run σ H _ e fun v xs H1 e1 f1 r hx => by
  obtain ⟨a, vs, rfl, s, ha, l, p⟩ := (TLst T).imp r fun _ => fx_t
  refine ⟨a, rfl, ⟨vs, .inl (.inl ha)⟩, q _ ⟨TAt .lst a vs T (fun _ => rfl), xs, .ref a⟩ xs H1 e1 f1 ⟨vs.length, _, _, walk_list (xs := vs), p.len, fun S H z => .inl (.inl z.2.2.1), by rw [← p.len]; exact l, fun S i H v H' z hi y => ?_⟩ ⟨rfl, s, ha, l, p⟩ hx⟩
  obtain ⟨rfl, y⟩ := y
  obtain ⟨x, hx, r⟩ := z.2.2.2.2.get y
  exact ⟨.refl _, x, hx, T.imp r fun _ => .inl⟩
theorem pit_tup {Kf : PySem.W.Frag} {t : TE} {X : List α → Prop} (h : P true c Γ t (TTup T) X) : PIt c Γ (iTup Kf t) T X := .mk fun σ H R e q => h.run σ H _ e fun v xs H1 e1 f1 r hx => by
  obtain ⟨a, vs, rfl, s, ha, l, p⟩ := (TTup T).imp r fun _ => fx_t
  refine ⟨a, rfl, ⟨vs, .inl (.inl ha)⟩, q _ ⟨TAt .tup a vs T (fun _ => rfl), xs, .ref a⟩ xs H1 e1 f1 ⟨vs.length, _, _, walk_tup (xs := vs), p.len, fun S H z => .inl (.inl z.2.2.1), by rw [← p.len]; exact l, fun S i H v H' z hi y => ?_⟩ ⟨rfl, s, ha, l, p⟩ hx⟩
  obtain ⟨rfl, y⟩ := y
  obtain ⟨x, hx, r⟩ := z.2.2.2.2.get y
  exact ⟨.refl _, x, hx, T.imp r fun _ => .inl⟩
def rangeL (lo : Int) (n : Nat) : List Int := (List.range n).map fun i : Nat => lo + i
theorem rangeL_len {lo : Int} {n : Nat} : (rangeL lo n).length = n := by unfold rangeL; rw [List.length_map, List.length_range]
theorem rangeL_get {lo : Int} {n i : Nat} (h : i < n) : (rangeL lo n)[i]? = some (lo + i) := by unfold rangeL; rw [List.getElem?_map, List.getElem?_range h]; rfl
theorem rangeL_get' {lo x : Int} {n i : Nat} (h : (rangeL lo n)[i]? = some x) : i < n ∧ x = lo + i := by
  have hi : i < n := by
    have := (List.getElem?_eq_some_iff.mp h).1
    rwa [rangeL_len] at this
  rw [rangeL_get hi] at h
  cases h
  exact ⟨hi, rfl⟩
theorem pit_range1 {t : TE} {X : List Int → Prop} (h : P true c Γ t TInt fun n => (0 ≤ n ∧ n < 1000000) ∧ X (rangeL 0 n.toNat)) : PIt c Γ (iRng1 (tCons t tNil)) TInt X := .mk fun σ H R e q => h.run σ H _ e fun v n H1 e1 f1 r hx => by
  obtain rfl : v = .int n := r
  refine ⟨n, rfl, by omega, by omega, q _ ⟨TAny Unit, (), .non⟩ (rangeL 0 n.toNat) H1 e1 f1 ⟨n.toNat, _, _, walk_range, rangeL_len.symm, fun _ _ _ => trivial, ?_, fun S i H v H' z hi y => ?_⟩ trivial hx.2⟩
  · rw [rangeL_len]
    exact Nat.le_trans (show n.toNat ≤ 1000000 by omega) (by decide)
  · obtain ⟨rfl, rfl⟩ := y
    exact ⟨.refl _, _, rangeL_get hi, rfl⟩
/-! comprehensions -/
def wipeS (Γ : List WSlot) : List Nat → List WSlot
  | [] => Γ
  | v :: vs => (wipeS Γ vs).set v .un
def noOwn (Γ : List WSlot) (vs : List Nat) : Bool := vs.all fun j => match Γ[j]? with | some (.own _ _) => false | _ => true
theorem wipeS_get {vs : List Nat} {i : Nat} (h : i ∉ vs) : (wipeS Γ vs)[i]? = Γ[i]? := by
  induction vs with
  | nil => rfl
  | cons v vs ih =>
    show ((wipeS Γ vs).set v .un)[i]? = _
    rw [List.getElem?_set_ne fun z => h (by rw [z]; exact List.mem_cons_self)]
    exact ih fun z => h (List.mem_cons_of_mem _ z)
theorem wipe_get {σ : L2.St} {vs : List Nat} {i : Nat} (h : i ∉ vs) : (wipe σ vs)[i]? = σ[i]? := by
  induction vs with
  | nil => rfl
  | cons v vs ih =>
    show ((wipe σ vs).set v none)[i]? = _
    rw [List.getElem?_set_ne fun z => h (by rw [z]; exact List.mem_cons_self)]
    exact ih fun z => h (List.mem_cons_of_mem _ z)
theorem wipe_in {σ : L2.St} {vs : List Nat} {i : Nat} (h : i ∈ vs) (hi : i < σ.length) : (wipe σ vs)[i]? = some none := by
  induction vs with
  | nil => cases h
  | cons v vs ih =>
    show ((wipe σ vs).set v none)[i]? = _
    by_cases cv : v = i
    · subst cv
      rw [List.getElem?_set_self (by rw [wipe_length]; exact hi)]
    · rw [List.getElem?_set_ne cv]
      exact ih (by cases h with
        | head => exact absurd rfl cv
        | tail _ h => exact h)
theorem wipe_same {σ σ' : L2.St} {vs : List Nat} (h : ∀ k, k ∉ vs → σ'[k]? = σ[k]?) (hl : σ'.length = σ.length) : wipe σ' vs = wipe σ vs := by
  apply List.ext_getElem?
  intro i
  by_cases ci : i ∈ vs
  · by_cases hi : i < σ.length
    · rw [wipe_in ci hi, wipe_in ci (by rw [hl]; exact hi)]
    · rw [List.getElem?_eq_none (by rw [wipe_length]; omega), List.getElem?_eq_none (by rw [wipe_length]; omega)]
  · rw [wipe_get ci, wipe_get ci, h i ci]
theorem WEnv.wipe {σ : L2.St} {H : Hp} (e : WEnv c Γ σ H) : ∀ vs, WEnv c (wipeS Γ vs) (L2.wipe σ vs) H
  | [] => e
  | v :: vs => (e.wipe vs).setu v
theorem noOwn_of {vs : List Nat} (h : noOwn Γ vs = true) {i : Nat} {o : Ow} {n : Bool} (hi : Γ[i]? = some (.own o n)) : i ∉ vs := fun z => by
  have := List.all_eq_true.mp h i z
  rw [hi] at this
  cases this
/-- the inner environment's end, seen from outside -/
theorem WEnv.back {Γ2 : List WSlot} {σ σ2 : L2.St} {H H' : Hp} (e : WEnv c Γ σ H) (f : Fr (OwnA Γ σ) H H') (ei : WEnv c Γ2 σ2 H') (same : ∀ (i : Nat) o n, Γ[i]? = some (WSlot.own o n) → Γ2[i]? = some (WSlot.own o n) ∧ σ2[i]? = σ[i]?) (hs : ∀ b, Sx c Γ2 σ2 b → Sx c Γ σ b) : WEnv c Γ σ H' := by
  have st := e.stp_own f
  refine ⟨e.len, e.fr.trans' f fun b hb => (e.ownA hb).2, ei.nn, e.on, ei.en, e.oe, fun t ht => t.T.stp (e.tm t ht) st, fun i s w h1 h2 => ?_, e.sep⟩
  cases s with
  | un => exact e.at' i _ w h1 h2
  | any => trivial
  | val T x => exact (e.at' i _ w h1 h2).mono (fun _ z => z) st (fun _ z => z) (e.stp_exc f) fun _ _ _ z => (by cases z)
  | exc B T x => exact (e.at' i _ w h1 h2).mono (fun _ z => z) st (fun _ z => z) (e.stp_exc f) fun _ _ _ z => (by cases z)
  | own o n =>
    obtain ⟨h3, h4⟩ := same i o n h1
    obtain ⟨a, ha, r, hA⟩ := ei.own h3
    rw [h4, h2] at ha
    cases ha
    exact ⟨a, rfl, o.mono hs .refl (fun _ _ => rfl) r, hA⟩
theorem upd_as {H : Hp} {a : Addr} {o : HO} (h : H a = some o) : upd H a o = H := by
  funext b
  by_cases cb : b = a
  · rw [cb, upd_same, h]
  · rw [upd_ne cb]
def LcRel {α β : Type} (Y : Nat → α → Option β → Prop) (xs : List α) (os : List (Option β)) : Prop := os.length = xs.length ∧ ∀ (i : Nat) x o, xs[i]? = some x → os[i]? = some o → Y i x o
def WCtx.lc (c : WCtx) (D : Addr) (t : Tmp) : WCtx := { c with N := fun b => c.N b ∨ b = D, τ := t :: c.τ }
theorem sx_lc {σ : L2.St} {D : Addr} {t : Tmp} {b : Addr} : Sx (c.lc D t) Γ σ b ↔ Sx c Γ σ b ∧ b ≠ D := ⟨fun h => ⟨⟨h.1, h.2.1, fun z => h.2.2.1 (.inl z), h.2.2.2⟩, fun z => h.2.2.1 (.inr z)⟩, fun h => ⟨h.1.1, h.1.2.1, fun z => z.elim h.1.2.2.1 h.2, h.1.2.2.2⟩⟩
theorem FrO.put {σ : L2.St} {H H' : Hp} {D : Addr} {u o : HO} (f : FrO Γ σ H H') (hD : H D = none) (nD : ¬ OwnA Γ σ D) (hu : H' D = some u) (e : WEnv c Γ σ H) (pl : isPl u = true := by rfl) : FrO Γ σ H (upd H' D o) :=
  ⟨f.toFr.trans' (.put hu pl) fun b hb => .inr (by rw [hb]; exact hD), fun i ow n a h1 h2 => (f.kept i ow n a h1 h2).imp id fun q b v hb z h => by
    rw [upd_ne fun y => nD (by rw [← y]; exact ⟨i, ow, n, a, h1, h2, hb⟩)]
    exact q b v hb z h⟩
theorem p_lc {wi : TI} {g : TG} {tt : TT} {te : TE} {vs ks : List Nat} {bind : List WSlot → α → List WSlot} {X : List β → Prop} (tg : Tgt g T ks bind) (hv : noOwn Γ vs = true) (hks : ∀ k ∈ ks, k ∈ vs)
    (h : PIt c Γ wi T fun xs => ∃ Y : Nat → α → Option β → Prop, (∀ (c' : WCtx) (i : Nat) x, xs[i]? = some x → PB c' (bind (wipeS Γ vs) x) tt fun b => (b = true → P m c' (bind (wipeS Γ vs) x) te U fun y => Y i x (some y)) ∧ (b = false → Y i x none)) ∧ ∀ os, LcRel Y xs os → X (os.filterMap id)) : P m c Γ (tLc wi g tt te vs) (TLst U) X := .mk fun σ H Q e q => by
  refine h.run σ H _ e fun J w xs H1 e1 f1 wk hw hx D hD => ?_
  obtain ⟨Y, hs, hd⟩ := hx
  obtain ⟨n, G, Yw, wl, rfl, hG, hlim, hY⟩ := wk.wk
  have nD : ∀ b, Sx c Γ σ b ∧ H1 b ≠ none → Sx (c.lc D w) Γ σ b := fun b hb => sx_lc.mpr ⟨hb.1, fun z => hb.2 (by rw [z]; exact hD)⟩
  have ownD : ¬ OwnA Γ σ D := fun z => by
    obtain ⟨⟨u, hu, _⟩, _⟩ := e1.ownA z
    rw [hD] at hu; cases hu
  have nDf : ∀ b, Fxm m (c.lc D w) Γ σ b → b ≠ D := fun b hb => hb.elim (fun h => (sx_lc.mp h).2) fun h z => h.2.elim (fun y => e1.en b y (by rw [z]; exact hD)) fun y => ownD (by rw [← z]; exact y.a)
  have x0 : Ex H1 (upd H1 D (.lst [])) := .new hD
  have eD : WEnv (c.lc D w) Γ σ (upd H1 D (.lst [])) := by
    refine ⟨e1.len, e1.fr.exr x0, fun b hb => hb.elim (fun z => x0.ne b (e1.nn b z)) (fun z => by rw [z, upd_same]; exact fun y => nomatch y), fun b hb z => z.elim (e1.on b hb) (fun y => ownD (by rw [← y]; exact hb)), fun b hb => x0.ne b (e1.en b hb), e1.oe, fun t ht => ?_, fun i s w' h1 h2 => ?_, e1.sep⟩
    · rcases List.mem_cons.mp ht with rfl | ht
      · exact t.T.mono nD (.of_ex x0) (t.T.alloc hw)
      · exact t.T.mono nD (.of_ex x0) (t.T.alloc (e1.tm t ht))
    · exact (e1.at' i s w' h1 h2).alloc.mono nD (.of_ex x0) (fun _ z => z) (.of_ex x0) fun o n a h3 h4 b hb => upd_ne fun z => ownD (by rw [← z]; exact ⟨i, o, n, a, by rw [h1, h3], by rw [h2, h4], hb⟩)
  refine lc_it wl (fun i H' => WEnv (c.lc D w) Γ σ H' ∧ FrO Γ σ H1 H' ∧ ∃ (os : List (Option β)) (acc : List V), H' D = some (.lst acc) ∧ acc.length ≤ i ∧ Paired (U.R (Fxm m (c.lc D w) Γ σ) H') acc (os.filterMap id) ∧ os.length = i ∧ ∀ (j : Nat) x o, xs[j]? = some x → os[j]? = some o → Y j x o)
    ⟨eD, .of_ex x0, [], [], upd_same, Nat.le_refl _, .nil, rfl, fun j x o _ z => by cases z⟩ (fun i H' _ z => hG _ _ (z.1.tm w List.mem_cons_self)) (fun i v H' H2 hi z y => ?_) fun H' z => ?_
  · obtain ⟨e2, f2, os, acc, hacc, hlen, hp, ho, hr⟩ := z
    obtain ⟨x2, x, hx, rx⟩ := hY _ i H' v H2 (e2.tm w List.mem_cons_self) hi y
    have e3 := e2.ex x2
    have ow : ∀ (i : Nat) o n, Γ[i]? = some (WSlot.own o n) → i ∉ vs := fun i o n h => noOwn_of hv h
    have sub1 : ∀ a, OwnA (wipeS Γ vs) (wipe σ vs) a → OwnA Γ σ a := fun a ⟨j, o, n, b, h1, h2, h3⟩ => by
      by_cases cj : j ∈ vs
      · have hj : j < σ.length := by
          have := (List.getElem?_eq_some_iff.mp h2).1
          rwa [wipe_length] at this
        rw [wipe_in cj hj] at h2
        cases h2
      · rw [wipeS_get cj] at h1
        rw [wipe_get cj] at h2
        exact ⟨j, o, n, b, h1, h2, h3⟩
    refine tg.run (c.lc D w) (wipeS Γ vs) (wipe σ vs) H2 v x _ (e3.wipe vs) (T.imp rx fun b hb => let z := e2.nwS b hb; ⟨z.1, fun y => z.2.1 (sub1 b y), z.2.2⟩) fun σ2 e4 k4 l4 o4 => ?_
    have k5 : ∀ k, k ∉ vs → σ2[k]? = σ[k]? := fun k hk => (k4 k fun z => hk (hks k z)).trans (wipe_get hk)
    have same : ∀ (j : Nat) o n, Γ[j]? = some (WSlot.own o n) → (bind (wipeS Γ vs) x)[j]? = some (WSlot.own o n) ∧ σ2[j]? = σ[j]? := fun j o n h => by
      have nj := ow j o n h
      exact ⟨by rw [tg.keep _ _ _ fun z => nj (hks j z), wipeS_get nj, h], k5 j nj⟩
    have own : ∀ a, OwnA (bind (wipeS Γ vs) x) σ2 a ↔ OwnA Γ σ a := fun a => ⟨fun h => sub1 a (o4 a h), fun ⟨j, o, n, b, h1, h2, h5⟩ => let ⟨h3, h4⟩ := same j o n h1; ⟨j, o, n, b, h3, by rw [h4]; exact h2, h5⟩⟩
    have sx : ∀ b, Sx (c.lc D w) (bind (wipeS Γ vs) x) σ2 b ↔ Sx (c.lc D w) Γ σ b := fun b => ⟨fun h => ⟨h.1, fun z => h.2.1 ((own b).mpr z), h.2.2⟩, fun h => ⟨h.1, fun z => h.2.1 ((own b).mp z), h.2.2⟩⟩
    have e3' := e3
    have kown : ∀ b, OwnK (bind (wipeS Γ vs) x) σ2 b → OwnK Γ σ b := fun b ⟨j, o, n, a, h1, h2, h3, h4⟩ => by
      obtain ⟨i', o', n', a', g1, g2, g3⟩ := (own b).mp ⟨j, o, n, a, h1, h2, h3⟩
      obtain ⟨s1, s2⟩ := same i' o' n' g1
      by_cases cj : i' = j
      · subst cj
        rw [s1] at h1
        cases h1
        exact ⟨i', _, _, a', g1, g2, g3, h4⟩
      · exact (e4.sep i' j o' o n' n a' a b cj s1 h1 (by rw [s2]; exact g2) h2 g3 h3).elim
    refine ⟨wipe_same k5 (by rw [l4, wipe_length]), (hs _ i x hx).run σ2 H2 _ e4 fun b H3 e5 f5 hb => ?_⟩
    have fin : ∀ {H4 : Hp} {oy : Option β} {acc' : List V}, WEnv (c.lc D w) (bind (wipeS Γ vs) x) σ2 H4 → FrO Γ σ H2 H4 → Y i x oy → H4 D = some (.lst acc) → acc'.length ≤ i + 1 → Paired (U.R (Fxm m (c.lc D w) Γ σ) H4) acc' ((os ++ [oy]).filterMap id) → WEnv (c.lc D w) Γ σ (upd H4 D (.lst acc')) ∧ FrO Γ σ H1 (upd H4 D (.lst acc')) ∧ ∃ (os : List (Option β)) (acc : List V), (upd H4 D (.lst acc')) D = some (.lst acc) ∧ acc.length ≤ i + 1 ∧ Paired (U.R (Fxm m (c.lc D w) Γ σ) (upd H4 D (.lst acc'))) acc (os.filterMap id) ∧ os.length = i + 1 ∧ ∀ (j : Nat) x o, xs[j]? = some x → os[j]? = some o → Y j x o := fun {H4 oy acc'} e6 f6 hy h4 hl4 hp4 => by
      have e7 : WEnv (c.lc D w) Γ σ H4 := e3'.back f6.toFr e6 same fun b hb => (sx b).mp hb
      have fD : Fr (fun b => b = D) H4 (upd H4 D (.lst acc')) := .put h4 rfl
      have st : Kpt (Fxm m (c.lc D w) Γ σ) H4 (upd H4 D (.lst acc')) := ⟨fun b u s z h => by rw [upd_ne (nDf b s)]; exact h, fD.ne, fD.tab⟩
      refine ⟨e7.go (st.imp fun _ => .inl) ⟨fun b u s z h => by rw [upd_ne (fun y => e1.en b s (by rw [y]; exact hD))]; exact h, fD.ne, fD.tab⟩ (fun a ha => upd_ne fun z => ownD (by rw [← z]; exact ha)) (e7.fr.trans' fD fun b hb => .inr (by rw [hb]; exact e1.fr.fresh hD)), ((f2.exr x2).trans f6).put hD ownD h4 e1, os ++ [oy], acc', upd_same, hl4, hp4.imp fun _ _ z => U.stp z st, by rw [List.length_append, ho]; rfl, fun j x' o' h1 h2 => ?_⟩
      by_cases cj : j < i
      · rw [List.getElem?_append_left (by omega)] at h2
        exact hr j x' o' h1 h2
      · have : j = i := by
          have := (List.getElem?_eq_some_iff.mp h2).1
          rw [List.length_append, ho] at this
          simp at this
          omega
        subst this
        rw [List.getElem?_append_right (by omega), ho, Nat.sub_self] at h2
        cases h2
        rw [hx] at h1
        cases h1
        exact hy
    have conv : ∀ {Ha Hb}, FrO (bind (wipeS Γ vs) x) σ2 Ha Hb → FrO Γ σ Ha Hb := fun f => ⟨f.toFr.imp fun a h => (own a).mp h, fun j o n a h1 h2 => f.kept j o n a (same j o n h1).1 (by rw [(same j o n h1).2]; exact h2)⟩
    have f5' : FrO Γ σ H2 H3 := conv f5
    have keepD : ∀ {H4}, FrO Γ σ H2 H4 → H4 D = some (.lst acc) := fun f => f.go D _ ownD (x2 D _ hacc) rfl
    have fm : ∀ oy : Option β, (os ++ [oy]).filterMap id = os.filterMap id ++ oy.toList := fun oy => by rw [List.filterMap_append]; cases oy <;> rfl
    cases b with
    | true =>
      refine iteT ((hb.1 rfl).run σ2 H3 _ e5 fun y' z H4 e6 f6 r6 hz => ?_)
      have f26 : FrO Γ σ H2 H4 := f5'.trans (conv f6)
      have st26 : Kpt (Fxm m (c.lc D w) Γ σ) H2 H4 := e3.stp_fx f26
      refine ⟨acc, keepD f26, Nat.lt_of_lt_of_le (Nat.lt_of_le_of_lt hlen hi) hlim, fin e6 f26 hz (keepD f26) (by rw [List.length_append]; exact Nat.succ_le_succ hlen) ?_⟩
      rw [fm]
      exact (hp.imp fun _ _ z => U.stp (U.stp z (.of_ex x2)) st26).app (.cons (U.imp r6 fun b hb => hb.imp (sx b).mp fun y => ⟨y.1, y.2.imp id (kown b)⟩) .nil)
    | false =>
      refine iteF ?_
      have st : Kpt (Fxm m (c.lc D w) Γ σ) H2 H3 := e3.stp_fx f5'
      have := fin e5 f5' (hb.2 rfl) (keepD f5') (Nat.le_succ_of_le hlen) (by rw [fm, show (none : Option β).toList = [] from rfl, List.append_nil]; exact hp.imp fun _ _ z => U.stp (U.stp z (.of_ex x2)) st)
      rwa [upd_as (keepD f5')] at this
  · obtain ⟨e2, f2, os, acc, hacc, hlen, hp, ho, hr⟩ := z
    have e3 : WEnv c Γ σ H' := by
      have sub : ∀ b, Sx (c.lc D w) Γ σ b → Sx c Γ σ b := fun b hb => (sx_lc.mp hb).1
      exact ⟨e2.len, e2.fr, fun b h => e2.nn b (.inl h), fun b h z => e2.on b h (.inl z), e2.en, e2.oe, fun t ht => t.T.imp (e2.tm t (List.mem_cons_of_mem _ ht)) sub, fun i s w' h1 h2 => (e2.at' i s w' h1 h2).mono sub .refl (fun _ z => z) .refl fun _ _ _ _ _ _ _ => rfl, e2.sep⟩
    refine q _ _ H' e3 (f1.trans f2) ⟨D, acc, rfl, .inl (e1.nw hD), hacc, Nat.le_trans hlen hlim, hp.imp fun _ _ z => U.imp z fun b hb => hb.imp (fun h => (sx_lc.mp h).1) id⟩ (hd os ⟨ho, hr⟩)
end
end TP

namespace TP
open PySem PySem.Spec PyProof.Rows L2
/-! ### == and != of data, whatever it is, as a decision -/
namespace U
section
open PySem.SeqAt
open AutoSeq1 (wpAny_loadPart')
variable {prog : Program} {w : World} {A : Around} {R : Result → Shared → Prop}
theorem tuple_eqB (l b : Addr) (items items2 : Array Value) (n n2 : Nat) (dd dd2 : Option Addr) (sl sl2 : Array (Option Value)) (J : List Value → List Value → Shared → Prop)
    (turn : ∀ u us v vs s, J (u :: us) (v :: vs) s → wpAny (model prog w) A.in1 (eqBool u v) (fun r s' => (r = true ∧ J us vs s') ∨ (r = false ∧ R (.ok (.ret (.bool false))) s')) (fun e s' => R (.error e) s') s)
    (fin : ∀ us vs s, (us = [] ∨ vs = []) → J us vs s → R (.ok (.ret (.bool (us.length == vs.length)))) s) {s : Shared} (hl1 : s.heap.get? l = some { cls := .type "tuple", dict := dd, data := .seq items n, slots := sl }) (hb1 : s.heap.get? b = some { cls := .type "tuple", dict := dd2, data := .seq items2 n2, slots := sl2 }) (h : J items.toList items2.toList s) :
    wpAny (model prog w) A.in1 (Builtin.«tuple.__eq__» ⟨[.ref l, .ref b], []⟩) (GQ.FinOf prog w A R) (fun e s' => R (.error e) s') s := by
  have f2 := AutoSeq1.sub_tuple_tuple
  have h0 := h
  obtain ⟨hp, g, d, tk, os⟩ := s
  wp_walk using wpAny_loadPart' hl1, wpAny_loadPart' hb1, wpAny_forIn_list _ (fun rest b s' => b.1 = none ∧ ∃ us vs, rest = us.zip vs ∧ (us.length == vs.length) = (items.size == items2.size) ∧ J us vs s') _
  case turn =>
    rintro ⟨y, x⟩ rest b s' ⟨hb', us, vs, hz, hl, hI⟩
    match us, vs, hz, hl, hI with
    | [], _, hz, _, _ => simp at hz
    | _ :: _, [], hz, _, _ => simp at hz
    | u :: us, v :: vs, hz, hl, hI =>
      simp only [List.zip_cons_cons, List.cons.injEq, Prod.mk.injEq] at hz
      obtain ⟨⟨rfl, rfl⟩, rfl⟩ := hz
      refine wpAny_bind (wpAny_mono (turn _ _ _ _ s' hI) (fun r s2 q2 => ?_) fun _ _ x => x)
      rcases q2 with ⟨rfl, q2⟩ | ⟨rfl, q2⟩
      · wp_walk
        exact ⟨rfl, us, vs, rfl, by simpa using hl, q2⟩
      · wp_walk
        exact q2
  case fin =>
    rintro ⟨b1, b2⟩ s' ⟨hb', us, vs, hz, hl, hI⟩
    simp only at hb'
    subst hb'
    have e : us = [] ∨ vs = [] := by
      cases us with
      | nil => exact .inl rfl
      | cons u us =>
        cases vs with
        | nil => exact .inr rfl
        | cons v vs => simp at hz
    have hR : R (.ok (.ret (.bool (us.length == vs.length)))) s' := fin us vs s' e hI
    rw [hl] at hR
    wp_walk
    simpa [Builtin.Tuple.tupleCompareSizes] using hR
  case h =>
    exact ⟨rfl, _, _, rfl, by simp, h0⟩
end
section
variable {prog : Program} {w : World} {A : Around} {E : Value → Shared → Prop} {s : Shared}
theorem rc_tupB {l b : Addr} {items items2 : Array Value} {Q : Value → Shared → Prop} (hu : A.units < cLine) (J : List Value → List Value → Shared → Prop) (hl : s.heap.IsTuple l items) (hb : s.heap.IsTuple b items2)
    (turn : ∀ u us v vs s, J (u :: us) (v :: vs) s → wpAny (model prog w) A.in1 (eqBool u v) (fun r s' => (r = true ∧ J us vs s') ∨ (r = false ∧ Q (.bool false) s')) E s)
    (fin : ∀ us vs s, (us = [] ∨ vs = []) → J us vs s → Q (.bool (us.length == vs.length)) s) (h : J items.toList items2.toList s) : wpAny (model prog w) A (richCompare .Eq (.ref l) (.ref b)) Q E s := by
  obtain ⟨⟨cls, dd, data, sl⟩, ho, hc, n, hd⟩ := id hl
  obtain ⟨⟨cls2, dd2, data2, sl2⟩, ho2, hc2, n2, hd2⟩ := id hb
  simp only at hc hd hc2 hd2
  subst hc hd hc2 hd2
  refine wpAny_richCompare_same_room (op := .Eq) ⟨_, ho, rfl⟩ ⟨_, ho2, rfl⟩ F.slot_tuple_eq (GQ.call_here F.slot_tuple_eq ⟨_, ho, rfl⟩ F.entry_tuple_eq (F.args_tuple_eq_2 _ _) ?_) hu
  exact tuple_eqB (R := wants (fun v s' => v ≠ .notImplemented ∧ Q v s') E) l b items items2 n n2 dd dd2 sl sl2 J (fun u us v vs s' q => wpAny_mono (turn u us v vs s' q) (fun r s2 z => z.imp id fun ⟨z1, z2⟩ => ⟨z1, (show (Value.bool false ≠ Value.notImplemented) ∧ Q (Value.bool false) s2 from ⟨(fun x => nomatch x), z2⟩)⟩) fun _ _ x => x) (fun us vs s' e q => ⟨(fun x => nomatch x), fin us vs s' e q⟩) ho ho2 h
end
section
open PySem.SeqAt
open AutoSeq1 (wpAny_loadPart')
variable {prog : Program} {w : World} {A : Around} {R : Result → Shared → Prop}
theorem tuple_neB (l b : Addr) (items items2 : Array Value) (n n2 : Nat) (dd dd2 : Option Addr) (sl sl2 : Array (Option Value)) (J : List Value → List Value → Shared → Prop)
    (turn : ∀ u us v vs s, J (u :: us) (v :: vs) s → wpAny (model prog w) A.in1 (eqBool u v) (fun r s' => (r = true ∧ J us vs s') ∨ (r = false ∧ R (.ok (.ret (.bool true))) s')) (fun e s' => R (.error e) s') s)
    (fin : ∀ us vs s, (us = [] ∨ vs = []) → J us vs s → R (.ok (.ret (.bool (us.length != vs.length)))) s) {s : Shared} (hl1 : s.heap.get? l = some { cls := .type "tuple", dict := dd, data := .seq items n, slots := sl }) (hb1 : s.heap.get? b = some { cls := .type "tuple", dict := dd2, data := .seq items2 n2, slots := sl2 }) (h : J items.toList items2.toList s) :
    wpAny (model prog w) A.in1 (Builtin.«tuple.__ne__» ⟨[.ref l, .ref b], []⟩) (GQ.FinOf prog w A R) (fun e s' => R (.error e) s') s := by
  have f2 := AutoSeq1.sub_tuple_tuple
  have h0 := h
  obtain ⟨hp, g, d, tk, os⟩ := s
  wp_walk using wpAny_loadPart' hl1, wpAny_loadPart' hb1, wpAny_forIn_list _ (fun rest b s' => b.1 = none ∧ ∃ us vs, rest = us.zip vs ∧ (us.length == vs.length) = (items.size == items2.size) ∧ J us vs s') _
  case turn =>
    rintro ⟨y, x⟩ rest b s' ⟨hb', us, vs, hz, hl, hI⟩
    match us, vs, hz, hl, hI with
    | [], _, hz, _, _ => simp at hz
    | _ :: _, [], hz, _, _ => simp at hz
    | u :: us, v :: vs, hz, hl, hI =>
      simp only [List.zip_cons_cons, List.cons.injEq, Prod.mk.injEq] at hz
      obtain ⟨⟨rfl, rfl⟩, rfl⟩ := hz
      refine wpAny_bind (wpAny_mono (turn _ _ _ _ s' hI) (fun r s2 q2 => ?_) fun _ _ x => x)
      rcases q2 with ⟨rfl, q2⟩ | ⟨rfl, q2⟩
      · wp_walk
        exact ⟨rfl, us, vs, rfl, by simpa using hl, q2⟩
      · wp_walk
        exact q2
  case fin =>
    rintro ⟨b1, b2⟩ s' ⟨hb', us, vs, hz, hl, hI⟩
    simp only at hb'
    subst hb'
    have e : us = [] ∨ vs = [] := by
      cases us with
      | nil => exact .inl rfl
      | cons u us =>
        cases vs with
        | nil => exact .inr rfl
        | cons v vs => simp at hz
    have hR : R (.ok (.ret (.bool (us.length != vs.length)))) s' := fin us vs s' e hI
    rw [show (us.length != vs.length) = (items.size != items2.size) by rw [bne, bne, hl]] at hR
    wp_walk
    simpa [Builtin.Tuple.tupleCompareSizes] using hR
  case h =>
    exact ⟨rfl, _, _, rfl, by simp, h0⟩
end
section
variable {prog : Program} {w : World} {A : Around} {E : Value → Shared → Prop} {s : Shared}
theorem rc_tupNeB {l b : Addr} {items items2 : Array Value} {Q : Value → Shared → Prop} (hu : A.units < cLine) (J : List Value → List Value → Shared → Prop) (hl : s.heap.IsTuple l items) (hb : s.heap.IsTuple b items2)
    (turn : ∀ u us v vs s, J (u :: us) (v :: vs) s → wpAny (model prog w) A.in1 (eqBool u v) (fun r s' => (r = true ∧ J us vs s') ∨ (r = false ∧ Q (.bool true) s')) E s)
    (fin : ∀ us vs s, (us = [] ∨ vs = []) → J us vs s → Q (.bool (us.length != vs.length)) s) (h : J items.toList items2.toList s) : wpAny (model prog w) A (richCompare .NotEq (.ref l) (.ref b)) Q E s := by
  obtain ⟨⟨cls, dd, data, sl⟩, ho, hc, n, hd⟩ := id hl
  obtain ⟨⟨cls2, dd2, data2, sl2⟩, ho2, hc2, n2, hd2⟩ := id hb
  simp only at hc hd hc2 hd2
  subst hc hd hc2 hd2
  refine wpAny_richCompare_same_room (op := .NotEq) ⟨_, ho, rfl⟩ ⟨_, ho2, rfl⟩ F.slot_tuple_ne (GQ.call_here F.slot_tuple_ne ⟨_, ho, rfl⟩ F.entry_tuple_ne (F.args_tuple_ne_2 _ _) ?_) hu
  exact tuple_neB (R := wants (fun v s' => v ≠ .notImplemented ∧ Q v s') E) l b items items2 n n2 dd dd2 sl sl2 J (fun u us v vs s' q => wpAny_mono (turn u us v vs s' q) (fun r s2 z => z.imp id fun ⟨z1, z2⟩ => ⟨z1, (show (Value.bool true ≠ Value.notImplemented) ∧ Q (Value.bool true) s2 from ⟨(fun x => nomatch x), z2⟩)⟩) fun _ _ x => x) (fun us vs s' e q => ⟨(fun x => nomatch x), fin us vs s' e q⟩) ho ho2 h
end
end U

section
variable {X : Cx} {pins : List (Addr × Obj)} {σ : L2.St} {H : Hp} {s : Shared}
/-- x == y gives r: documents, bools, lists and tuples of such, at most n deep -/
inductive EqD (H : Hp) : Nat → V → V → Bool → Prop
  | bl {n : Nat} (a b : Bool) : EqD H n (.bl a) (.bl b) (a == b)
  | doc {S S' : Addr → Prop} {G G' : Gen} {n m k : Nat} {x y : V} {d e : D} : m ≤ n → Dc S G H m x d → Dc S' G' H k y e → EqD H n x y (deq d e)
  | lst {n : Nat} {a b : Addr} {xs ys : List V} (c : Nat → Bool) : H a = some (.lst xs) → H b = some (.lst ys) → (∀ j x y, xs[j]? = some x → ys[j]? = some y → EqD H n x y (c j)) → EqD H (n + 1) (.ref a) (.ref b) (xs.length == ys.length && (List.range xs.length).all c)
  | tup {n : Nat} {a b : Addr} {xs ys : List V} (c : Nat → Bool) : H a = some (.tup xs) → H b = some (.tup ys) → (∀ j x y, xs[j]? = some x → ys[j]? = some y → EqD H n x y (c j)) → EqD H (n + 1) (.ref a) (.ref b) (xs.length == ys.length && (List.range xs.length).all c)
theorem all_same {n : Nat} {f : Nat → Bool} (h : ∀ j, j < n → f j = true) : (List.range n).all f = true := List.all_eq_true.mpr fun j hj => h j (List.mem_range.mp hj)
theorem EqD.same : ∀ {n : Nat} {x y : V} {r : Bool}, EqD H n x y r → x = y → r = true := by
  intro n x y r h
  induction h with
  | bl a b => intro e; injection e with e; subst e; exact beq_self_eq_true a
  | doc hl h h' => intro e; subst e; exact deq_t (dc_det h h')
  | lst c h h' _ ih =>
    intro e
    injection e with e
    subst e
    rw [h] at h'
    cases h'
    rw [beq_self_eq_true, Bool.true_and]
    exact all_same fun j hj => ih j _ _ (List.getElem?_eq_getElem hj) (List.getElem?_eq_getElem hj) rfl
  | tup c h h' _ ih =>
    intro e
    injection e with e
    subst e
    rw [h] at h'
    cases h'
    rw [beq_self_eq_true, Bool.true_and]
    exact all_same fun j hj => ih j _ _ (List.getElem?_eq_getElem hj) (List.getElem?_eq_getElem hj) rfl
theorem EqD.stp {H' : Hp} (go : ∀ a u, (∃ xs, u = .lst xs) ∨ (∃ xs, u = .tup xs) ∨ (∃ kvs, u = .dK kvs) → H a = some u → H' a = some u) : ∀ {n : Nat} {x y : V} {r : Bool}, EqD H n x y r → EqD H' n x y r := by
  have dc : ∀ {S : Addr → Prop} {G : Gen} {n : Nat} {v : V} {d : D}, Dc S G H n v d → Dc S G H' n v d := by
    intro S G n
    induction n with
    | zero => exact fun h => h
    | succ n ih =>
      intro v d h
      rcases h with h | ⟨a, xs, e, s, r, z⟩ | ⟨a, ms, f, e, s, r, nd, ks, d, no, at'⟩
      · exact .inl h
      · exact .inr (.inl ⟨a, xs, e, s, go a _ (.inl ⟨_, rfl⟩) r, z⟩)
      · exact .inr (.inr ⟨a, ms, f, e, s, go a _ (.inr (.inr ⟨_, rfl⟩)) r, nd, ks, d, no, fun k u hu => ih (at' k u hu)⟩)
  intro n x y r h
  induction h with
  | bl a b => exact .bl a b
  | doc hl h h' => exact .doc hl (dc h) (dc h')
  | lst c h h' _ ih => exact .lst c (go _ _ (.inl ⟨_, rfl⟩) h) (go _ _ (.inl ⟨_, rfl⟩) h') ih
  | tup c h h' _ ih => exact .tup c (go _ _ (.inr (.inl ⟨_, rfl⟩)) h) (go _ _ (.inr (.inl ⟨_, rfl⟩)) h') ih
theorem arr_get {us : List Value} {j : Nat} {u : Value} (h : us[j]? = some u) (h1 : j < us.toArray.size) : us.toArray[j] = u := by
  have := (List.getElem?_eq_some_iff.mp h).2
  simpa using this
theorem vals_pair {xs : List V} {us : List Value} (r : Vals xs us) {j : Nat} (hj : j < us.toArray.size) : ∃ x, xs[j]? = some x ∧ RelV x us.toArray[j] := by
  obtain ⟨k, q⟩ := vals_at r j (by simpa using hj)
  exact ⟨_, List.getElem?_eq_getElem k, by simpa using q⟩
/-- the items of two tuples, from the left -/
theorem tup_turns {A : Around} {xs ys : List V} {us ws : List Value} {c : Nat → Bool} (r1 : Vals xs us) (r2 : Vals ys ws) (he : ∀ (j : Nat) u w, us[j]? = some u → ws[j]? = some w → SeqAt.EqP X.prog X.w A s u w (c j)) {Q : Value → Shared → Prop} {neg : Bool} (q : Q (.bool (neg ^^ (xs.length == ys.length && (List.range xs.length).all c))) s) :
    ∃ J : List Value → List Value → Shared → Prop, J us ws s ∧
      (∀ u us v vs s', J (u :: us) (v :: vs) s' → ∀ E, wpAny (model X.prog X.w) A (eqBool u v) (fun r s2 => (r = true ∧ J us vs s2) ∨ (r = false ∧ Q (.bool (neg ^^ false)) s2)) E s') ∧ ∀ us vs s', (us = [] ∨ vs = []) → J us vs s' → Q (.bool (neg ^^ (us.length == vs.length))) s' := by
  refine ⟨fun us' ws' s' => s' = s ∧ ∃ i, us' = us.drop i ∧ ws' = ws.drop i ∧ i ≤ us.length ∧ i ≤ ws.length ∧ ∀ j, j < i → c j = true, ⟨rfl, 0, rfl, rfl, Nat.zero_le _, Nat.zero_le _, fun j hj => absurd hj (Nat.not_lt_zero _)⟩, ?_, ?_⟩
  · rintro u us' w ws' s' ⟨rfl, i, e1, e2, l1, l2, hc⟩ E
    have g1 : us[i]? = some u := by rw [← List.head?_drop, ← e1]; rfl
    have g2 : ws[i]? = some w := by rw [← List.head?_drop, ← e2]; rfl
    have k1 := (List.getElem?_eq_some_iff.mp g1).1
    have k2 := (List.getElem?_eq_some_iff.mp g2).1
    refine he i u w g1 g2 E _ ?_
    cases hci : c i with
    | true =>
      refine .inl ⟨rfl, rfl, i + 1, ?_, ?_, k1, k2, fun j hj => ?_⟩
      · rw [← List.drop_drop, ← e1]; rfl
      · rw [← List.drop_drop, ← e2]; rfl
      · by_cases cj : j = i
        · rw [cj]; exact hci
        · exact hc j (by omega)
    | false =>
      refine .inr ⟨rfl, ?_⟩
      have : (xs.length == ys.length && (List.range xs.length).all c) = false := by
        cases z : (List.range xs.length).all c with
        | false => rw [Bool.and_false]
        | true => rw [List.all_eq_true.mp z i (List.mem_range.mpr (by rw [r1.length]; exact k1))] at hci; cases hci
      rwa [this] at q
  · rintro us' ws' s' ev ⟨rfl, i, rfl, rfl, l1, l2, hc⟩
    rw [List.length_drop, List.length_drop]
    have e : (xs.length == ys.length && (List.range xs.length).all c) = (us.length - i == ws.length - i) := by
      rw [r1.length, r2.length]
      by_cases z : us.length = ws.length
      · have hi : i = us.length := by
          rcases ev with ev | ev
          · have := congrArg List.length ev; rw [List.length_drop] at this; simp at this; omega
          · have := congrArg List.length ev; rw [List.length_drop] at this; simp at this; omega
        rw [z, beq_self_eq_true, beq_self_eq_true, Bool.true_and]
        exact all_same fun j hj => hc j (by omega)
      · rw [beq_eq_false_iff_ne.mpr z, beq_eq_false_iff_ne.mpr (show us.length - i ≠ ws.length - i by omega), Bool.false_and]
    rwa [e] at q
theorem eqD_run (I : Inv X pins σ H s) : ∀ {n : Nat} {x y : V} {r : Bool}, EqD H n x y r → ∀ (A : Around) (v u : Value), A.units + n + 1 < cLine → RelV x v → RelV y u → SeqAt.EqP X.prog X.w A s v u r := by
  intro n x y r h
  induction h with
  | bl a b =>
    intro A v u _ r1 r2
    cases (show v = Value.bool a from r1)
    cases (show u = Value.bool b from r2)
    exact (SeqAt.EqAt.bool_bool a b).eqP
  | doc hl h h' => exact fun A v u hu r1 r2 => docs_dec I _ _ A _ _ _ _ v u (by omega) h h' r1 r2
  | @lst n a b xs ys c h h' he ih =>
    intro A v u hu r1 r2
    have main := @EqD.lst H n a b xs ys c h h' he
    cases (show v = Value.ref a from r1)
    cases (show u = Value.ref b from r2)
    by_cases e : a = b
    · rw [main.same (by rw [e])]
      subst e
      exact (SeqAt.EqAt.same _).eqP
    obtain ⟨us, r1, p1, _⟩ := I.list (.inl (.inl h))
    obtain ⟨ws, r2, p2, _⟩ := I.list (.inl (.inl h'))
    by_cases hl : xs.length = ys.length
    · have hl' : us.length = ws.length := by rw [← r1.length, ← r2.length, hl]
      refine SeqAt.eqP_refs e fun E Q q => SeqAt.rcP_lists (e := c) p1.isList p2.isList (by rw [List.size_toArray, List.size_toArray, hl']) (by omega) (fun j h1 h2 => ?_) E Q ?_
      · obtain ⟨x, hx, rx⟩ := vals_pair r1 h1
        obtain ⟨y, hy, ry⟩ := vals_pair r2 h2
        exact ih j x y hx hy A.in1 _ _ (by show A.units + 1 + n + 1 < cLine; omega) rx ry
      · rw [hl, beq_self_eq_true, Bool.true_and, ← hl, r1.length] at q
        rw [List.size_toArray]
        exact q
    · rw [beq_eq_false_iff_ne.mpr hl, Bool.false_and]
      refine SeqAt.eqP_refs e fun E Q q => SeqAt.RcAt.lists_lengths p1.isList p2.isList ?_ (by omega) _ _ E Q q
      rw [List.size_toArray, List.size_toArray, ← r1.length, ← r2.length]
      exact bne_iff_ne.mpr hl
  | @tup n a b xs ys c h h' he ih =>
    intro A v u hu r1 r2
    have main := @EqD.tup H n a b xs ys c h h' he
    cases (show v = Value.ref a from r1)
    cases (show u = Value.ref b from r2)
    by_cases e : a = b
    · rw [main.same (by rw [e])]
      subst e
      exact (SeqAt.EqAt.same _).eqP
    obtain ⟨us, r1, p1, _⟩ := I.tuple (.inl (.inl h))
    obtain ⟨ws, r2, p2, _⟩ := I.tuple (.inl (.inl h'))
    refine SeqAt.eqP_refs e fun E Q q => ?_
    have he' : ∀ (j : Nat) u w, us[j]? = some u → ws[j]? = some w → SeqAt.EqP X.prog X.w A.in1 s u w (c j) := fun j u w hu' hw' => by
      have k1 := (List.getElem?_eq_some_iff.mp hu').1
      have k2 := (List.getElem?_eq_some_iff.mp hw').1
      obtain ⟨x, hx, rx⟩ := vals_pair r1 (j := j) (by simpa using k1)
      obtain ⟨y, hy, ry⟩ := vals_pair r2 (j := j) (by simpa using k2)
      rw [arr_get hu'] at rx
      rw [arr_get hw'] at ry
      exact ih j x y hx hy A.in1 _ _ (by show A.units + 1 + n + 1 < cLine; omega) rx ry
    obtain ⟨J, j0, jt, jf⟩ := tup_turns (A := A.in1) (c := c) (Q := Q) (neg := false) r1 r2 he' (by rw [Bool.false_xor]; exact q)
    refine U.rc_tupB (by omega) J p1 p2 (fun u us v vs s' z => jt u us v vs s' z E) (fun us vs s' e z => ?_) (by simpa using j0)
    have := jf us vs s' e z
    rwa [Bool.false_xor] at this
/-- == and != by that -/
def rEqU : R2 := fun x y H Q => ∃ n r, n ≤ 40 ∧ EqD H n x y r ∧ Q (.bl r) H
def rNeU : R2 := fun x y H Q => ∃ n r, n ≤ 40 ∧ EqD H n x y r ∧ Q (.bl (!r)) H
theorem op_eqU (hu : X.A.units + 64 < cLine) : OpR X (compareOp .Eq) rEqU := by
  intro pins s σ H x y v u Q I rx ry h
  obtain ⟨n, r, hn, h, q⟩ := h
  cases h with
  | bl a b => exact op_eq pins s σ H _ _ v u Q I rx ry ⟨rfl, by rw [show decide (V.bl a = V.bl b) = (a == b) by cases a <;> cases b <;> rfl]; exact q⟩
  | doc hl h h' => exact op_eqD2 hu pins s σ H _ _ v u Q I rx ry ⟨_, _, _, _, _, _, _, _, by omega, h, h', q⟩
  | @lst n a b xs ys c h h' he =>
    cases (show v = Value.ref a from rx)
    cases (show u = Value.ref b from ry)
    obtain ⟨us, r1, p1, _⟩ := I.list (.inl (.inl h))
    obtain ⟨ws, r2, p2, _⟩ := I.list (.inl (.inl h'))
    by_cases hl : xs.length = ys.length
    · have hl' : us.length = ws.length := by rw [← r1.length, ← r2.length, hl]
      refine SeqAt.rcP_lists (e := c) p1.isList p2.isList (by rw [List.size_toArray, List.size_toArray, hl']) (by omega) (fun j h1 h2 => ?_) _ _ ⟨.bl _, H, I, rfl, ?_⟩
      · obtain ⟨x, hx, rx⟩ := vals_pair r1 h1
        obtain ⟨y, hy, ry⟩ := vals_pair r2 h2
        exact eqD_run I (he j x y hx hy) X.A.in1 _ _ (by show X.A.units + 1 + n + 1 < cLine; omega) rx ry
      · rw [hl, beq_self_eq_true, Bool.true_and, ← hl, r1.length] at q
        rw [List.size_toArray]
        exact q
    · rw [beq_eq_false_iff_ne.mpr hl, Bool.false_and] at q
      refine SeqAt.RcAt.lists_lengths p1.isList p2.isList ?_ (by omega) _ _ _ _ ⟨.bl false, H, I, rfl, q⟩
      rw [List.size_toArray, List.size_toArray, ← r1.length, ← r2.length]
      exact bne_iff_ne.mpr hl
  | @tup n a b xs ys c h h' he =>
    cases (show v = Value.ref a from rx)
    cases (show u = Value.ref b from ry)
    obtain ⟨us, r1, p1, _⟩ := I.tuple (.inl (.inl h))
    obtain ⟨ws, r2, p2, _⟩ := I.tuple (.inl (.inl h'))
    have he' : ∀ (j : Nat) u w, us[j]? = some u → ws[j]? = some w → SeqAt.EqP X.prog X.w X.A.in1 s u w (c j) := fun j u w hu' hw' => by
      have k1 := (List.getElem?_eq_some_iff.mp hu').1
      have k2 := (List.getElem?_eq_some_iff.mp hw').1
      obtain ⟨x, hx, rx⟩ := vals_pair r1 (j := j) (by simpa using k1)
      obtain ⟨y, hy, ry⟩ := vals_pair r2 (j := j) (by simpa using k2)
      rw [arr_get hu'] at rx
      rw [arr_get hw'] at ry
      exact eqD_run I (he j x y hx hy) X.A.in1 _ _ (by show X.A.units + 1 + n + 1 < cLine; omega) rx ry
    obtain ⟨J, j0, jt, jf⟩ := tup_turns (A := X.A.in1) (c := c) (Q := EP X pins σ Q) (neg := false) r1 r2 he' ⟨.bl _, H, I, rfl, by rw [Bool.false_xor]; exact q⟩
    refine U.rc_tupB (by omega) J p1 p2 (fun u us v vs s' z => jt u us v vs s' z _) (fun us vs s' e z => ?_) (by simpa using j0)
    have := jf us vs s' e z
    rwa [Bool.false_xor] at this
theorem op_neU (hu : X.A.units + 64 < cLine) : OpR X (compareOp .NotEq) rNeU := by
  intro pins s σ H x y v u Q I rx ry h
  obtain ⟨n, r, hn, h, q⟩ := h
  cases h with
  | bl a b => exact op_ne pins s σ H _ _ v u Q I rx ry ⟨rfl, by rw [show decide (V.bl a = V.bl b) = (a == b) by cases a <;> cases b <;> rfl]; exact q⟩
  | doc hl h h' => exact op_neD2 hu pins s σ H _ _ v u Q I rx ry ⟨_, _, _, _, _, _, _, _, by omega, h, h', q⟩
  | @lst n a b xs ys c h h' he =>
    cases (show v = Value.ref a from rx)
    cases (show u = Value.ref b from ry)
    obtain ⟨us, r1, p1, _⟩ := I.list (.inl (.inl h))
    obtain ⟨ws, r2, p2, _⟩ := I.list (.inl (.inl h'))
    by_cases hl : xs.length = ys.length
    · have hl' : us.length = ws.length := by rw [← r1.length, ← r2.length, hl]
      refine rcNeP_lists (c := c) p1.isList p2.isList (by rw [List.size_toArray, List.size_toArray, hl']) (by omega) (fun j h1 h2 => ?_) _ _ ⟨.bl _, H, I, rfl, ?_⟩
      · obtain ⟨x, hx, rx⟩ := vals_pair r1 h1
        obtain ⟨y, hy, ry⟩ := vals_pair r2 h2
        exact eqD_run I (he j x y hx hy) X.A.in1 _ _ (by show X.A.units + 1 + n + 1 < cLine; omega) rx ry
      · rw [hl, beq_self_eq_true, Bool.true_and, ← hl, r1.length] at q
        rw [List.size_toArray]
        exact q
    · rw [beq_eq_false_iff_ne.mpr hl, Bool.false_and] at q
      refine SeqAt.RcNeAt.lists_lengths p1.isList p2.isList ?_ (by omega) _ _ _ _ ⟨.bl true, H, I, rfl, q⟩
      rw [List.size_toArray, List.size_toArray, ← r1.length, ← r2.length]
      exact bne_iff_ne.mpr hl
  | @tup n a b xs ys c h h' he =>
    cases (show v = Value.ref a from rx)
    cases (show u = Value.ref b from ry)
    obtain ⟨us, r1, p1, _⟩ := I.tuple (.inl (.inl h))
    obtain ⟨ws, r2, p2, _⟩ := I.tuple (.inl (.inl h'))
    have he' : ∀ (j : Nat) u w, us[j]? = some u → ws[j]? = some w → SeqAt.EqP X.prog X.w X.A.in1 s u w (c j) := fun j u w hu' hw' => by
      have k1 := (List.getElem?_eq_some_iff.mp hu').1
      have k2 := (List.getElem?_eq_some_iff.mp hw').1
      obtain ⟨x, hx, rx⟩ := vals_pair r1 (j := j) (by simpa using k1)
      obtain ⟨y, hy, ry⟩ := vals_pair r2 (j := j) (by simpa using k2)
      rw [arr_get hu'] at rx
      rw [arr_get hw'] at ry
      exact eqD_run I (he j x y hx hy) X.A.in1 _ _ (by show X.A.units + 1 + n + 1 < cLine; omega) rx ry
    obtain ⟨J, j0, jt, jf⟩ := tup_turns (A := X.A.in1) (c := c) (Q := EP X pins σ Q) (neg := true) r1 r2 he' ⟨.bl _, H, I, rfl, by rw [Bool.true_xor]; exact q⟩
    refine U.rc_tupNeB (by omega) J p1 p2 (fun u us v vs s' z => jt u us v vs s' z _) (fun us vs s' e z => ?_) (by simpa using j0)
    have := jf us vs s' e z
    rwa [Bool.true_xor] at this
/-- x in xs, x not in xs: a list -/
def rInU (neg : Bool) : R2 := fun x y H Q => ∃ n b ys c, y = .ref b ∧ n ≤ 40 ∧ H b = some (.lst ys) ∧ (∀ j z, ys[j]? = some z → EqD H n z x (c j)) ∧ Q (.bl (neg ^^ (List.range ys.length).any c)) H
theorem op_inU (hu : X.A.units + 64 < cLine) : OpR X (compareOp .In) (rInU false) := by
  intro pins s σ H x y v u Q I rx ry h
  obtain ⟨n, b, ys, c, rfl, hn, hb, he, q⟩ := h
  cases (show u = Value.ref b from ry)
  obtain ⟨ws, r2, p2, _⟩ := I.list (.inl (.inl hb))
  refine inP c p2.isList (fun j h2 => ?_) ⟨.bl _, H, I, rfl, ?_⟩
  · obtain ⟨y, hy, ry⟩ := vals_pair r2 h2
    exact eqD_run I (he j y hy) X.A.in1 _ _ (by show X.A.units + 1 + n + 1 < cLine; omega) ry rx
  · rw [List.size_toArray, ← r2.length]
    rwa [Bool.false_xor] at q
theorem op_notInU (hu : X.A.units + 64 < cLine) : OpR X (compareOp .NotIn) (rInU true) := by
  intro pins s σ H x y v u Q I rx ry h
  obtain ⟨n, b, ys, c, rfl, hn, hb, he, q⟩ := h
  cases (show u = Value.ref b from ry)
  obtain ⟨ws, r2, p2, _⟩ := I.list (.inl (.inl hb))
  refine notInP c p2.isList (fun j h2 => ?_) ⟨.bl _, H, I, rfl, ?_⟩
  · obtain ⟨y, hy, ry⟩ := vals_pair r2 h2
    exact eqD_run I (he j y hy) X.A.in1 _ _ (by show X.A.units + 1 + n + 1 < cLine; omega) ry rx
  · rw [List.size_toArray, ← r2.length]
    rwa [Bool.true_xor] at q
end
end TP

namespace TP
variable [TabL]
open PySem PySem.Spec PyProof.Rows L2
/-! ### typed readings: operators -/
/-- == of two types, as a decision -/
def EqT {α : Type} (T U : Ty α) (n : Nat) : Prop := ∀ (S S' : Addr → Prop) (H : Hp) (v w : V) (x y : α), T.R S H v x → U.R S' H w y → ∃ r, EqD H n v w r ∧ (r = true ↔ x = y)
def gSc : Gen := ⟨[], isSc, 0, fun _ h => h⟩
theorem dc_sc {H : Hp} {v : V} (h : isSc v = true) : Dc (fun _ => True) gSc H 1 v (.sc v) := Dc.sc (G := gSc) h
theorem eqd_sc {H : Hp} {n : Nat} {v w : V} (hn : 1 ≤ n) (h : isSc v = true) (h' : isSc w = true) : ∃ r, EqD H n v w r ∧ (r = true ↔ v = w) :=
  ⟨_, .doc hn (dc_sc h) (dc_sc h'), by rw [deq_iff]; exact ⟨fun z => by injection z, fun z => by rw [z]⟩⟩
theorem eqt_int {n : Nat} : EqT TInt TInt (n + 1) := fun S S' H v w x y r r' => by
  obtain rfl : v = .int x := r
  obtain rfl : w = .int y := r'
  obtain ⟨b, h, e⟩ := eqd_sc (H := H) (n := n + 1) (by omega) (v := .int x) (w := .int y) rfl rfl
  exact ⟨b, h, e.trans ⟨fun z => by injection z, fun z => by rw [z]⟩⟩
theorem eqt_str {n : Nat} : EqT TStr TStr (n + 1) := fun S S' H v w x y r r' => by
  obtain rfl : v = .str x := r
  obtain rfl : w = .str y := r'
  obtain ⟨b, h, e⟩ := eqd_sc (H := H) (n := n + 1) (by omega) (v := .str x) (w := .str y) rfl rfl
  exact ⟨b, h, e.trans ⟨fun z => by injection z, fun z => by rw [z]⟩⟩
theorem eqt_bool {n : Nat} : EqT TBool TBool n := fun S S' H v w x y r r' => by
  obtain rfl : v = .bl x := r
  obtain rfl : w = .bl y := r'
  exact ⟨_, .bl x y, by rw [beq_iff_eq]⟩
theorem eqt_doc {G G' : Gen} {n m k : Nat} (h : n ≤ k) : EqT (TDoc G n) (TDoc G' m) k := fun S S' H v w x y r r' => ⟨_, .doc h r r', deq_iff⟩
theorem eqd_items {α : Type} {T U : Ty α} {n : Nat} (h : EqT T U n) {S S' : Addr → Prop} {H : Hp} {vs ws : List V} {xs ys : List α} (p : Paired (T.R S H) vs xs) (q : Paired (U.R S' H) ws ys) :
    ∃ c : Nat → Bool, (∀ j v w, vs[j]? = some v → ws[j]? = some w → EqD H n v w (c j)) ∧ ((vs.length == ws.length && (List.range vs.length).all c) = true ↔ xs = ys) := by
  have pick : ∀ j : Nat, ∃ r : Bool, ∀ v w, vs[j]? = some v → ws[j]? = some w → EqD H n v w r ∧ ∀ x y, xs[j]? = some x → ys[j]? = some y → (r = true ↔ x = y) := fun j => by
    cases hv : vs[j]? with
    | none => exact ⟨true, fun v w z => by cases z⟩
    | some v =>
      cases hw : ws[j]? with
      | none => exact ⟨true, fun v w _ z => by cases z⟩
      | some w =>
        obtain ⟨x, hx, rx⟩ := p.get hv
        obtain ⟨y, hy, ry⟩ := q.get hw
        obtain ⟨r, e, i⟩ := h _ _ _ _ _ _ _ rx ry
        exact ⟨r, fun v' w' h1 h2 => by cases h1; cases h2; exact ⟨e, fun x' y' h3 h4 => by rw [hx] at h3; rw [hy] at h4; cases h3; cases h4; exact i⟩⟩
  obtain ⟨c, hc⟩ := Classical.axiomOfChoice pick
  refine ⟨c, fun j v w h1 h2 => (hc j v w h1 h2).1, ?_⟩
  rw [Bool.and_eq_true, beq_iff_eq, List.all_eq_true, p.len, q.len]
  constructor
  · rintro ⟨l, a⟩
    refine List.ext_getElem? fun j => ?_
    by_cases hj : j < xs.length
    · have h1 := List.getElem?_eq_getElem hj
      have h2 := List.getElem?_eq_getElem (show j < ys.length by omega)
      obtain ⟨v, hv, _⟩ := p.get' h1
      obtain ⟨w, hw, _⟩ := q.get' h2
      rw [h1, h2, ((hc j v w hv hw).2 _ _ h1 h2).mp (a j (List.mem_range.mpr hj))]
    · rw [List.getElem?_eq_none (by omega), List.getElem?_eq_none (by omega)]
  · rintro rfl
    refine ⟨rfl, fun j hj => ?_⟩
    have hj := List.mem_range.mp hj
    have h1 := List.getElem?_eq_getElem hj
    obtain ⟨v, hv, _⟩ := p.get' h1
    obtain ⟨w, hw, _⟩ := q.get' h1
    exact ((hc j v w hv hw).2 _ _ h1 h1).mpr rfl
theorem eqt_lst {α : Type} {T U : Ty α} {n : Nat} (h : EqT T U n) : EqT (TLst T) (TLst U) (n + 1) := fun S S' H v w x y r r' => by
  obtain ⟨a, vs, rfl, _, ha, _, p⟩ := r
  obtain ⟨b, ws, rfl, _, hb, _, q⟩ := r'
  obtain ⟨c, hc, e⟩ := eqd_items h p q
  exact ⟨_, .lst c ha hb hc, e⟩
theorem eqt_tup {α : Type} {T U : Ty α} {n : Nat} (h : EqT T U n) : EqT (TTup T) (TTup U) (n + 1) := fun S S' H v w x y r r' => by
  obtain ⟨a, vs, rfl, _, ha, _, p⟩ := r
  obtain ⟨b, ws, rfl, _, hb, _, q⟩ := r'
  obtain ⟨c, hc, e⟩ := eqd_items h p q
  exact ⟨_, .tup c ha hb hc, e⟩
theorem eqt_pair {α β : Type} {T T' : Ty α} {U U' : Ty β} {n : Nat} (h : EqT T T' n) (k : EqT U U' n) : EqT (TPair T U) (TPair T' U') (n + 1) := fun S S' H v w x y r r' => by
  obtain ⟨a, v1, v2, rfl, _, ha, p1, p2⟩ := r
  obtain ⟨b, w1, w2, rfl, _, hb, q1, q2⟩ := r'
  obtain ⟨r1, e1, i1⟩ := h _ _ _ _ _ _ _ p1 q1
  obtain ⟨r2, e2, i2⟩ := k _ _ _ _ _ _ _ p2 q2
  refine ⟨_, .tup (fun j => if j = 0 then r1 else r2) ha hb fun j v w h1 h2 => ?_, ?_⟩
  · match j, h1, h2 with
    | 0, h1, h2 => cases h1; cases h2; exact e1
    | 1, h1, h2 => cases h1; cases h2; exact e2
    | j + 2, h1, _ => cases h1
  · show ((true && (r1 && (r2 && true))) = true) ↔ _
    simp only [Bool.true_and, Bool.and_true, Bool.and_eq_true, i1, i2]
    exact ⟨fun z => Prod.ext z.1 z.2, fun z => by rw [z]; exact ⟨rfl, rfl⟩⟩
theorem eqt_tri {α β γ : Type} {T T' : Ty α} {U U' : Ty β} {W W' : Ty γ} {n : Nat} (h : EqT T T' n) (k : EqT U U' n) (l : EqT W W' n) : EqT (TTri T U W) (TTri T' U' W') (n + 1) := fun S S' H v w x y r r' => by
  obtain ⟨a, v1, v2, v3, rfl, _, ha, p1, p2, p3⟩ := r
  obtain ⟨b, w1, w2, w3, rfl, _, hb, q1, q2, q3⟩ := r'
  obtain ⟨r1, e1, i1⟩ := h _ _ _ _ _ _ _ p1 q1
  obtain ⟨r2, e2, i2⟩ := k _ _ _ _ _ _ _ p2 q2
  obtain ⟨r3, e3, i3⟩ := l _ _ _ _ _ _ _ p3 q3
  refine ⟨_, .tup (fun j => if j = 0 then r1 else if j = 1 then r2 else r3) ha hb fun j v w h1 h2 => ?_, ?_⟩
  · match j, h1, h2 with
    | 0, h1, h2 => cases h1; cases h2; exact e1
    | 1, h1, h2 => cases h1; cases h2; exact e2
    | 2, h1, h2 => cases h1; cases h2; exact e3
    | j + 3, h1, _ => cases h1
  · show ((true && (r1 && (r2 && (r3 && true)))) = true) ↔ _
    simp only [Bool.true_and, Bool.and_true, Bool.and_eq_true, i1, i2, i3]
    exact ⟨fun z => Prod.ext z.1 (Prod.ext z.2.1 z.2.2), fun z => by rw [z]; exact ⟨rfl, rfl, rfl⟩⟩
theorem mem_one1 {S : Addr → Prop} {G : Gen} {H : Hp} {n : Nat} {k : Str} {v : V} {d : D} (hk : k ∈ G.KS) (h : Dc S G H n v d) : Mem S G H n [(k, v)] (fun j => if j = k then d else .nil) := by
  refine ⟨by simp, fun j hj => by simp at hj; rw [hj]; exact hk, fun j hj => ?_, fun j u hu => ?_⟩
  · by_cases c : j = k
    · rw [c, valV_pos (p := (k, v)) rfl] at hj; cases hj
    · exact if_neg c
  · by_cases c : j = k
    · rw [c, valV_pos (p := (k, v)) rfl] at hu
      cases hu
      show Dc S G H n v (if j = k then d else .nil)
      rw [if_pos c]
      exact h
    · rw [valV_neg (p := (k, v)) (fun z => c z.symm)] at hu
      cases hu
def cutX {α : Type} (xs : List α) (lo hi : Option Int) : List α := (xs.drop (HT.sIx xs.length 0 lo)).take (HT.sIx xs.length xs.length hi - HT.sIx xs.length 0 lo)
section

variable {m : Bool} {c : WCtx} {Γ Γ' : List WSlot} {α β γ δ : Type} {T : Ty α} {U : Ty β} {W : Ty γ} {K : Ko δ} {Kf : PySem.W.Frag}
theorem P.sca {T : Ty α} (hs : ∀ S S' H v x, T.R S H v x → T.R S' H v x) {t : TE} {X : α → Prop} (h : P false c Γ t T X) : P m c Γ t T X := .mk fun σ H Q e q => h.run σ H Q e fun v x H' e' f r hx => q v x H' e' f (hs _ _ _ _ _ r) hx
theorem p_I0i {f : Int → Int → Int} {ta tb : TE} {X : Int → Prop} (h : P false c Γ ta TInt fun x => P false c Γ tb TInt fun y => X (f x y)) : P m c Γ (tOp (rI0 fun i j => .int (f i j)) ta tb) TInt X :=
  P.sca (fun _ _ _ _ _ h => h) (p_op2 (C := fun _ _ => True) (f := f) (fun S H v w x y Q r1 r2 _ k => ⟨x, y, r1, r2, k _ H (.refl H) rfl⟩) (h.imp fun _ z => z.imp fun _ z => ⟨trivial, z⟩))
theorem p_I0b {f : Int → Int → Bool} {ta tb : TE} {X : Bool → Prop} (h : P false c Γ ta TInt fun x => P false c Γ tb TInt fun y => X (f x y)) : P m c Γ (tOp (rI0 fun i j => .bl (f i j)) ta tb) TBool X :=
  P.sca (fun _ _ _ _ _ h => h) (p_op2 (C := fun _ _ => True) (f := f) (fun S H v w x y Q r1 r2 _ k => ⟨x, y, r1, r2, k _ H (.refl H) rfl⟩) (h.imp fun _ z => z.imp fun _ z => ⟨trivial, z⟩))
theorem p_I {C : Int → Int → Prop} {f : Int → Int → Int} {ta tb : TE} {X : Int → Prop} (h : P false c Γ ta TInt fun x => P false c Γ tb TInt fun y => C x y ∧ X (f x y)) : P m c Γ (tOp (rI C fun i j => .int (f i j)) ta tb) TInt X :=
  P.sca (fun _ _ _ _ _ h => h) (p_op2 (C := C) (f := f) (fun S H v w x y Q r1 r2 hc k => ⟨x, y, r1, r2, hc, k _ H (.refl H) rfl⟩) h)
theorem p_neg {f : Int → Int} {ta : TE} {X : Int → Prop} (h : P false c Γ ta TInt fun x => X (f x)) : P m c Γ (tUn (rU fun i => .int (f i)) ta) TInt X :=
  P.sca (fun _ _ _ _ _ h => h) (p_op1 (C := fun _ => True) (f := f) (fun S H v x Q r1 _ k => ⟨x, r1, k _ H (.refl H) rfl⟩) (h.imp fun _ z => ⟨trivial, z⟩))
theorem p_eq {T U : Ty α} {n : Nat} (q : EqT T U n) (hn : n ≤ 40) {ta tb : TE} {X : Bool → Prop} (h : P false c Γ ta T fun x => P false c Γ tb U fun y => ∀ r : Bool, (r = true ↔ x = y) → X r) : P m c Γ (tOp rEqU ta tb) TBool X := .mk fun σ H Q e k =>
  h.run σ H _ e fun v x H1 e1 f1 r1 hb => hb.run σ H1 _ e1 fun w y H2 e2 f2 r2 hx => by
    obtain ⟨r, d, i⟩ := q _ _ _ _ _ _ _ (T.stp r1 (e1.stp_fx f2)) r2
    exact ⟨n, r, hn, d, k _ r H2 e2 (f1.trans f2) rfl (hx r i)⟩
theorem p_ne {T U : Ty α} {n : Nat} (q : EqT T U n) (hn : n ≤ 40) {ta tb : TE} {X : Bool → Prop} (h : P false c Γ ta T fun x => P false c Γ tb U fun y => ∀ r : Bool, (r = true ↔ x ≠ y) → X r) : P m c Γ (tOp rNeU ta tb) TBool X := .mk fun σ H Q e k =>
  h.run σ H _ e fun v x H1 e1 f1 r1 hb => hb.run σ H1 _ e1 fun w y H2 e2 f2 r2 hx => by
    obtain ⟨r, d, i⟩ := q _ _ _ _ _ _ _ (T.stp r1 (e1.stp_fx f2)) r2
    exact ⟨n, r, hn, d, k _ (!r) H2 e2 (f1.trans f2) rfl (hx (!r) (by rw [Bool.not_eq_true', ← Bool.not_eq_true]; exact not_congr i))⟩
/-- x in a list -/
theorem p_in {T U : Ty α} {n : Nat} {neg : Bool} (q : EqT U T n) (hn : n ≤ 40) {ta tb : TE} {X : Bool → Prop} (h : P false c Γ ta T fun x => P false c Γ tb (TLst U) fun ys => ∀ r : Bool, (r = true ↔ x ∈ ys) → X (neg ^^ r)) : P m c Γ (tOp (rInU neg) ta tb) TBool X := .mk fun σ H Q e k =>
  h.run σ H _ e fun v x H1 e1 f1 r1 hb => hb.run σ H1 _ e1 fun w ys H2 e2 f2 r2 hx => by
    obtain ⟨a, vs, rfl, _, ha, _, p⟩ := r2
    have r1 := T.stp r1 (e1.stp_fx f2)
    have pick : ∀ j : Nat, ∃ r : Bool, ∀ v', vs[j]? = some v' → EqD H2 n v' v r ∧ ∀ y, ys[j]? = some y → (r = true ↔ y = x) := fun j => by
      cases hv : vs[j]? with
      | none => exact ⟨true, fun v z => by cases z⟩
      | some v' =>
        obtain ⟨y, hy, ry⟩ := p.get hv
        obtain ⟨r, d, i⟩ := q _ _ _ _ _ _ _ ry r1
        exact ⟨r, fun v'' h1 => by cases h1; exact ⟨d, fun y' h3 => by rw [hy] at h3; cases h3; exact i⟩⟩
    obtain ⟨g, hg⟩ := Classical.axiomOfChoice pick
    refine ⟨n, a, vs, g, rfl, hn, ha, fun j z hz => (hg j z hz).1, k _ _ H2 e2 (f1.trans f2) rfl (hx _ ?_)⟩
    rw [List.any_eq_true, p.len]
    constructor
    · rintro ⟨j, hj, e⟩
      have h1 := List.getElem?_eq_getElem (List.mem_range.mp hj)
      obtain ⟨v', hv', _⟩ := p.get' h1
      rw [← ((hg j v' hv').2 _ h1).mp e]
      exact List.getElem_mem _
    · intro hm
      obtain ⟨j, hj⟩ := List.getElem?_of_mem hm
      obtain ⟨v', hv', _⟩ := p.get' hj
      exact ⟨j, List.mem_range.mpr (List.getElem?_eq_some_iff.mp hj).1, ((hg j v' hv').2 _ hj).mpr rfl⟩
/-- x is None -/
def NonT (T : Ty α) (p : α → Prop) : Prop := ∀ S H v x, T.R S H v x → (v = .non ↔ p x)
theorem nonT_doc {G : Gen} {n : Nat} : NonT (TDoc G n) (fun d => d = .sc .non) := fun S H v x r => by
  have z := Dc.non r
  have e : x.isNon = true ↔ x = .sc .non := by
    cases x with
    | sc w => cases w <;> simp [D.isNon]
    | _ => simp [D.isNon]
  show v = .non ↔ x = .sc .non
  rw [← e, z, decide_eq_true_eq]
theorem nonT_opt : NonT (TOpt T) (fun x => x = none) := fun S H v x r => by
  cases x with
  | none => exact ⟨fun _ => rfl, fun _ => r⟩
  | some y => exact ⟨fun z => absurd z r.2, fun z => by cases z⟩
theorem p_isN {p : α → Prop} (q : NonT T p) {ta : TE} {X : Bool → Prop} (h : P false c Γ ta T fun x => ∀ r : Bool, (r = true ↔ p x) → X r) : P m c Γ (tOp (fun x y H Q => y = .non ∧ Q (.bl (decide (x = .non))) H) ta (tC .non)) TBool X := .mk fun σ H Q e k =>
  h.run σ H _ e fun v x H1 e1 f1 r1 hx => ⟨rfl, k _ _ H1 e1 f1 rfl (hx _ (by rw [decide_eq_true_eq]; exact q _ _ _ _ r1))⟩
theorem p_notN {p : α → Prop} (q : NonT T p) {ta : TE} {X : Bool → Prop} (h : P false c Γ ta T fun x => ∀ r : Bool, (r = true ↔ ¬ p x) → X r) : P m c Γ (tOp (fun x y H Q => y = .non ∧ Q (.bl (!decide (x = .non))) H) ta (tC .non)) TBool X := .mk fun σ H Q e k =>
  h.run σ H _ e fun v x H1 e1 f1 r1 hx => ⟨rfl, k _ _ H1 e1 f1 rfl (hx _ (by rw [Bool.not_eq_true', decide_eq_false_iff_not]; exact not_congr (q _ _ _ _ r1)))⟩
/-! lists and tuples -/
theorem p_len {ta : TE} {X : Int → Prop} (h : P false c Γ ta (TLst T) fun xs => X xs.length) : P m c Γ (tCB (fun xs H Q => ∃ p ys, xs = [.ref p] ∧ (SqL Kf H p ys ∨ SqT Kf H p ys) ∧ Q (.int ys.length) H) (tCons ta tNil)) TInt X :=
  P.sca (fun _ _ _ _ _ h => h) (p_cb1 (T := TLst T) (W := TInt) (f := fun xs => (xs.length : Int)) (C := fun _ => True) (fun S H v x Q ⟨a, vs, e, _, ha, _, p⟩ _ k => ⟨a, vs, by rw [e], .inl (.inl (.inl ha)), k _ H (.refl H) (by rw [p.len]; rfl)⟩) (h.imp fun _ z => ⟨trivial, z⟩))
theorem p_lenT {ta : TE} {X : Int → Prop} (h : P false c Γ ta (TTup T) fun xs => X xs.length) : P m c Γ (tCB (fun xs H Q => ∃ p ys, xs = [.ref p] ∧ (SqL Kf H p ys ∨ SqT Kf H p ys) ∧ Q (.int ys.length) H) (tCons ta tNil)) TInt X :=
  P.sca (fun _ _ _ _ _ h => h) (p_cb1 (T := TTup T) (W := TInt) (f := fun xs => (xs.length : Int)) (C := fun _ => True) (fun S H v x Q ⟨a, vs, e, _, ha, _, p⟩ _ k => ⟨a, vs, by rw [e], .inr (.inl (.inl ha)), k _ H (.refl H) (by rw [p.len]; rfl)⟩) (h.imp fun _ z => ⟨trivial, z⟩))
theorem atI_pair {F : V → α → Prop} {vs : List V} {xs : List α} (p : Paired F vs xs) {i : Int} {x : α} (h : atI xs i = some x) : ∃ v, atI vs i = some v ∧ F v x := by
  unfold atI at h ⊢
  rw [p.len]
  cases e : ixN xs.length i with
  | none => rw [e] at h; cases h
  | some j =>
    rw [e] at h
    exact p.get' h
theorem p_ix {ta tb : TE} {X : α → Prop} (h : P m c Γ ta (TLst T) fun xs => P m c Γ tb TInt fun i => ∃ x, atI xs i = some x ∧ X x) : P m c Γ (tOp (rIxL Kf) ta tb) T X := .mk fun σ H Q e k =>
  h.run σ H _ e fun v x H1 e1 f1 r1 hb => hb.run σ H1 _ e1 fun w y H2 e2 f2 r2 hx => by
    obtain ⟨a, vs, rfl, _, ha, _, p⟩ := (TLst T).stp r1 (e1.stp_fx f2)
    obtain ⟨z, hz, q⟩ := hx
    obtain ⟨u, hu, ru⟩ := atI_pair p hz
    exact ⟨a, vs, y, u, rfl, r2, .inl (.inl ha), hu, k u z H2 e2 (f1.trans f2) ru q⟩
theorem p_ixT {ta tb : TE} {X : α → Prop} (h : P m c Γ ta (TTup T) fun xs => P m c Γ tb TInt fun i => ∃ x, atI xs i = some x ∧ X x) : P m c Γ (tOp (rIxT Kf) ta tb) T X := .mk fun σ H Q e k =>
  h.run σ H _ e fun v x H1 e1 f1 r1 hb => hb.run σ H1 _ e1 fun w y H2 e2 f2 r2 hx => by
    obtain ⟨a, vs, rfl, _, ha, _, p⟩ := (TTup T).stp r1 (e1.stp_fx f2)
    obtain ⟨z, hz, q⟩ := hx
    obtain ⟨u, hu, ru⟩ := atI_pair p hz
    exact ⟨a, vs, y, u, rfl, r2, .inl (.inl ha), hu, k u z H2 e2 (f1.trans f2) ru q⟩
theorem p_fst {ta : TE} {X : α → Prop} (h : P m c Γ ta (TPair T U) fun x => X x.1) : P m c Γ (tOp (rIxT Kf) ta (tC (.int 0))) T X := .mk fun σ H Q e k =>
  h.run σ H _ e fun v x H1 e1 f1 ⟨a, v1, v2, hv, _, ha, p, q⟩ hx => ⟨a, _, 0, v1, hv, rfl, .inl (.inl ha), rfl, k _ _ H1 e1 f1 p hx⟩
theorem p_snd {ta : TE} {X : β → Prop} (h : P m c Γ ta (TPair T U) fun x => X x.2) : P m c Γ (tOp (rIxT Kf) ta (tC (.int 1))) U X := .mk fun σ H Q e k =>
  h.run σ H _ e fun v x H1 e1 f1 ⟨a, v1, v2, hv, _, ha, p, q⟩ hx => ⟨a, _, 1, v2, hv, rfl, .inl (.inl ha), rfl, k _ _ H1 e1 f1 q hx⟩
theorem p_t0 {ta : TE} {X : α → Prop} (h : P m c Γ ta (TTri T U W) fun x => X x.1) : P m c Γ (tOp (rIxT Kf) ta (tC (.int 0))) T X := .mk fun σ H Q e k =>
  h.run σ H _ e fun v x H1 e1 f1 ⟨a, v1, v2, v3, hv, _, ha, p, q, r⟩ hx => ⟨a, _, 0, v1, hv, rfl, .inl (.inl ha), rfl, k _ _ H1 e1 f1 p hx⟩
theorem p_t1 {ta : TE} {X : β → Prop} (h : P m c Γ ta (TTri T U W) fun x => X x.2.1) : P m c Γ (tOp (rIxT Kf) ta (tC (.int 1))) U X := .mk fun σ H Q e k =>
  h.run σ H _ e fun v x H1 e1 f1 ⟨a, v1, v2, v3, hv, _, ha, p, q, r⟩ hx => ⟨a, _, 1, v2, hv, rfl, .inl (.inl ha), rfl, k _ _ H1 e1 f1 q hx⟩
theorem p_t2 {ta : TE} {X : γ → Prop} (h : P m c Γ ta (TTri T U W) fun x => X x.2.2) : P m c Γ (tOp (rIxT Kf) ta (tC (.int 2))) W X := .mk fun σ H Q e k =>
  h.run σ H _ e fun v x H1 e1 f1 ⟨a, v1, v2, v3, hv, _, ha, p, q, r⟩ hx => ⟨a, _, 2, v3, hv, rfl, .inl (.inl ha), rfl, k _ _ H1 e1 f1 r hx⟩
theorem cut_pair {F : V → α → Prop} {vs : List V} {xs : List α} (p : Paired F vs xs) (lo hi : Option Int) : Paired F (cutV vs lo hi) (cutX xs lo hi) := by
  unfold cutV cutX
  rw [p.len]
  exact (p.drop _).take _
theorem cutV_len (vs : List V) (lo hi : Option Int) : (cutV vs lo hi).length ≤ vs.length := cutV_length vs lo hi
/-- slices: the ends are optional -/
structure PO (c : WCtx) (Γ : List WSlot) (t : TO) (X : Option Int → Prop) : Prop where
  run : ∀ σ H Q, WEnv c Γ σ H → (∀ o H', WEnv c Γ σ H' → FrO Γ σ H H' → X o → Q o H') → t σ H Q
theorem po_no {X : Option Int → Prop} (h : X none) : PO c Γ tNoPart X := .mk fun σ H Q e k => k none H e .refl h
theorem po_so {t : TE} {X : Option Int → Prop} (h : P false c Γ t TInt fun i => X (some i)) : PO c Γ (tPart t) X := .mk fun σ H Q e k => h.run σ H _ e fun v x H1 e1 f1 r1 hx => ⟨x, r1, k _ H1 e1 f1 hx⟩
theorem p_slL {ta : TE} {tl th : TO} {X : List α → Prop} (h : P m c Γ ta (TLst T) fun xs => PO c Γ tl fun lo => PO c Γ th fun hi => X (cutX xs lo hi)) : P m c Γ (tSl (rSlL Kf) ta tl th) (TLst T) X := .mk fun σ H Q e k =>
  h.run σ H _ e fun v x H1 e1 f1 r1 hb => hb.run σ H1 _ e1 fun lo H2 e2 f2 hc => hc.run σ H2 _ e2 fun hi H3 e3 f3 hx => by
    obtain ⟨a, vs, rfl, _, ha, l, p⟩ := (TLst T).stp ((TLst T).stp r1 (e1.stp_fx f2)) (e2.stp_fx f3)
    exact ⟨a, vs, rfl, .inl (.inl ha), fun q hq => k _ _ _ (e3.ex (.new hq)) (((f1.trans f2).trans f3).exr (.new hq)) ⟨q, _, rfl, (.inl (e3.nw hq)), upd_same, Nat.le_trans (cutV_len _ _ _) l, (cut_pair p lo hi).imp fun _ _ z => T.stp z (.of_ex (.new hq))⟩ hx⟩
theorem p_cat {ta tb : TE} {X : List α → Prop} (h : P m c Γ ta (TLst T) fun xs => P m c Γ tb (TLst T) fun ys => xs.length + ys.length ≤ sizeLine ∧ X (xs ++ ys)) : P m c Γ (tOp rCat ta tb) (TLst T) X := .mk fun σ H Q e k =>
  h.run σ H _ e fun v x H1 e1 f1 r1 hb => hb.run σ H1 _ e1 fun w y H2 e2 f2 r2 hx => by
    obtain ⟨a, vs, rfl, _, ha, l, p⟩ := (TLst T).stp r1 (e1.stp_fx f2)
    obtain ⟨b, ws, rfl, _, hb, l', p'⟩ := r2
    have hl : vs.length + ws.length ≤ sizeLine := by rw [p.len, p'.len]; exact hx.1
    exact ⟨a, b, vs, ws, rfl, rfl, ha, hb, hl, fun q hq => k _ _ _ (e2.ex (.new hq)) ((f1.trans f2).exr (.new hq)) ⟨q, _, rfl, (.inl (e2.nw hq)), upd_same, by rw [List.length_append]; exact hl, (p.app p').imp fun _ _ z => T.stp z (.of_ex (.new hq))⟩ hx.2⟩
theorem p_listof {ta : TE} {X : List α → Prop} (h : P m c Γ ta (TLst T) X) : P m c Γ (tCB (fun xs H Q => ∃ p ys, xs = [.ref p] ∧ (SqL Kf H p ys ∨ SqT Kf H p ys) ∧ ∀ l, H l = none → Q (.ref l) (upd H l (.lst ys))) (tCons ta tNil)) (TLst T) X :=
  p_cb1 (T := TLst T) (W := TLst T) (f := fun xs => xs) (C := fun _ => True) (fun S H v x Q ⟨a, vs, e, _, ha, l, p⟩ _ k => ⟨a, vs, by rw [e], .inl (.inl (.inl ha)), fun q hq => k _ _ (.new hq) ⟨q, _, rfl, .inr hq, upd_same, l, p.imp fun _ _ z => T.mono (fun _ => .inl) (.of_ex (.new hq)) z⟩⟩) (h.imp fun _ z => ⟨trivial, z⟩)
theorem p_listofT {ta : TE} {X : List α → Prop} (h : P m c Γ ta (TTup T) X) : P m c Γ (tCB (fun xs H Q => ∃ p ys, xs = [.ref p] ∧ (SqL Kf H p ys ∨ SqT Kf H p ys) ∧ ∀ l, H l = none → Q (.ref l) (upd H l (.lst ys))) (tCons ta tNil)) (TLst T) X :=
  p_cb1 (T := TTup T) (W := TLst T) (f := fun xs => xs) (C := fun _ => True) (fun S H v x Q ⟨a, vs, e, _, ha, l, p⟩ _ k => ⟨a, vs, by rw [e], .inr (.inl (.inl ha)), fun q hq => k _ _ (.new hq) ⟨q, _, rfl, .inr hq, upd_same, l, p.imp fun _ _ z => T.mono (fun _ => .inl) (.of_ex (.new hq)) z⟩⟩) (h.imp fun _ z => ⟨trivial, z⟩)
theorem p_tupof {ta : TE} {X : List α → Prop} (h : P m c Γ ta (TLst T) X) : P m c Γ (tCB (fun xs H Q => ∃ p ys, xs = [.ref p] ∧ ((SqL Kf H p ys ∧ ∀ l, H l = none → Q (.ref l) (upd H l (.tup ys))) ∨ (SqT Kf H p ys ∧ Q (.ref p) H))) (tCons ta tNil)) (TTup T) X :=
  p_cb1 (T := TLst T) (W := TTup T) (f := fun xs => xs) (C := fun _ => True) (fun S H v x Q ⟨a, vs, e, _, ha, l, p⟩ _ k => ⟨a, vs, by rw [e], .inl ⟨.inl (.inl ha), fun q hq => k _ _ (.new hq) ⟨q, _, rfl, .inr hq, upd_same, l, p.imp fun _ _ z => T.mono (fun _ => .inl) (.of_ex (.new hq)) z⟩⟩⟩) (h.imp fun _ z => ⟨trivial, z⟩)
/-! documents -/
theorem p_isD {ta : TE} {G : Gen} {n : Nat} {X : Bool → Prop} (h : P false c Γ ta (TDoc G n) fun d => X d.isOb) : P m c Γ (tCB (rIsi Kf) (tCons ta (tCons (tC (.ty "dict")) tNil))) TBool X := .mk fun σ H Q e k =>
  h.run σ H _ e fun v d H1 e1 f1 r1 hx => by
    obtain ⟨t, ty, kit⟩ := isiD Kf r1
    exact ⟨v, .ty "dict", t, _, _, rfl, .ty _, ty, kit, k _ _ H1 e1 f1 rfl hx⟩
theorem p_isL {ta : TE} {G : Gen} {n : Nat} {X : Bool → Prop} (h : P false c Γ ta (TDoc G n) fun d => X d.isLs) : P m c Γ (tCB (rIsi Kf) (tCons ta (tCons (tC (.ty "list")) tNil))) TBool X := .mk fun σ H Q e k =>
  h.run σ H _ e fun v d H1 e1 f1 r1 hx => by
    obtain ⟨t, ty, kit⟩ := isiL Kf r1
    exact ⟨v, .ty "list", t, _, _, rfl, .ty _, ty, kit, k _ _ H1 e1 f1 rfl hx⟩
/-- isinstance(x, list) where x is a list of things -/
theorem p_isLst {ta : TE} {X : Bool → Prop} (h : P false c Γ ta (TLst T) fun _ => X true) : P m c Γ (tCB (rIsi Kf) (tCons ta (tCons (tC (.ty "list")) tNil))) TBool X := .mk fun σ H Q e k =>
  h.run σ H _ e fun v d H1 e1 f1 ⟨a, vs, hv, _, ha, _⟩ hx => by
    subst hv
    exact ⟨.ref a, .ty "list", _, _, _, rfl, .ty _, tyx_ls (.inl ha), kit_ty (r := true) (by decide +kernel), k _ _ H1 e1 f1 rfl hx⟩
theorem dget_doc {S : Addr → Prop} {G : Gen} {H : Hp} {n : Nat} {a : Addr} {ms : List (Str × V)} (r : H a = some (.dK (kvsOf ms))) (k : Str) : DGet H a (.str k) (valV ms k) := by
  have := DGet.k (k := Sum.inr k) r
  rwa [valV_inK] at this
theorem ob_of {S : Addr → Prop} {G : Gen} {H : Hp} {n : Nat} {v : V} {f : Str → D} (h : Dc S G H n v (.ob f)) : ∃ m a ms, n = m + 1 ∧ v = .ref a ∧ S a ∧ H a = some (.dK (kvsOf ms)) ∧ Mem S G H m ms f := by
  refine Dc.cases h (fun m _ _ e => by cases e) (fun m a xs _ _ _ _ _ e => by cases e) fun m a ms g e1 e2 s r M e => ?_
  injection e with e
  subst e
  exact ⟨m, a, ms, e1, e2, s, r, M⟩
theorem mem_val {S : Addr → Prop} {G : Gen} {H : Hp} {n : Nat} {ms : List (Str × V)} {f : Str → D} (M : Mem S G H n ms f) (k : Str) : (valV ms k).isSome = !(f k).isNil := by
  cases e : valV ms k with
  | none => rw [M.no k e]; rfl
  | some u => rw [(M.at' k u e).ne_nil]; rfl
/-- key in d -/
theorem p_din {G : Gen} {n : Nat} {ta tb : TE} {X : Bool → Prop} (h : P false c Γ ta TStr fun k => P false c Γ tb (TDoc G n) fun d => ∃ f, d = .ob f ∧ X (!(f k).isNil)) : P m c Γ (tDIn ta tb) TBool X := .mk fun σ H Q e k =>
  h.run σ H _ e fun v x H1 e1 f1 r1 hb => hb.run σ H1 _ e1 fun w d H2 e2 f2 r2 hx => by
    obtain ⟨f, rfl, hx⟩ := hx
    obtain ⟨m, a, ms, _, rfl, s, r, M⟩ := ob_of r2
    obtain rfl : v = .str x := r1
    exact ⟨a, _, rfl, dget_doc (S := Sx c Γ σ) (G := G) (n := m) r x, k _ _ H2 e2 (f1.trans f2) rfl (by rw [mem_val M]; exact hx)⟩
theorem p_dnotin {G : Gen} {n : Nat} {ta tb : TE} {X : Bool → Prop} (h : P false c Γ ta TStr fun k => P false c Γ tb (TDoc G n) fun d => ∃ f, d = .ob f ∧ X (f k).isNil) : P m c Γ (tDNotIn ta tb) TBool X := .mk fun σ H Q e k =>
  h.run σ H _ e fun v x H1 e1 f1 r1 hb => hb.run σ H1 _ e1 fun w d H2 e2 f2 r2 hx => by
    obtain ⟨f, rfl, hx⟩ := hx
    obtain ⟨m, a, ms, _, rfl, s, r, M⟩ := ob_of r2
    obtain rfl : v = .str x := r1
    exact ⟨a, _, rfl, dget_doc (S := Sx c Γ σ) (G := G) (n := m) r x, k _ _ H2 e2 (f1.trans f2) rfl (by rw [mem_val M, Bool.not_not]; exact hx)⟩
/-- d[key] -/
theorem p_dget {G : Gen} {n : Nat} {ta tb : TE} {X : D → Prop} (h : P m c Γ ta (TDoc G (n + 1)) fun d => P m c Γ tb TStr fun k => ∃ f, d = .ob f ∧ (f k).isNil = false ∧ X (f k)) : P m c Γ (tDGet ta tb) (TDoc G n) X := .mk fun σ H Q e k =>
  h.run σ H _ e fun v d H1 e1 f1 r1 hb => hb.run σ H1 _ e1 fun w x H2 e2 f2 r2 hx => by
    obtain ⟨f, rfl, hn, hx⟩ := hx
    obtain ⟨m, a, ms, em, rfl, s, r, M⟩ := ob_of ((TDoc G (n + 1)).stp r1 (e1.stp_fx f2))
    cases em
    obtain rfl : w = .str x := r2
    have hv := mem_val M x
    rw [hn] at hv
    obtain ⟨u, hu⟩ := Option.isSome_iff_exists.mp hv
    exact ⟨a, u, rfl, by rw [← hu]; exact dget_doc (S := Sx c Γ σ) (G := G) (n := n) r x, k _ _ H2 e2 (f1.trans f2) (M.at' x u hu) hx⟩
/-- d[key], the levels as they were -/
theorem p_dgetL {G : Gen} {n : Nat} {ta tb : TE} {X : D → Prop} (h : P m c Γ ta (TDoc G n) fun d => P m c Γ tb TStr fun k => ∃ f, d = .ob f ∧ (f k).isNil = false ∧ X (f k)) : P m c Γ (tDGet ta tb) (TDoc G n) X := .mk fun σ H Q e k =>
  h.run σ H _ e fun v d H1 e1 f1 r1 hb => hb.run σ H1 _ e1 fun w x H2 e2 f2 r2 hx => by
    obtain ⟨f, rfl, hn, hx⟩ := hx
    obtain ⟨m, a, ms, rfl, rfl, s, r, M⟩ := ob_of ((TDoc G n).stp r1 (e1.stp_fx f2))
    obtain rfl : w = .str x := r2
    have hv := mem_val M x
    rw [hn] at hv
    obtain ⟨u, hu⟩ := Option.isSome_iff_exists.mp hv
    exact ⟨a, u, rfl, by rw [← hu]; exact dget_doc (S := Sx c Γ σ) (G := G) (n := m) r x, k _ _ H2 e2 (f1.trans f2) ((M.at' x u hu).lift (Nat.le_succ _)) hx⟩
/-- a new object that is not yet to be seen -/
def WCtx.hide (c : WCtx) (p : Addr) : WCtx := { c with N := fun b => c.N b ∨ b = p }
theorem sx_hide {σ : L2.St} {p b : Addr} : Sx (c.hide p) Γ σ b ↔ Sx c Γ σ b ∧ b ≠ p := ⟨fun h => ⟨⟨h.1, h.2.1, fun z => h.2.2.1 (.inl z), h.2.2.2⟩, fun z => h.2.2.1 (.inr z)⟩, fun h => ⟨h.1.1, h.1.2.1, fun z => z.elim h.1.2.2.1 h.2, h.1.2.2.2⟩⟩
theorem WEnv.noOwnA {σ : L2.St} {H : Hp} (e : WEnv c Γ σ H) {p : Addr} (hp : H p = none) : ¬ OwnA Γ σ p := fun z => by
  obtain ⟨⟨u, hu, _⟩, _⟩ := e.ownA z
  rw [hp] at hu; cases hu
theorem WEnv.hide {σ : L2.St} {H H' : Hp} (e : WEnv c Γ σ H) {p : Addr} (hp : H p = none) (x : Ex H H') (hH : H' p ≠ none) : WEnv (c.hide p) Γ σ H' := by
  have nD : ∀ b, Sx c Γ σ b ∧ H b ≠ none → Sx (c.hide p) Γ σ b := fun b hb => sx_hide.mpr ⟨hb.1, fun z => hb.2 (by rw [z]; exact hp)⟩
  refine ⟨e.len, e.fr.exr x, fun b hb => hb.elim (fun z => x.ne b (e.nn b z)) (fun z => by rw [z]; exact hH), fun b hb z => z.elim (e.on b hb) (fun y => e.noOwnA hp (by rw [← y]; exact hb)), fun b hb => x.ne b (e.en b hb), e.oe, fun t ht => t.T.mono nD (.of_ex x) (t.T.alloc (e.tm t ht)), fun i s w' h1 h2 => ?_, e.sep⟩
  refine (e.at' i s w' h1 h2).alloc.mono nD (.of_ex x) (fun _ z => z) (.of_ex x) fun o n a h3 h4 b hb => ?_
  obtain ⟨⟨u, hu, pl⟩, _⟩ := e.ownA (a := b) ⟨i, o, n, a, by rw [h1, h3], by rw [h2, h4], hb⟩
  rw [hu]
  exact x.go b u hu (pl_tbl pl)
theorem WEnv.unhide {σ : L2.St} {H : Hp} {p : Addr} (e : WEnv (c.hide p) Γ σ H) : WEnv c Γ σ H := by
  have sub : ∀ b, Sx (c.hide p) Γ σ b → Sx c Γ σ b := fun b hb => (sx_hide.mp hb).1
  exact ⟨e.len, e.fr, fun b h => e.nn b (.inl h), fun b h z => e.on b h (.inl z), e.en, e.oe, fun t ht => t.T.imp (e.tm t ht) sub, fun i s w' h1 h2 => (e.at' i s w' h1 h2).mono sub .refl (fun _ z => z) .refl fun _ _ _ _ _ _ _ => rfl, e.sep⟩
/-- the hidden object is written -/
theorem WEnv.hput {σ : L2.St} {H : Hp} {p : Addr} {u o : HO} (e : WEnv (c.hide p) Γ σ H) (h0 : c.H0 p = none) (nE : ¬ c.E p) (hu : H p = some u) (pl : isPl u = true) : WEnv (c.hide p) Γ σ (upd H p o) := by
  have no : ¬ OwnA Γ σ p := fun z => e.on p z (.inr rfl)
  have f : Fr (fun b => b = p) H (upd H p o) := .put hu pl
  exact e.go ⟨fun b u s z h => f.go b u (sx_hide.mp s).2 h z, f.ne, f.tab⟩ ⟨fun b u s z h => f.go b u (fun y => nE (by rw [← y]; exact s)) h z, f.ne, f.tab⟩ (fun a ha => upd_ne fun z => no (by rw [← z]; exact ha)) (e.fr.trans' f fun b hb => .inr (by rw [hb]; exact h0))
/-- {key: e} -/
theorem p_one {G : Gen} {n : Nat} {X : D → Prop} {k : Str} {te : TE} (h : ∀ c', P m c' Γ te (TDoc G n) fun d => k ∈ G.KS ∧ X (.ob fun j => if j = k then d else .nil)) : P m c Γ (tDisp [(tC (.str k), te)]) (TDoc G (n + 1)) X := .mk fun σ H Q e q p hp => by
  have x0 : Ex H (upd H p (.dK [])) := .new hp
  have eh := e.hide hp x0 (by rw [upd_same]; exact fun z => nomatch z)
  refine (h (c.hide p)).run σ _ _ eh fun v d H1 e1 f1 r1 hx => ?_
  have hp1 : H1 p = some (.dK []) := f1.go p _ (e.noOwnA hp) upd_same rfl
  have e2 : WEnv (c.hide p) Γ σ (upd H1 p (.dK (mergeK [] [(Sum.inr k, v)]))) := e1.hput (e.fr.fresh hp) (fun z => e.en p z hp) hp1 rfl
  have fp : Fr (fun b => b = p) H1 (upd H1 p (.dK (mergeK [] [(Sum.inr k, v)]))) := .put hp1 rfl
  refine ⟨hp1, [(Sum.inr k, v)], rfl, (by show 1 ≤ 15; decide), q _ _ _ e2.unhide ((FrO.of_ex x0 |>.trans ⟨f1.toFr, f1.kept⟩).put hp (e.noOwnA hp) hp1 e) ?_ hx.2⟩
  have r2 : Dc (Fxm m (c.hide p) Γ σ) G H1 n v d := r1
  refine Dc.ob (ms := [(k, v)]) (.inl (e.nw hp)) upd_same ?_
  have r3 : Dc (Fxm m c Γ σ) G (upd H1 p (.dK (mergeK [] [(Sum.inr k, v)]))) n v d := (r2.off fun z => z.elim (fun z => (sx_hide.mp z).2 rfl) fun z => z.2.elim (fun y => e.en p y hp) fun y => e.noOwnA hp y.a).imp fun b hb => hb.imp (fun h => (sx_hide.mp h).1) id
  exact mem_one1 hx.1 r3
end
end TP

namespace TP
open PySem PySem.Spec PyProof.Rows L2
/-! ### typed readings: defs -/
section
variable [TabL]
variable {α β γ δ ε : Type} {T : Ty α} {U : Ty β} {V' : Ty δ} {W : Ty γ}
theorem WEnv.start {S : Addr → Prop} {H : Hp} (tb : TabA H) (ts : List Tmp) (k : Nat) (h : ∀ t ∈ ts, t.T.R S H t.v t.x) : WEnv ⟨H, S, fun _ => False, fun _ => False, fun _ => False, [], fun _ z => z.elim, tb⟩ (ts.map (fun t => WSlot.val t.T t.x) ++ List.replicate k .un) (ts.map (fun t => some t.v) ++ List.replicate k none) H := by
  have no : ∀ (i : Nat) o n, (ts.map (fun t => WSlot.val t.T t.x) ++ List.replicate k .un)[i]? ≠ some (.own o n) := fun i o n z => by
    have hm := List.mem_of_getElem? z
    rcases List.mem_append.mp hm with hm | hm
    · obtain ⟨t, _, e⟩ := List.mem_map.mp hm; cases e
    · cases (List.mem_replicate.mp hm).2
  refine ⟨by simp, .refl, fun b z => z.elim, fun b ⟨i, o, n, _, z, _⟩ => absurd z (no i o n), fun b z => z.elim, fun b _ => id, fun t z => (by cases z), fun i s w h1 h2 => ?_, fun i j o o' n n' a b x _ z => absurd z (no i o n)⟩
  have sub : ∀ b, S b → Sx ⟨H, S, fun _ => False, fun _ => False, fun _ => False, [], fun _ z => z.elim, tb⟩ (ts.map (fun t => WSlot.val t.T t.x) ++ List.replicate k .un) (ts.map (fun t => some t.v) ++ List.replicate k none) b := fun b hb => ⟨.inl hb, fun ⟨i, o, n, _, z, _⟩ => no i o n z, id, id⟩
  by_cases hi : i < ts.length
  · rw [List.getElem?_append_left (by simpa using hi), List.getElem?_map, List.getElem?_eq_getElem hi] at h1 h2
    cases h1; cases h2
    exact ⟨_, rfl, ts[i].T.imp (h _ (List.getElem_mem hi)) sub⟩
  · rw [List.getElem?_append_right (by simpa using hi)] at h1 h2
    have e1 := (List.mem_replicate.mp (List.mem_of_getElem? h1)).2
    have e2 := (List.mem_replicate.mp (List.mem_of_getElem? h2)).2
    rw [e1, e2]
    rfl
theorem WEnv.startO {S : Addr → Prop} {H : Hp} (tb : TabA H) {o : Ow} {s : Addr} (hs : ∀ b, b = s ∨ o.fp b → ¬ S b) (ho : o.R S H s) (ts : List Tmp) (k : Nat) (h : ∀ t ∈ ts, t.T.R S H t.v t.x) : WEnv ⟨H, S, fun b => b = s ∨ o.fp b, fun _ => False, fun _ => False, [], fun _ z => z.elim, tb⟩ (.own (o.pin s) false :: (ts.map (fun t => WSlot.val t.T t.x) ++ List.replicate k .un)) (some (.ref s) :: (ts.map (fun t => some t.v) ++ List.replicate k none)) H := by
  have no : ∀ (i : Nat) o n, (ts.map (fun t => WSlot.val t.T t.x) ++ List.replicate k .un)[i]? ≠ some (.own o n) := fun i o n z => by
    have hm := List.mem_of_getElem? z
    rcases List.mem_append.mp hm with hm | hm
    · obtain ⟨t, _, e⟩ := List.mem_map.mp hm; cases e
    · cases (List.mem_replicate.mp hm).2
  have own : ∀ a, OwnA (.own (o.pin s) false :: (ts.map (fun t => WSlot.val t.T t.x) ++ List.replicate k .un)) (some (.ref s) :: (ts.map (fun t => some t.v) ++ List.replicate k none)) a → (a = s ∨ o.fp a) := fun a ⟨i, o', n, b, z, y, hb⟩ => by
    cases i with
    | zero => cases z; cases y; exact hb
    | succ i => exact absurd z (no i o' n)
  have sub : ∀ b, S b → Sx ⟨H, S, fun b => b = s ∨ o.fp b, fun _ => False, fun _ => False, [], fun _ z => z.elim, tb⟩ (.own (o.pin s) false :: (ts.map (fun t => WSlot.val t.T t.x) ++ List.replicate k .un)) (some (.ref s) :: (ts.map (fun t => some t.v) ++ List.replicate k none)) b := fun b hb => ⟨.inl hb, fun z => hs b (own b z) hb, id, id⟩
  refine ⟨by simp, .refl, fun b z => z.elim, fun b _ => id, fun b z => z.elim, fun b _ => id, fun t z => (by cases z), fun i s' w h1 h2 => ?_, fun i j o1 o2 n n' a b x ij z1 z2 _ _ _ _ => ?_⟩
  · cases i with
    | zero =>
      cases h1; cases h2
      exact ⟨s, rfl, ⟨rfl, o.mono sub .refl (fun _ _ => rfl) ho⟩, fun b hb => hb⟩
    | succ i =>
      rw [List.getElem?_cons_succ] at h1 h2
      by_cases hi : i < ts.length
      · rw [List.getElem?_append_left (by simpa using hi), List.getElem?_map, List.getElem?_eq_getElem hi] at h1 h2
        cases h1; cases h2
        exact ⟨_, rfl, ts[i].T.imp (h _ (List.getElem_mem hi)) sub⟩
      · rw [List.getElem?_append_right (by simpa using hi)] at h1 h2
        have e1 := (List.mem_replicate.mp (List.mem_of_getElem? h1)).2
        have e2 := (List.mem_replicate.mp (List.mem_of_getElem? h2)).2
        rw [e1, e2]
        rfl
  · cases i with
    | zero =>
      cases j with
      | zero => exact ij rfl
      | succ j => exact no j o2 n' z2
    | succ i => exact no i o1 n z1
/-- what a def's body is to reach -/
def kf (W : Ty γ) (Post : γ → Prop) : Ko γ := { T := W, X := fun _ z => Post z, nx := fun _ => ∃ z, (∀ S H, W.R S H .non z) ∧ Post z }
/-- the own thing at s is still what it was -/
def OwnIs (o : Ow) (s : Addr) (Γ : List WSlot) : Prop := ∃ o' : Ow, Γ[0]? = some (WSlot.own (o'.pin s) false) ∧ ∀ S H, o'.R S H s → o.R S H s
theorem ownIs_self {o : Ow} {s : Addr} {Γ : List WSlot} : OwnIs o s (.own (o.pin s) false :: Γ) := ⟨o, rfl, fun _ _ h => h⟩
def kg (o : Ow) (s : Addr) (W : Ty γ) (Post : γ → Prop) : Ko γ := { T := W, X := fun Γ z => OwnIs o s Γ ∧ Post z, nx := fun Γ => OwnIs o s Γ ∧ ∃ z, (∀ S H, W.R S H .non z) ∧ Post z }
theorem kf_ok {S : Addr → Prop} {H : Hp} {tb : TabA H} {Q : VK} {Post : γ → Prop} (q : ∀ r z H', Ex H H' → W.R (fun b => S b ∨ H b = none) H' r z → Post z → Q r H') : KoOk ⟨H, S, fun _ => False, fun _ => False, fun _ => False, [], fun _ z => z.elim, tb⟩ (kf W Post) { nx := fun _ H' => Q .non H', rt := Q } :=
  ⟨fun v y Γ' σ' H' e r x => q v y H' e.fr.ex (W.imp r fun b hb => hb.1) x, fun Γ' σ' H' e ⟨z, r, x⟩ => q .non z H' e.fr.ex (r _ _) x, fun _ _ _ _ z => z.elim, fun _ _ _ _ z => z.elim⟩
theorem kg_ok {S : Addr → Prop} {H : Hp} {tb : TabA H} {Q : VK} {o : Ow} {s : Addr} {Post : γ → Prop} (q : ∀ r z H', Fr (fun b => b = s ∨ o.fp b) H H' → o.R (fun b => S b ∨ H b = none) H' s → W.R (fun b => S b ∨ H b = none) H' r z → Post z → Q r H') : KoOk ⟨H, S, fun b => b = s ∨ o.fp b, fun _ => False, fun _ => False, [], fun _ z => z.elim, tb⟩ (kg o s W Post) { nx := fun _ H' => Q .non H', rt := Q } := by
  have own : ∀ {Γ' σ' H'}, WEnv ⟨H, S, fun b => b = s ∨ o.fp b, fun _ => False, fun _ => False, [], fun _ z => z.elim, tb⟩ Γ' σ' H' → OwnIs o s Γ' → o.R (fun b => S b ∨ H b = none) H' s := fun {Γ' σ' H'} e h => by
    obtain ⟨o', h, hc⟩ := h
    obtain ⟨a, _, r, z⟩ := e.own h
    obtain rfl : a = s := r.1
    exact o.mono (fun b hb => hb.1) .refl (fun _ _ => rfl) (hc _ _ r.2)
  exact ⟨fun v y Γ' σ' H' e r ⟨h, x⟩ => q v y H' e.fr (own e h) (W.imp r fun b hb => hb.1) x, fun Γ' σ' H' e ⟨h, z, r, x⟩ => q .non z H' e.fr (own e h) (r _ _) x, fun _ _ _ _ z => z.elim, fun _ _ _ _ z => z.elim⟩
theorem enter0 {Post : γ → Prop} {vs : List V} {H : Hp} {Q : VK} {E : XK} {N : List Str} {t : TS} (h : pf0 W Post vs H Q E) {Γ0 : List WSlot} (hΓ : Γ0 = List.replicate N.length .un) (b : ∀ c, Run c Γ0 t (kf W Post)) : t { nx := fun _ H' => Q .non H', rt := Q } (start N vs) H := by
  subst hΓ
  obtain ⟨rfl, tb, q⟩ := h
  have := WEnv.start (S := fun _ => False) (H := H) tb [] N.length (fun t z => by cases z)
  exact (b _).run _ _ _ this (kf_ok fun r z H' x w => q r z H' x (W.imp w fun b hb => hb.elim False.elim id))
theorem enter1 {Pre : α → Prop} {Post : α → γ → Prop} {vs : List V} {H : Hp} {Q : VK} {E : XK} {N : List Str} {t : TS} (h : pf1 T W Pre Post vs H Q E) {Γ0 : List WSlot} (hΓ : Γ0 = List.replicate (N.length - 1) .un) (b : ∀ c x, Pre x → Run c (.val T x :: Γ0) t (kf W (Post x))) : t { nx := fun _ H' => Q .non H', rt := Q } (start N vs) H := by
  subst hΓ
  obtain ⟨S, v, x, rfl, tb, r1, hp, q⟩ := h
  have := WEnv.start (S := S) (H := H) tb [⟨T, x, v⟩] (N.length - 1) (fun t z => by rw [List.mem_singleton.mp z]; exact r1)
  exact (b _ x hp).run _ _ _ this (kf_ok q)
theorem enter2 {Pre : α → β → Prop} {Post : α → β → γ → Prop} {vs : List V} {H : Hp} {Q : VK} {E : XK} {N : List Str} {t : TS} (h : pf2 T U W Pre Post vs H Q E) {Γ0 : List WSlot} (hΓ : Γ0 = List.replicate (N.length - 2) .un) (b : ∀ c x y, Pre x y → Run c (.val T x :: .val U y :: Γ0) t (kf W (Post x y))) : t { nx := fun _ H' => Q .non H', rt := Q } (start N vs) H := by
  subst hΓ
  obtain ⟨S, v, w, x, y, rfl, tb, r1, r2, hp, q⟩ := h
  have := WEnv.start (S := S) (H := H) tb [⟨T, x, v⟩, ⟨U, y, w⟩] (N.length - 2) (fun t z => by
    rcases List.mem_cons.mp z with z | z
    · rw [z]; exact r1
    · rw [List.mem_singleton.mp z]; exact r2)
  exact (b _ x y hp).run _ _ _ this (kf_ok q)
theorem enter3 {Pre : α → β → δ → Prop} {Post : α → β → δ → γ → Prop} {vs : List V} {H : Hp} {Q : VK} {E : XK} {N : List Str} {t : TS} (h : pf3 T U V' W Pre Post vs H Q E) {Γ0 : List WSlot} (hΓ : Γ0 = List.replicate (N.length - 3) .un) (b : ∀ c x y z, Pre x y z → Run c (.val T x :: .val U y :: .val V' z :: Γ0) t (kf W (Post x y z))) : t { nx := fun _ H' => Q .non H', rt := Q } (start N vs) H := by
  subst hΓ
  obtain ⟨S, v, w, u, x, y, z, rfl, tb, r1, r2, r3, hp, q⟩ := h
  have := WEnv.start (S := S) (H := H) tb [⟨T, x, v⟩, ⟨U, y, w⟩, ⟨V', z, u⟩] (N.length - 3) (fun t z => by
    rcases List.mem_cons.mp z with z | z
    · rw [z]; exact r1
    rcases List.mem_cons.mp z with z | z
    · rw [z]; exact r2
    · rw [List.mem_singleton.mp z]; exact r3)
  exact (b _ x y z hp).run _ _ _ this (kf_ok q)
theorem Ow.ne {o : Ow} {S : Addr → Prop} {H : Hp} {s : Addr} (h : o.R S H s) : H s ≠ none := by
  obtain ⟨u, hu, _⟩ := o.has h s (.inl rfl)
  rw [hu]
  exact fun z => nomatch z
theorem enterg0 {o : Ow} {Post : γ → Prop} {vs : List V} {H : Hp} {Q : VK} {E : XK} {N : List Str} {t : TS} (h : pg0 o W Post vs H Q E) {Γ0 : List WSlot} (hΓ : Γ0 = List.replicate (N.length - 1) .un) (b : ∀ c s, Run c (.own (o.pin s) false :: Γ0) t (kg o s W Post)) : t { nx := fun _ H' => Q .non H', rt := Q } (start N vs) H := by
  subst hΓ
  obtain ⟨S, s, rfl, tb, ho, hs, q⟩ := h
  have := WEnv.startO (S := S) (H := H) tb hs ho [] (N.length - 1) (fun t z => by cases z)
  exact (b _ s).run _ _ _ this (kg_ok q)
theorem enterg1 {o : Ow} {Pre : α → Prop} {Post : α → γ → Prop} {vs : List V} {H : Hp} {Q : VK} {E : XK} {N : List Str} {t : TS} (h : pg1 o T W Pre Post vs H Q E) {Γ0 : List WSlot} (hΓ : Γ0 = List.replicate (N.length - 2) .un) (b : ∀ c s x, Pre x → Run c (.own (o.pin s) false :: .val T x :: Γ0) t (kg o s W (Post x))) : t { nx := fun _ H' => Q .non H', rt := Q } (start N vs) H := by
  subst hΓ
  obtain ⟨S, s, v, x, rfl, tb, ho, hs, r1, hp, q⟩ := h
  have := WEnv.startO (S := S) (H := H) tb hs ho [⟨T, x, v⟩] (N.length - 2) (fun t z => by rw [List.mem_singleton.mp z]; exact r1)
  exact (b _ s x hp).run _ _ _ this (kg_ok q)
theorem enterg2 {o : Ow} {Pre : α → β → Prop} {Post : α → β → γ → Prop} {vs : List V} {H : Hp} {Q : VK} {E : XK} {N : List Str} {t : TS} (h : pg2 o T U W Pre Post vs H Q E) {Γ0 : List WSlot} (hΓ : Γ0 = List.replicate (N.length - 3) .un) (b : ∀ c s x y, Pre x y → Run c (.own (o.pin s) false :: .val T x :: .val U y :: Γ0) t (kg o s W (Post x y))) : t { nx := fun _ H' => Q .non H', rt := Q } (start N vs) H := by
  subst hΓ
  obtain ⟨S, s, v, w, x, y, rfl, tb, ho, hs, r1, r2, hp, q⟩ := h
  have := WEnv.startO (S := S) (H := H) tb hs ho [⟨T, x, v⟩, ⟨U, y, w⟩] (N.length - 3) (fun t z => by
    rcases List.mem_cons.mp z with z | z
    · rw [z]; exact r1
    · rw [List.mem_singleton.mp z]; exact r2)
  exact (b _ s x y hp).run _ _ _ this (kg_ok q)
theorem enterg3 {o : Ow} {Pre : α → β → δ → Prop} {Post : α → β → δ → γ → Prop} {vs : List V} {H : Hp} {Q : VK} {E : XK} {N : List Str} {t : TS} (h : pg3 o T U V' W Pre Post vs H Q E) {Γ0 : List WSlot} (hΓ : Γ0 = List.replicate (N.length - 4) .un) (b : ∀ c s x y z, Pre x y z → Run c (.own (o.pin s) false :: .val T x :: .val U y :: .val V' z :: Γ0) t (kg o s W (Post x y z))) : t { nx := fun _ H' => Q .non H', rt := Q } (start N vs) H := by
  subst hΓ
  obtain ⟨S, s, v, w, u, x, y, z, rfl, tb, ho, hs, r1, r2, r3, hp, q⟩ := h
  have := WEnv.startO (S := S) (H := H) tb hs ho [⟨T, x, v⟩, ⟨U, y, w⟩, ⟨V', z, u⟩] (N.length - 4) (fun t z => by
    rcases List.mem_cons.mp z with z | z
    · rw [z]; exact r1
    rcases List.mem_cons.mp z with z | z
    · rw [z]; exact r2
    · rw [List.mem_singleton.mp z]; exact r3)
  exact (b _ s x y z hp).run _ _ _ this (kg_ok q)
/-! how long the arguments are -/
theorem len0 {Post : γ → Prop} {vs : List V} {H : Hp} {Q : VK} {E : XK} (h : pf0 W Post vs H Q E) : vs.length = 0 := by rw [h.1]; rfl
theorem len1 {Pre : α → Prop} {Post : α → γ → Prop} {vs : List V} {H : Hp} {Q : VK} {E : XK} (h : pf1 T W Pre Post vs H Q E) : vs.length = 1 := by obtain ⟨_, _, _, rfl, _⟩ := h; rfl
theorem len2 {Pre : α → β → Prop} {Post : α → β → γ → Prop} {vs : List V} {H : Hp} {Q : VK} {E : XK} (h : pf2 T U W Pre Post vs H Q E) : vs.length = 2 := by obtain ⟨_, _, _, _, _, rfl, _⟩ := h; rfl
theorem len3 {Pre : α → β → δ → Prop} {Post : α → β → δ → γ → Prop} {vs : List V} {H : Hp} {Q : VK} {E : XK} (h : pf3 T U V' W Pre Post vs H Q E) : vs.length = 3 := by obtain ⟨_, _, _, _, _, _, _, rfl, _⟩ := h; rfl
theorem leng0 {o : Ow} {Post : γ → Prop} {vs : List V} {H : Hp} {Q : VK} {E : XK} (h : pg0 o W Post vs H Q E) : vs.length = 1 := by obtain ⟨_, _, rfl, _⟩ := h; rfl
theorem leng1 {o : Ow} {Pre : α → Prop} {Post : α → γ → Prop} {vs : List V} {H : Hp} {Q : VK} {E : XK} (h : pg1 o T W Pre Post vs H Q E) : vs.length = 2 := by obtain ⟨_, _, _, _, rfl, _⟩ := h; rfl
theorem leng2 {o : Ow} {Pre : α → β → Prop} {Post : α → β → γ → Prop} {vs : List V} {H : Hp} {Q : VK} {E : XK} (h : pg2 o T U W Pre Post vs H Q E) : vs.length = 3 := by obtain ⟨_, _, _, _, _, _, rfl, _⟩ := h; rfl
theorem leng3 {o : Ow} {Pre : α → β → δ → Prop} {Post : α → β → δ → γ → Prop} {vs : List V} {H : Hp} {Q : VK} {E : XK} (h : pg3 o T U V' W Pre Post vs H Q E) : vs.length = 4 := by obtain ⟨_, _, _, _, _, _, _, _, rfl, _⟩ := h; rfl
end
end TP

namespace TP
open PySem PySem.Spec PyProof.Rows L2
/-! ### typed readings: more rules -/
section
variable [TabL]
variable {m : Bool} {c : WCtx} {Γ Γ' : List WSlot} {α β γ δ : Type} {T : Ty α} {U : Ty β} {W : Ty γ} {K : Ko δ} {Kf : PySem.W.Frag}
/-- an own object seen otherwise -/
theorem WEnv.asOwn {σ : L2.St} {H : Hp} (e : WEnv c Γ σ H) {i : Nat} {o o' : Ow} {n : Bool} {a : Addr} (hi : Γ[i]? = some (.own o n)) (ha : σ[i]? = some (some (.ref a))) (hf : ∀ b, o'.fp b → o.fp b) (r : o'.R (Sx c Γ σ) H a) : WEnv c (Γ.set i (.own o' n)) σ H :=
  e.mut hi ha .refl (fun b hb => .inl (hf b hb)) (o'.mono (fun b hb => ⟨hb, fun z => hb.2.1 ⟨i, o, n, a, hi, ha, .inr (hf b z)⟩⟩) .refl (fun _ _ => rfl) r)
theorem run_own {i : Nat} {o : Ow} {n : Bool} {ι : Type} (o' : ι → Ow) (p : ι → Prop) {t : TS} (hi : Γ[i]? = some (.own o n)) (hf : ∀ y b, (o' y).fp b → o.fp b) (f : ∀ S H a, o.R S H a → ∃ y, (o' y).R S H a ∧ p y) (h : ∀ y, p y → Run c (Γ.set i (.own (o' y) n)) t K) : Run c Γ t K := .mk fun D σ H e k => by
  obtain ⟨a, ha, r, hA⟩ := e.own hi
  obtain ⟨y, ry, py⟩ := f _ _ _ r
  exact (h y py).run D σ H (e.asOwn hi ha (hf y) ry) k
/-- what an own object is, whatever pins it -/
def OwAs (o o' : Ow) : Prop := ∀ S H a, o.R S H a → o'.R S H a
theorem owAs {o : Ow} : OwAs o o := fun _ _ _ h => h
theorem owPin {o : Ow} {s : Addr} : OwAs (o.pin s) o := fun _ _ _ h => h.2
/-- xs[k], xs an own list -/
theorem p_ixO {i : Nat} {o : Ow} {n : Bool} {xs : List α} {tb : TE} {X : α → Prop} (ho : OwAs o (OwLst T xs)) (hi : Γ[i]? = some (.own o n)) (h : P false c Γ tb TInt fun k => ∃ x, atI xs k = some x ∧ X x) : P m c Γ (tOp (rIxL Kf) (tVar i) tb) T X := .mk fun σ H Q e k => by
  obtain ⟨a, ha, _, _⟩ := e.own hi
  refine ⟨.ref a, ha, h.run σ H _ e fun v y H1 e1 f1 r1 hx => ?_⟩
  obtain ⟨a', ha', r, _⟩ := e1.own hi
  rw [ha] at ha'
  cases ha'
  obtain ⟨vs, hv, l, p⟩ := ho _ _ _ r
  obtain ⟨z, hz, q⟩ := hx
  obtain ⟨u, hu, ru⟩ := atI_pair p hz
  exact ⟨a, vs, y, u, rfl, r1, .inl (.inl hv), hu, k u z H1 e1 f1 (T.imp ru fun _ => .inl) q⟩
theorem p_lenO {i : Nat} {o : Ow} {n : Bool} {xs : List α} {X : Int → Prop} (ho : OwAs o (OwLst T xs)) (hi : Γ[i]? = some (.own o n)) (h : X xs.length) : P m c Γ (tCB (fun xs H Q => ∃ p ys, xs = [.ref p] ∧ (SqL Kf H p ys ∨ SqT Kf H p ys) ∧ Q (.int ys.length) H) (tCons (tVar i) tNil)) TInt X := .mk fun σ H Q e k => by
  obtain ⟨a, ha, r, _⟩ := e.own hi
  obtain ⟨vs, hv, l, p⟩ := ho _ _ _ r
  exact ⟨.ref a, ha, a, vs, rfl, .inl (.inl (.inl hv)), k _ _ H e .refl (by rw [p.len]; rfl) h⟩
theorem paired_set {F : V → α → Prop} {vs : List V} {xs : List α} (p : Paired F vs xs) {v : V} {x : α} (h : F v x) : ∀ j : Nat, Paired F (vs.set j v) (xs.set j x) := by
  induction p with
  | nil => intro j; exact .nil
  | cons f t ih =>
    intro j
    cases j with
    | zero => exact .cons h t
    | succ j => exact .cons f (ih j)
/-- xs[k] = e, xs an own list -/
theorem run_setO {i : Nat} {s : Addr} {n : Bool} {xs : List α} {te tk : TE} (hi : Γ[i]? = some (.own ((OwLst T xs).pin s) n)) (h : P true c Γ te T fun x => P true c Γ tk TInt fun k => ∃ j, ixN xs.length k = some j ∧ K.nx (Γ.set i (.own ((OwLst T (xs.set j x)).pin s) n))) : Run c Γ (tAsg te (gSub (tVar i) tk rSetL)) K := .mk fun D σ H e k =>
  h.run σ H _ e fun v x H1 e1 f1 r1 hb => by
    obtain ⟨a, ha, _, _⟩ := e1.own hi
    refine ⟨.ref a, ha, hb.run σ H1 _ e1 fun w y H2 e2 f2 r2 hx => ?_⟩
    obtain ⟨a', ha', ⟨hs, vs, hv, l, p⟩, _⟩ := e2.own hi
    rw [ha] at ha'
    cases ha'
    obtain ⟨j, hj, hx⟩ := hx
    have st : Kpt (Sx c Γ σ) H2 (upd H2 a (.lst (vs.set j v))) := e2.stp_mut hi ha (Fr.put hv rfl).inl
    refine ⟨a, vs, y, j, rfl, r2, hv, by rw [p.len]; exact hj, k.nx _ _ _ (e2.mut (o' := (OwLst T (xs.set j x)).pin s) hi ha (Fr.put hv rfl).inl (fun _ => False.elim) ⟨hs, _, upd_same, by rw [List.length_set]; exact l, (paired_set (p.imp fun _ _ z => T.stp z st) (T.stp (T.imp (T.stp r1 (e1.stp_fx f2)) fun _ => fx_t) st) j).imp fun _ _ z => T.imp z fun b hb => ⟨hb, id⟩⟩) hx⟩
/-! numbers -/
theorem p_intI {ta : TE} {X : Int → Prop} (h : P false c Γ ta TInt X) : P m c Γ (tCB (fun xs H Q => (∃ i, xs = [.int i] ∧ Q (.int i) H) ∨ ∃ k, xs = [.bl k] ∧ Q (.int (if k then 1 else 0)) H) (tCons ta tNil)) TInt X :=
  P.sca (fun _ _ _ _ _ h => h) (p_cb1 (T := TInt) (W := TInt) (f := fun x => x) (C := fun _ => True) (fun S H v x Q r _ k => .inl ⟨x, by rw [show v = .int x from r], k _ H (.refl H) rfl⟩) (h.imp fun _ z => ⟨trivial, z⟩))
theorem p_intB {ta : TE} {X : Int → Prop} (h : P false c Γ ta TBool fun b => X (if b then 1 else 0)) : P m c Γ (tCB (fun xs H Q => (∃ i, xs = [.int i] ∧ Q (.int i) H) ∨ ∃ k, xs = [.bl k] ∧ Q (.int (if k then 1 else 0)) H) (tCons ta tNil)) TInt X :=
  P.sca (fun _ _ _ _ _ h => h) (p_cb1 (T := TBool) (W := TInt) (f := fun b => if b then 1 else 0) (C := fun _ => True) (fun S H v x Q r _ k => .inr ⟨x, by rw [show v = .bl x from r], k _ H (.refl H) rfl⟩) (h.imp fun _ z => ⟨trivial, z⟩))
theorem p_abs {ta : TE} {X : Int → Prop} (h : P false c Γ ta TInt fun i => X (if i < 0 then -i else i)) : P m c Γ (tCB (fun xs H Q => ∃ i, xs = [.int i] ∧ Q (.int (if i < 0 then -i else i)) H) (tCons ta tNil)) TInt X :=
  P.sca (fun _ _ _ _ _ h => h) (p_cb1 (T := TInt) (W := TInt) (f := fun i => if i < 0 then -i else i) (C := fun _ => True) (fun S H v x Q r _ k => ⟨x, by rw [show v = .int x from r], k _ H (.refl H) rfl⟩) (h.imp fun _ z => ⟨trivial, z⟩))
theorem p_max2 {ta tb : TE} {X : Int → Prop} (h : P false c Γ ta TInt fun i => P false c Γ tb TInt fun j => X (if j > i then j else i)) : P m c Γ (tCB (fun xs H Q => ∃ i j, xs = [.int i, .int j] ∧ Q (.int (if j > i then j else i)) H) (tCons ta (tCons tb tNil))) TInt X :=
  P.sca (fun _ _ _ _ _ h => h) (p_cb2 (T := TInt) (U := TInt) (W := TInt) (f := fun i j => if j > i then j else i) (C := fun _ _ => True) (fun S H v w x y Q r r' _ k => ⟨x, y, by rw [show v = .int x from r, show w = .int y from r'], k _ H (.refl H) rfl⟩) (h.imp fun _ z => z.imp fun _ z => ⟨trivial, z⟩))
theorem p_min2 {ta tb : TE} {X : Int → Prop} (h : P false c Γ ta TInt fun i => P false c Γ tb TInt fun j => X (if j < i then j else i)) : P m c Γ (tCB (fun xs H Q => ∃ i j, xs = [.int i, .int j] ∧ Q (.int (if j < i then j else i)) H) (tCons ta (tCons tb tNil))) TInt X :=
  P.sca (fun _ _ _ _ _ h => h) (p_cb2 (T := TInt) (U := TInt) (W := TInt) (f := fun i j => if j < i then j else i) (C := fun _ _ => True) (fun S H v w x y Q r r' _ k => ⟨x, y, by rw [show v = .int x from r, show w = .int y from r'], k _ H (.refl H) rfl⟩) (h.imp fun _ z => z.imp fun _ z => ⟨trivial, z⟩))
theorem paired_ints {vs : List V} {xs : List Int} {S : Addr → Prop} {H : Hp} (p : Paired (TInt.R S H) vs xs) : vs = xs.map V.int := by
  induction p with
  | nil => rfl
  | cons f _ ih => rw [ih, show _ = V.int _ from f]; rfl
theorem p_sum {ta : TE} {X : Int → Prop} (h : P false c Γ ta (TLst TInt) fun xs => X xs.sum) : P m c Γ (tCB (rSum Kf) (tCons ta tNil)) TInt X :=
  P.sca (fun _ _ _ _ _ h => h) (p_cb1 (T := TLst TInt) (W := TInt) (f := fun xs => xs.sum) (C := fun _ => True) (fun S H v x Q ⟨a, vs, e, _, ha, _, p⟩ _ k => ⟨a, x, by rw [e], .inl (.inl (by rw [ha, paired_ints p])), k _ H (.refl H) rfl⟩) (h.imp fun _ z => ⟨trivial, z⟩))
/-! atoms as documents -/
theorem p_docI {G : Gen} {n : Nat} {t : TE} {X : D → Prop} (h : P m c Γ t TInt fun i => G.C (.int i) = true ∧ X (.sc (.int i))) : P m c Γ t (TDoc G (n + 1)) X :=
  h.to (fun i => .sc (.int i)) (fun S H v x hx r => by rw [show v = .int x from r]; exact Dc.sc hx.1) fun _ hx => hx.2
theorem p_docS {G : Gen} {n : Nat} {t : TE} {X : D → Prop} (h : P m c Γ t TStr fun i => G.C (.str i) = true ∧ X (.sc (.str i))) : P m c Γ t (TDoc G (n + 1)) X :=
  h.to (fun i => .sc (.str i)) (fun S H v x hx r => by rw [show v = .str x from r]; exact Dc.sc hx.1) fun _ hx => hx.2
theorem p_docUn {G : Gen} {n : Nat} {r : V → Hp → VK → Prop} {ta : TE} {X : D → Prop} (h : P m c Γ (tUn r ta) TInt fun i => G.C (.int i) = true ∧ X (.sc (.int i))) : P m c Γ (tUn r ta) (TDoc G (n + 1)) X := p_docI h
theorem p_docOp {G : Gen} {n : Nat} {C : Int → Int → Prop} {g : Int → Int → V} {ta tb : TE} {X : D → Prop} (h : P m c Γ (tOp (rI C g) ta tb) TInt fun i => G.C (.int i) = true ∧ X (.sc (.int i))) : P m c Γ (tOp (rI C g) ta tb) (TDoc G (n + 1)) X := p_docI h
theorem p_sc {v : V} {X : V → Prop} (h : isSc v = true) (k : X v) : P m c Γ (tC v) TSc X := .mk fun σ H Q e q => q _ v H e .refl ⟨rfl, h⟩ k
theorem paired_sc {vs xs : List V} {S : Addr → Prop} {H : Hp} (p : Paired (TSc.R S H) vs xs) : vs = xs := by
  induction p with
  | nil => rfl
  | cons f _ ih => rw [ih, f.1]
/-- [..] of scalars, as a document -/
theorem p_docL {G : Gen} {n : Nat} {ta : TA} {X : D → Prop} (h : PL m c Γ ta TSc fun xs => (xs.length ≤ G.L ∧ ∀ x ∈ xs, G.C x = true) ∧ xs.length ≤ sizeLine ∧ X (.ls xs)) : P m c Γ (tLst ta) (TDoc G (n + 1)) X := .mk fun σ H Q e q =>
  h.run σ H _ e fun vs xs H1 e1 f1 r1 hx => by
    obtain rfl := paired_sc r1
    exact ⟨hx.2.1, fun p hp => q _ _ _ (e1.ex (.new hp)) (f1.exr (.new hp)) (Dc.ls (.inl (e1.nw hp)) upd_same hx.1) hx.2.2⟩
/-- list(d), d a list of scalars -/
theorem p_docCopy {G : Gen} {n : Nat} {ta : TE} {X : D → Prop} (h : P m c Γ ta (TDoc G n) fun d => d.isLs = true ∧ X d) : P m c Γ (tCB (fun xs H Q => ∃ p ys, xs = [.ref p] ∧ (SqL Kf H p ys ∨ SqT Kf H p ys) ∧ ∀ l, H l = none → Q (.ref l) (upd H l (.lst ys))) (tCons ta tNil)) (TDoc G n) X := .mk fun σ H Q e q =>
  h.run σ H _ e fun v d H1 e1 f1 r1 hx => by
    refine Dc.cases r1 (fun m _ _ z => by rw [z] at hx; cases hx.1) (fun m a xs en ev s r hxs ed => ?_) fun m a ms f _ _ _ _ _ z => by rw [z] at hx; cases hx.1
    subst en; subst ev; subst ed
    exact ⟨a, xs, rfl, .inl (.inl (.inl r)), fun l hl => q _ _ _ (e1.ex (.new hl)) (f1.exr (.new hl)) (Dc.ls (.inl (e1.nw hl)) upd_same hxs) hx.2⟩
theorem TDoc.lift {G : Gen} {n k : Nat} {S : Addr → Prop} {H : Hp} {v : V} {d : D} (h : n ≤ k) (r : (TDoc G n).R S H v d) : (TDoc G k).R S H v d := Dc.lift h r
theorem p_lift {G : Gen} {n k : Nat} {t : TE} {X : D → Prop} (hn : n ≤ k) (h : P m c Γ t (TDoc G n) X) : P m c Γ t (TDoc G k) X := h.to (fun d => d) (fun S H v x _ r => TDoc.lift hn r) fun _ hx => hx
/-- d[k] = e, d an own object -/
theorem run_dput {G : Gen} {n i : Nat} {nw : Bool} {f : Str → D} {te tk : TE} (hG : G.KS.length ≤ 5000) (hi : Γ[i]? = some (.own (OwOb G n f) nw)) (h : P true c Γ te (TDoc G n) fun d => P true c Γ tk TStr fun k => k ∈ G.KS ∧ K.nx (Γ.set i (.own (OwOb G n (D.fup f k d)) nw))) : Run c Γ (sDPut (tVar i) tk te) K := .mk fun D σ H e k =>
  h.run σ H _ e fun v d H1 e1 f1 r1 hb => by
    obtain ⟨a, ha, _, _⟩ := e1.own hi
    refine ⟨.ref a, ha, hb.run σ H1 _ e1 fun w x H2 e2 f2 r2 hx => ?_⟩
    obtain ⟨a', ha', ⟨ms, hv, M⟩, _⟩ := e2.own hi
    rw [ha] at ha'
    cases ha'
    obtain rfl : w = .str x := r2
    have l : (kvsOf ms).length < sizeLine := sizeK hG M
    have st : Kpt (Sx c Γ σ) H2 (upd H2 a (.dK (putK (kvsOf ms) (Sum.inr x) v))) := e2.stp_mut hi ha (Fr.put hv rfl).inl
    have r1' : Dc (Sx c Γ σ) G H2 n v d := (TDoc G n).imp ((TDoc G n).stp r1 (e1.stp_fx f2)) fun _ => fx_t
    refine ⟨a, _, rfl, DPut.k (k := Sum.inr x) hv l, k.nx _ _ _ (e2.mut (o' := OwOb G n (TP.D.fup f x d)) hi ha (Fr.put hv rfl).inl (fun _ => False.elim) ⟨putK ms x v, by rw [upd_same, putK_inK], ?_⟩) hx.2⟩
    exact ((M.put hx.1 r1').mono (S' := fun b => Sx c Γ σ b ∧ ¬ False) (fun b hb => ⟨hb, id⟩) (fun b u s z h => st.go b u s z h) (Nat.le_refl _))
/-! == and != by types -/
theorem p_eqI {ta tb : TE} {X : Bool → Prop} (h : P false c Γ ta TInt fun x => P false c Γ tb TInt fun y => ∀ r : Bool, (r = true ↔ x = y) → X r) : P m c Γ (tOp rEqU ta tb) TBool X := p_eq (n := 1) eqt_int (by decide) h
theorem p_neI {ta tb : TE} {X : Bool → Prop} (h : P false c Γ ta TInt fun x => P false c Γ tb TInt fun y => ∀ r : Bool, (r = true ↔ x ≠ y) → X r) : P m c Γ (tOp rNeU ta tb) TBool X := p_ne (n := 1) eqt_int (by decide) h
theorem p_eqS {ta tb : TE} {X : Bool → Prop} (h : P false c Γ ta TStr fun x => P false c Γ tb TStr fun y => ∀ r : Bool, (r = true ↔ x = y) → X r) : P m c Γ (tOp rEqU ta tb) TBool X := p_eq (n := 1) eqt_str (by decide) h
theorem p_neS {ta tb : TE} {X : Bool → Prop} (h : P false c Γ ta TStr fun x => P false c Γ tb TStr fun y => ∀ r : Bool, (r = true ↔ x ≠ y) → X r) : P m c Γ (tOp rNeU ta tb) TBool X := p_ne (n := 1) eqt_str (by decide) h
theorem p_eqB {ta tb : TE} {X : Bool → Prop} (h : P false c Γ ta TBool fun x => P false c Γ tb TBool fun y => ∀ r : Bool, (r = true ↔ x = y) → X r) : P m c Γ (tOp rEqU ta tb) TBool X := p_eq (n := 1) eqt_bool (by decide) h
theorem p_neB {ta tb : TE} {X : Bool → Prop} (h : P false c Γ ta TBool fun x => P false c Γ tb TBool fun y => ∀ r : Bool, (r = true ↔ x ≠ y) → X r) : P m c Γ (tOp rNeU ta tb) TBool X := p_ne (n := 1) eqt_bool (by decide) h
theorem p_eqD {G G' : Gen} {n k : Nat} (hn : n ≤ 40) {ta tb : TE} {X : Bool → Prop} (h : P false c Γ ta (TDoc G n) fun x => P false c Γ tb (TDoc G' k) fun y => ∀ r : Bool, (r = true ↔ x = y) → X r) : P m c Γ (tOp rEqU ta tb) TBool X := p_eq (eqt_doc (Nat.le_refl n)) hn h
theorem p_neD {G G' : Gen} {n k : Nat} (hn : n ≤ 40) {ta tb : TE} {X : Bool → Prop} (h : P false c Γ ta (TDoc G n) fun x => P false c Γ tb (TDoc G' k) fun y => ∀ r : Bool, (r = true ↔ x ≠ y) → X r) : P m c Γ (tOp rNeU ta tb) TBool X := p_ne (eqt_doc (Nat.le_refl n)) hn h
theorem p_eqDL {G G' : Gen} {n k : Nat} (hn : n ≤ 39) {ta tb : TE} {X : Bool → Prop} (h : P false c Γ ta (TLst (TDoc G n)) fun x => P false c Γ tb (TLst (TDoc G' k)) fun y => ∀ r : Bool, (r = true ↔ x = y) → X r) : P m c Γ (tOp rEqU ta tb) TBool X := p_eq (eqt_lst (eqt_doc (Nat.le_refl n))) (Nat.succ_le_succ hn) h
theorem p_neDL {G G' : Gen} {n k : Nat} (hn : n ≤ 39) {ta tb : TE} {X : Bool → Prop} (h : P false c Γ ta (TLst (TDoc G n)) fun x => P false c Γ tb (TLst (TDoc G' k)) fun y => ∀ r : Bool, (r = true ↔ x ≠ y) → X r) : P m c Γ (tOp rNeU ta tb) TBool X := p_ne (eqt_lst (eqt_doc (Nat.le_refl n))) (Nat.succ_le_succ hn) h
/-! the state of draws -/
theorem pn_state {E : XK} {ta : TE} {X : Addr → Prop} (h : P true c Γ ta TInt fun _ => ∀ p, X p) : PN c Γ (tCall spState [] E (tCons ta tNil)) (fun p => OwRng.pin p) X := .mk fun σ H Q e q =>
  h.run σ H _ e fun v n H1 e1 f1 r1 hx => ⟨n, by rw [show v = .int n from r1]; rfl, fun p H2 hp x2 st _ => q p p H1 H2 e1 f1 hp (fun _ => False.elim) x2 ⟨rfl, st⟩ (hx p)⟩
end
section
variable [TabL] {P : Program} {w : World} {K : PySem.W.Frag} {mg : Str → Option Value} {base : Heap}
/-- draws, as typed -/
def spDraw : Sp := pg1 OwRng TInt TInt (fun b => 0 < b ∧ b < 1000) fun b d => 0 ≤ d ∧ d < b
def spChoice {α : Type} (T : Ty α) : Sp := pg1 OwRng (TLst T) T (fun xs => 0 < xs.length ∧ xs.length < 1000) fun xs x => x ∈ xs
theorem draw_of {k : Nat} {f : Addr} {fd : FuncData} {ps : List Str} (F : FnOk P w K mg base CX0 k f fd ps spDigit) : FnOk P w K mg base CX0 k f fd ps spDraw := F.imp fun vs H Q E h => by
  obtain ⟨S, s, v, x, rfl, tb, st, _, r, hp, q⟩ := h
  obtain rfl : v = .int x := r
  exact ⟨s, x, rfl, st, hp.1, hp.2, fun d H' d0 d1 m _ => q _ d H' ((Fr.of_mv m).inl) m.st rfl ⟨d0, d1⟩⟩
end
end TP

namespace TP
open PySem PySem.Spec PyProof.Rows L2
/-! ### typed readings: values that nobody else knows -/
section
variable [TabL]
variable {m : Bool} {c : WCtx} {Γ Γ' : List WSlot} {α β γ δ ε : Type} {T : Ty α} {U : Ty β} {W : Ty γ} {K : Ko δ} {Kf : PySem.W.Frag}
/-- what is given is new -/
structure PX (c : WCtx) (Γ : List WSlot) (t : TE) {α : Type} (T : Ty α) (X : α → Prop) : Prop where
  run : ∀ σ H Q, WEnv c Γ σ H → (∀ v x H', WEnv c Γ σ H' → FrO Γ σ H H' → T.R (fun b => H b = none) H' v x → X x → Q v H') → t σ H Q
theorem PX.imp {t : TE} {X Y : α → Prop} (h : PX c Γ t T X) (k : ∀ x, X x → Y x) : PX c Γ t T Y := .mk fun σ H Q e q => h.run σ H Q e fun v x H' e' f r z => q v x H' e' f r (k x z)
theorem PX.p {t : TE} {X : α → Prop} (h : PX c Γ t T X) : P m c Γ t T X := .mk fun σ H Q e q => h.run σ H Q e fun v x H' e' f r z => q v x H' e' f (T.imp r fun b hb => .inl (e.nw hb)) z
def pfx1 (T : Ty α) (W : Ty γ) (Pre : α → Prop) (Post : α → γ → Prop) : Sp := fun vs H Q _ => ∃ S v x, vs = [v] ∧ TabA H ∧ T.R S H v x ∧ Pre x ∧ ∀ r z H', Ex H H' → W.R (fun b => H b = none) H' r z → Post x z → Q r H'
def pfx2 (T : Ty α) (U : Ty β) (W : Ty γ) (Pre : α → β → Prop) (Post : α → β → γ → Prop) : Sp := fun vs H Q _ => ∃ S v w x y, vs = [v, w] ∧ TabA H ∧ T.R S H v x ∧ U.R S H w y ∧ Pre x y ∧ ∀ r z H', Ex H H' → W.R (fun b => H b = none) H' r z → Post x y z → Q r H'
def pgx0 (o : Ow) (W : Ty γ) (Post : γ → Prop) : Sp := fun vs H Q _ => ∃ S s, vs = [.ref s] ∧ TabA H ∧ o.R S H s ∧ (∀ b, b = s ∨ o.fp b → ¬ S b) ∧ ∀ r z H', Fr (fun b => b = s ∨ o.fp b) H H' → o.R (fun b => S b ∨ H b = none) H' s → W.R (fun b => H b = none) H' r z → Post z → Q r H'
def pgx1 (o : Ow) (T : Ty α) (W : Ty γ) (Pre : α → Prop) (Post : α → γ → Prop) : Sp := fun vs H Q _ => ∃ S s v x, vs = [.ref s, v] ∧ TabA H ∧ o.R S H s ∧ (∀ b, b = s ∨ o.fp b → ¬ S b) ∧ T.R S H v x ∧ Pre x ∧ ∀ r z H', Fr (fun b => b = s ∨ o.fp b) H H' → o.R (fun b => S b ∨ H b = none) H' s → W.R (fun b => H b = none) H' r z → Post x z → Q r H'
def pgx2 (o : Ow) (T : Ty α) (U : Ty β) (W : Ty γ) (Pre : α → β → Prop) (Post : α → β → γ → Prop) : Sp := fun vs H Q _ => ∃ S s v w x y, vs = [.ref s, v, w] ∧ TabA H ∧ o.R S H s ∧ (∀ b, b = s ∨ o.fp b → ¬ S b) ∧ T.R S H v x ∧ U.R S H w y ∧ Pre x y ∧ ∀ r z H', Fr (fun b => b = s ∨ o.fp b) H H' → o.R (fun b => S b ∨ H b = none) H' s → W.R (fun b => H b = none) H' r z → Post x y z → Q r H'
theorem WEnv.fresh {σ : L2.St} {H H1 : Hp} (f : Fr (OwnA Γ σ) H H1) : ∀ b, H1 b = none → H b = none := fun _ h => f.fresh h
theorem px_f1 {E : XK} {Pre : α → Prop} {Post : α → γ → Prop} {ta : TE} {X : γ → Prop} (h : P false c Γ ta T fun x => Pre x ∧ ∀ z, Post x z → X z) : PX c Γ (tCall (pfx1 T W Pre Post) [] E (tCons ta tNil)) W X := .mk fun σ H Q e q =>
  h.run σ H _ e fun v x H1 e1 f1 r1 hx => ⟨_, v, x, rfl, e1.tabA, r1, hx.1, fun r z H2 x2 r2 hz => q r z H2 (e1.ex x2) (f1.exr x2) (W.imp r2 fun _ h => f1.fresh h) (hx.2 z hz)⟩
theorem px_f2 {E : XK} {Pre : α → β → Prop} {Post : α → β → γ → Prop} {ta tb : TE} {X : γ → Prop} (h : P false c Γ ta T fun x => P false c Γ tb U fun y => Pre x y ∧ ∀ z, Post x y z → X z) : PX c Γ (tCall (pfx2 T U W Pre Post) [] E (tCons ta (tCons tb tNil))) W X := .mk fun σ H Q e q =>
  h.run σ H _ e fun v x H1 e1 f1 r1 hb => hb.run σ H1 _ e1 fun w y H2 e2 f2 r2 hx => ⟨_, v, w, x, y, rfl, e2.tabA, T.stp r1 (e1.stp_fx f2), r2, hx.1, fun r z H3 x3 r3 hz => q r z H3 (e2.ex x3) ((f1.trans f2).exr x3) (W.imp r3 fun _ h => (f1.trans f2).fresh h) (hx.2 z hz)⟩
theorem px_g0 {E : XK} {i : Nat} {o : Ow} [OwPl o] {n : Bool} {s : Addr} {Post : γ → Prop} {X : γ → Prop} (hi : Γ[i]? = some (.own (o.pin s) n)) (h : ∀ z, Post z → X z) : PX c Γ (tCall (pgx0 o W Post) [] E (tCons (tVar i) tNil)) W X := .mk fun σ H Q e q => by
  obtain ⟨a, ha, r, _⟩ := e.own hi
  refine ⟨.ref a, ha, Sx c Γ σ, a, rfl, e.tabA, r.2, fun b hb z => z.2.1 ⟨i, _, n, a, hi, ha, hb⟩, fun u z H' f o' w hz => ?_⟩
  obtain ⟨e', f'⟩ := p_own e hi ha f o'
  exact q u z H' e' f' w (h z hz)
theorem px_g1 {E : XK} {i : Nat} {o : Ow} [OwPl o] {n : Bool} {s : Addr} {Pre : α → Prop} {Post : α → γ → Prop} {ta : TE} {X : γ → Prop} (hi : Γ[i]? = some (.own (o.pin s) n)) (h : P true c Γ ta T fun x => Pre x ∧ ∀ z, Post x z → X z) : PX c Γ (tCall (pgx1 o T W Pre Post) [] E (tCons (tVar i) (tCons ta tNil))) W X := .mk fun σ H Q e q => by
  obtain ⟨a, ha, r, _⟩ := e.own hi
  refine ⟨.ref a, ha, h.run σ H _ e fun v x H1 e1 f1 r1 hx => ?_⟩
  obtain ⟨a', ha', r', _⟩ := e1.own hi
  rw [ha] at ha'
  cases ha'
  refine ⟨Sx c Γ σ, a, v, x, rfl, e1.tabA, r'.2, fun b hb z => z.2.1 ⟨i, _, n, a, hi, ha, hb⟩, T.imp r1 fun _ => fx_t, hx.1, fun u z H' f o' w hz => ?_⟩
  obtain ⟨e', f'⟩ := p_own e1 hi ha f o'
  exact q u z H' e' (f1.trans f') (W.imp w fun _ h => f1.fresh h) (hx.2 z hz)
theorem px_g2 {E : XK} {i : Nat} {o : Ow} [OwPl o] {n : Bool} {s : Addr} {Pre : α → β → Prop} {Post : α → β → γ → Prop} {ta tb : TE} {X : γ → Prop} (hi : Γ[i]? = some (.own (o.pin s) n)) (h : P true c Γ ta T fun x => P true c Γ tb U fun y => Pre x y ∧ ∀ z, Post x y z → X z) : PX c Γ (tCall (pgx2 o T U W Pre Post) [] E (tCons (tVar i) (tCons ta (tCons tb tNil)))) W X := .mk fun σ H Q e q => by
  obtain ⟨a, ha, r, _⟩ := e.own hi
  refine ⟨.ref a, ha, h.run σ H _ e fun v x H1 e1 f1 r1 hb => hb.run σ H1 _ e1 fun w y H2 e2 f2 r2 hx => ?_⟩
  obtain ⟨a', ha', r', _⟩ := e2.own hi
  rw [ha] at ha'
  cases ha'
  refine ⟨Sx c Γ σ, a, v, w, x, y, rfl, e2.tabA, r'.2, fun b hb z => z.2.1 ⟨i, _, n, a, hi, ha, hb⟩, T.imp (T.stp r1 (e1.stp_fx f2)) fun _ => fx_t, U.imp r2 fun _ => fx_t, hx.1, fun u z H' f o' w hz => ?_⟩
  obtain ⟨e', f'⟩ := p_own e2 hi ha f o'
  exact q u z H' e' ((f1.trans f2).trans f') (W.imp w fun _ h => (f1.trans f2).fresh h) (hx.2 z hz)
/-- an exclusive value is read -/
theorem p_varX {i : Nat} {A : Addr → Prop} {x : α} {X : α → Prop} (h : Γ[i]? = some (.exc A T x)) (k : X x) : P false c Γ (tVar i) T X := .mk fun σ H Q e q => by
  obtain ⟨w, hw⟩ := e.lt h
  obtain ⟨v, rfl, r, hA⟩ := e.at' i _ w h hw
  exact ⟨v, hw, q v x H e .refl (T.imp r fun b hb => .inr ⟨rfl, .inl (hA b hb)⟩) k⟩
def WSlot.share : WSlot → WSlot
  | .exc _ _ _ => .any
  | s => s
def dropX (Γ : List WSlot) : List WSlot := Γ.map WSlot.share
theorem dropX_get {i : Nat} {s : WSlot} (h : (dropX Γ)[i]? = some s) : ∃ s', Γ[i]? = some s' ∧ s = s'.share := by
  unfold dropX at h
  rw [List.getElem?_map] at h
  cases e : Γ[i]? with
  | none => rw [e] at h; cases h
  | some s' => rw [e] at h; exact ⟨s', rfl, by injection h with h; exact h.symm⟩
theorem ownA_dropX {σ : L2.St} {a : Addr} : OwnA (dropX Γ) σ a ↔ OwnA Γ σ a := by
  constructor
  · rintro ⟨i, o, n, b, h1, h2, h3⟩
    obtain ⟨s', e, z⟩ := dropX_get h1
    cases s' with
    | own o' n' => cases z; exact ⟨i, _, _, b, e, h2, h3⟩
    | _ => cases z
  · rintro ⟨i, o, n, b, h1, h2, h3⟩
    exact ⟨i, o, n, b, by unfold dropX; rw [List.getElem?_map, h1]; rfl, h2, h3⟩
def WCtx.more (c : WCtx) (A : Addr → Prop) (h : ∀ b, A b → c.H0 b = none) : WCtx := { c with E := fun b => c.E b ∨ A b, ez := fun b z => z.elim (c.ez b) (h b) }
/-- one exclusive region more -/
theorem WEnv.more {σ : L2.St} {H0 H : Hp} {A : Addr → Prop} {i : Nat} {v : V} {x : α} (e0 : WEnv c Γ σ H0) (e : WEnv c Γ σ H) (f : FrO Γ σ H0 H) (r : T.R (fun b => H0 b = none) H v x) (hA : A = fun b => H0 b = none ∧ H b ≠ none) (hz : ∀ b, A b → c.H0 b = none) : WEnv (c.more A hz) (Γ.set i (.exc A T x)) (σ.set i (some v)) H := by
  subst hA
  have own : ∀ b, OwnA (Γ.set i (.exc (fun b => H0 b = none ∧ H b ≠ none) T x)) (σ.set i (some v)) b → OwnA Γ σ b := fun b h => ownA_set (s := .exc _ T x) (fun _ _ y => (by cases y)) h
  -- what was seen at H0 and is as it was lies outside of the region
  have sub : ∀ b, Sx c Γ σ b ∧ H0 b ≠ none → Sx (c.more (fun b => H0 b = none ∧ H b ≠ none) hz) (Γ.set i (.exc (fun b => H0 b = none ∧ H b ≠ none) T x)) (σ.set i (some v)) b := fun b hb => ⟨hb.1.1, fun z => hb.1.2.1 (own b z), hb.1.2.2.1, fun z => z.elim hb.1.2.2.2 fun y => hb.2 y.1⟩
  have st : Kpt (fun b => Sx c Γ σ b ∧ H0 b ≠ none) H0 H := (e0.stp_own f.toFr).imp fun _ h => h.1
  refine ⟨by rw [List.length_set, List.length_set]; exact e.len, e.fr, e.nn, fun b h => e.on b (own b h), fun b h => h.elim (e.en b) fun y => y.2, fun b h z => z.elim (e.oe b (own b h)) fun y => ?_, fun t ht => t.T.mono sub st (t.T.alloc (e0.tm t ht)), fun j s' w' h1 h2 => ?_, fun j k o1 o2 n1 n2 a b y jk h1 h2 h3 h4 h5 h6 => ?_⟩
  · obtain ⟨⟨u, hu, _⟩, _⟩ := e0.ownA (own b h)
    rw [y.1] at hu; cases hu
  · by_cases cj : i = j
    · subst cj
      cases getElem?_set_some h1
      cases getElem?_set_some h2
      exact ⟨v, rfl, T.alloc r, fun b hb => .inr hb⟩
    · rw [List.getElem?_set_ne cj] at h1 h2
      cases s' with
      | un => exact e.at' j _ w' h1 h2
      | any => trivial
      | val U y => exact (e0.at' j _ w' h1 h2).alloc.mono sub st (fun _ z => .inl z) (e0.stp_exc f.toFr) fun _ _ _ z => (by cases z)
      | exc B U y => exact (e0.at' j _ w' h1 h2).mono (S' := Sx (c.more (fun b => H0 b = none ∧ H b ≠ none) hz) (Γ.set i (.exc (fun b => H0 b = none ∧ H b ≠ none) T x)) (σ.set i (some v))) (S := fun _ => False) (fun _ z => z.elim) ⟨fun _ _ z => z.elim, f.ne, f.tab⟩ (fun _ z => .inl z) (e0.stp_exc f.toFr) fun _ _ _ z => (by cases z)
      | own o n =>
        obtain ⟨a, rfl, q, hA⟩ := e.at' j _ w' h1 h2
        refine ⟨a, rfl, ?_, hA⟩
        rcases f.kept j o n a h1 h2 with p | p
        · exact o.plh p q
        · obtain ⟨a', ha', q0, _⟩ := e0.own h1
          rw [h2] at ha'
          cases ha'
          refine o.mono sub st (fun b hb => ?_) (o.alloc q0)
          obtain ⟨u, hu, pl⟩ := o.has q0 b hb
          rw [hu]
          exact p b u hb (pl_tbl pl) hu
  · have nj : i ≠ j := fun z => by subst z; cases getElem?_set_some h1
    have nk : i ≠ k := fun z => by subst z; cases getElem?_set_some h2
    rw [List.getElem?_set_ne nj] at h1 h3
    rw [List.getElem?_set_ne nk] at h2 h4
    exact e.sep j k o1 o2 n1 n2 a b y jk h1 h2 h3 h4 h5 h6
theorem WEnv.less {σ : L2.St} {H : Hp} {A : Addr → Prop} {hz : ∀ b, A b → c.H0 b = none} (e : WEnv (c.more A hz) Γ σ H) : WEnv c (dropX Γ) σ H := by
  have sub : ∀ b, Sx (c.more A hz) Γ σ b → Sx c (dropX Γ) σ b := fun b hb => ⟨hb.1, fun z => hb.2.1 (ownA_dropX.mp z), hb.2.2.1, fun z => hb.2.2.2 (.inl z)⟩
  refine ⟨by unfold dropX; rw [List.length_map]; exact e.len, e.fr, e.nn, fun b h => e.on b (ownA_dropX.mp h), fun b h => e.en b (.inl h), fun b h z => e.oe b (ownA_dropX.mp h) (.inl z), fun t ht => t.T.imp (e.tm t ht) sub, fun i s w h1 h2 => ?_, fun i j o o' n n' a b x ij h1 h2 h3 h4 h5 h6 => ?_⟩
  · obtain ⟨s', g, rfl⟩ := dropX_get h1
    have r := e.at' i s' w g h2
    cases s' with
    | un => exact r
    | any => trivial
    | exc B T x => trivial
    | val T x => exact r.mono (E' := c.E) (E := fun _ => False) sub .refl (fun _ z => z.elim) .refl fun _ _ _ z => (by cases z)
    | own o n =>
      obtain ⟨a, e1, q, hA⟩ := r
      exact ⟨a, e1, o.mono sub .refl (fun _ _ => rfl) q, hA⟩
  · obtain ⟨s1, g1, z1⟩ := dropX_get h1
    obtain ⟨s2, g2, z2⟩ := dropX_get h2
    cases s1 with
    | own o1 n1 =>
      cases s2 with
      | own o2 n2 => cases z1; cases z2; exact e.sep i j _ _ _ _ a b x ij g1 g2 h3 h4 h5 h6
      | _ => cases z2
    | _ => cases z1
/-- the same end, without exclusive values -/
def Ko.lim (K : Ko δ) : Ko δ := { T := K.T, X := fun Γ y => K.X (dropX Γ) y, nx := fun Γ => K.nx (dropX Γ), bk := fun Γ => K.bk (dropX Γ), ct := fun Γ => K.ct (dropX Γ) }
theorem KoOk.more {D : Ends} {A : Addr → Prop} {hz : ∀ b, A b → c.H0 b = none} (k : KoOk c K D) : KoOk (c.more A hz) K.lim D :=
  ⟨fun v y Γ' σ' H' e r x => k.rt v y _ σ' H' e.less (K.T.imp r fun b hb => ⟨hb.1, fun z => hb.2.1 (ownA_dropX.mp z), hb.2.2.1, fun z => hb.2.2.2 (.inl z)⟩) x, fun Γ' σ' H' e x => k.nx _ σ' H' e.less x, fun Γ' σ' H' e x => k.bk _ σ' H' e.less x, fun Γ' σ' H' e x => k.ct _ σ' H' e.less x⟩
theorem run_seqX {t : TE} {i : Nat} {u : TS} (T : Ty α) (h : PX c Γ t T fun x => ∀ (c' : WCtx) (A : Addr → Prop), (∀ b, c.E b → ¬ A b) → Run c' (Γ.set i (.exc A T x)) u K.lim) : Run c Γ (tSeq (tAsg t (gName i)) u) K := .mk fun D σ H e k =>
  h.run σ H _ e fun v x H1 e1 f r hx => by
    have hz : ∀ b, (H b = none ∧ H1 b ≠ none) → c.H0 b = none := fun b hb => e.fr.fresh hb.1
    exact (hx (c.more _ hz) _ fun b hb z => e.en b hb z.1).run D _ H1 (e.more e1 f r rfl hz) k.more
theorem run_cutX {t : TE} {i : Nat} {u : TS} (T : Ty α) (h : PX c Γ t T fun x => ∀ (c' : WCtx) (A : Addr → Prop), (∀ b, c.E b → ¬ A b) → Run c' (Γ.set i (.exc A T x)) u K.lim) : Run c Γ (C8.tCut (tAsg t (gName i)) u) K := .mk fun D σ H e k =>
  ⟨fun σ' H' => u D σ' H', (run_seqX T h).run D σ H e k, fun _ _ z => z⟩
/-- what changes a value inside -/
def pspoil (T : Ty α) (Pre : α → Prop) : Sp := fun vs H Q _ => ∃ A v x, vs = [v] ∧ T.R A H v x ∧ Pre x ∧ ∀ H', Fr A H H' → Q .non H'
def noExc (Γ : List WSlot) : Bool := Γ.all fun s => match s with | .exc _ _ _ => false | _ => true
theorem run_spoil {E : XK} {i : Nat} {A : Addr → Prop} {x : α} {Pre : α → Prop} (hi : Γ[i]? = some (.exc A T x)) (hp : Pre x) (hX : noExc (Γ.set i .any) = true) (h : K.nx (Γ.set i .any)) : Run c Γ (tDrop (tCall (pspoil T Pre) [] E (tCons (tVar i) tNil))) K := .mk fun D σ H e k => by
  obtain ⟨w, hw⟩ := e.lt hi
  obtain ⟨v, rfl, r, hA⟩ := e.at' i _ w hi hw
  refine ⟨v, hw, A, v, x, rfl, r, hp, fun H' f => k.nx _ _ _ ?_ h⟩
  have own : ∀ b, OwnA (Γ.set i .any) σ b → OwnA Γ σ b := fun b ⟨j, o, n, a, h1, h2, h3⟩ => by
    by_cases cj : i = j
    · subst cj; cases getElem?_set_some h1
    · rw [List.getElem?_set_ne cj] at h1
      exact ⟨j, o, n, a, h1, h2, h3⟩
  have own' : ∀ b, OwnA Γ σ b → OwnA (Γ.set i .any) σ b := fun b ⟨j, o, n, a, h1, h2, h3⟩ => by
    by_cases cj : i = j
    · subst cj; rw [hi] at h1; cases h1
    · exact ⟨j, o, n, a, by rw [List.getElem?_set_ne cj]; exact h1, h2, h3⟩
  have sub : ∀ b, Sx c Γ σ b → Sx c (Γ.set i .any) σ b := fun b hb => ⟨hb.1, fun z => hb.2.1 (own b z), hb.2.2⟩
  have st : Kpt (Sx c Γ σ) H H' := ⟨fun b u s z h => f.go b u (fun y => s.2.2.2 (hA b y)) h z, f.ne, f.tab⟩
  refine ⟨by rw [List.length_set]; exact e.len, e.fr.trans' f fun b hb => .inr (c.ez b (hA b hb)), fun b h => f.ne b (e.nn b h), fun b h => e.on b (own b h), fun b h => f.ne b (e.en b h), fun b h => e.oe b (own b h), fun t ht => t.T.mono sub st (e.tm t ht), fun j s w h1 h2 => ?_, fun j l o o' n n' a b x jl h1 h2 h3 h4 h5 h6 => ?_⟩
  · by_cases cj : i = j
    · subst cj
      cases getElem?_set_some h1
      trivial
    · have h0 := h1
      rw [List.getElem?_set_ne cj] at h1
      have r := e.at' j s w h1 h2
      cases s with
      | un => exact r
      | any => trivial
      | exc B U y => exact absurd (List.all_eq_true.mp hX _ (List.mem_of_getElem? h0)) (by simp)
      | val U y => exact let ⟨v, e1, q⟩ := r; ⟨v, e1, U.mono sub st q⟩
      | own o n =>
        obtain ⟨a, e1, q, hA'⟩ := r
        subst e1
        refine ⟨a, rfl, o.mono sub st (fun b hb => ?_) q, hA'⟩
        obtain ⟨u, hu, pl⟩ := o.has q b hb
        rw [hu]
        exact f.go b u (fun y => e.oe b ⟨j, o, n, a, h1, h2, hb⟩ (hA b y)) hu (pl_tbl pl)
  · have q1 : ∀ (j : Nat) o n, (Γ.set i .any)[j]? = some (WSlot.own o n) → Γ[j]? = some (WSlot.own o n) := fun j o n h => by
      by_cases cj : i = j
      · subst cj; cases getElem?_set_some h
      · rwa [List.getElem?_set_ne cj] at h
    exact e.sep j l o o' n n' a b x jl (q1 j o n h1) (q1 l o' n' h2) h3 h4 h5 h6
end
end TP
namespace TP
open PySem PySem.Spec PyProof.Rows L2
section
variable [TabL] {α γ : Type} {T : Ty α} {W : Ty γ}
/-- a type whose values have no parts -/
class TySc (T : Ty α) : Prop where
  h : ∀ {S S' : Addr → Prop} {H : Hp} {v : V} {x : α}, T.R S H v x → T.R S' H v x
instance : TySc TInt := ⟨fun h => h⟩
instance : TySc TStr := ⟨fun h => h⟩
instance : TySc TBool := ⟨fun h => h⟩
theorem kgx_ok {H : Hp} {tb : TabA H} {Q : VK} {o : Ow} [OwPl o] {S : Addr → Prop} {s : Addr} {Post : γ → Prop} (q : ∀ r z H', Fr (fun b => b = s ∨ o.fp b) H H' → o.R (fun b => S b ∨ H b = none) H' s → W.R (fun b => H b = none) H' r z → Post z → Q r H') : KoOk ⟨H, fun _ => False, fun b => b = s ∨ o.fp b, fun _ => False, fun _ => False, [], fun _ z => z.elim, tb⟩ (kg o s W Post) { nx := fun _ H' => Q .non H', rt := Q } :=
  kg_ok fun r z H' f o' w p => q r z H' f (OwPl.h o') (W.imp w fun b hb => hb.elim False.elim id) p
theorem entergx0 {o : Ow} [OwPl o] {Post : γ → Prop} {vs : List V} {H : Hp} {Q : VK} {E : XK} {N : List Str} {t : TS} (h : pgx0 o W Post vs H Q E) {Γ0 : List WSlot} (hΓ : Γ0 = List.replicate (N.length - 1) .un) (b : ∀ c s, Run c (.own (o.pin s) false :: Γ0) t (kg o s W Post)) : t { nx := fun _ H' => Q .non H', rt := Q } (start N vs) H := by
  subst hΓ
  obtain ⟨S, s, rfl, tb, ho, hs, q⟩ := h
  have := WEnv.startO (S := fun _ => False) (H := H) tb (o := o) (s := s) (fun _ _ => id) (OwPl.h ho) [] (N.length - 1) (fun t z => by cases z)
  exact (b _ s).run _ _ _ this (kgx_ok q)
theorem entergx1 {o : Ow} [OwPl o] [TySc T] {Pre : α → Prop} {Post : α → γ → Prop} {vs : List V} {H : Hp} {Q : VK} {E : XK} {N : List Str} {t : TS} (h : pgx1 o T W Pre Post vs H Q E) {Γ0 : List WSlot} (hΓ : Γ0 = List.replicate (N.length - 2) .un) (b : ∀ c s x, Pre x → Run c (.own (o.pin s) false :: .val T x :: Γ0) t (kg o s W (Post x))) : t { nx := fun _ H' => Q .non H', rt := Q } (start N vs) H := by
  subst hΓ
  obtain ⟨S, s, v, x, rfl, tb, ho, hs, r1, hp, q⟩ := h
  have := WEnv.startO (S := fun _ => False) (H := H) tb (o := o) (s := s) (fun _ _ => id) (OwPl.h ho) [⟨T, x, v⟩] (N.length - 2) (fun t z => by rw [List.mem_singleton.mp z]; exact TySc.h r1)
  exact (b _ s x hp).run _ _ _ this (kgx_ok q)
theorem lengx0 {o : Ow} {Post : γ → Prop} {vs : List V} {H : Hp} {Q : VK} {E : XK} (h : pgx0 o W Post vs H Q E) : vs.length = 1 := by obtain ⟨_, _, rfl, _⟩ := h; rfl
theorem lengx1 {o : Ow} {Pre : α → Prop} {Post : α → γ → Prop} {vs : List V} {H : Hp} {Q : VK} {E : XK} (h : pgx1 o T W Pre Post vs H Q E) : vs.length = 2 := by obtain ⟨_, _, _, _, rfl, _⟩ := h; rfl
theorem pgx1_imp {P : Program} {w : World} {K : PySem.W.Frag} {mg : Str → Option Value} {base : Heap} {CX : CXT} {k : Nat} {f : Addr} {fd : FuncData} {ps : List Str} {o : Ow} {Pre Pre' : α → Prop} {Post Post' : α → γ → Prop} (F : FnOk P w K mg base CX k f fd ps (pgx1 o T W Pre Post)) (h : ∀ x, Pre' x → Pre x) (h' : ∀ x z, Pre' x → Post x z → Post' x z) : FnOk P w K mg base CX k f fd ps (pgx1 o T W Pre' Post') := F.imp fun vs H Q E ⟨S, s, v, x, e, tb, ho, hs, r, hp, q⟩ => ⟨S, s, v, x, e, tb, ho, hs, r, h x hp, fun r z H' f o w z' => q r z H' f o w (h' x z hp z')⟩
theorem lenx1 {Pre : α → Prop} {Post : α → γ → Prop} {vs : List V} {H : Hp} {Q : VK} {E : XK} (h : pfx1 T W Pre Post vs H Q E) : vs.length = 1 := by obtain ⟨_, _, _, rfl, _⟩ := h; rfl
end
end TP

namespace TP
open PySem PySem.Spec PyProof.Rows L2
/-! ### typed readings: objects with methods -/
/-- a field as a target -/
def gFld (K : PySem.W.Frag) (to : TE) (f : Str) : TG := fun v σ H Q => to σ H fun o H1 => ∃ a C dx fs, o = .ref a ∧ H1 a = some (.ins C dx fs) ∧ Cls K C ∧ NoAttr K C f ∧ fs.length < 1000 ∧ Q σ (upd H1 a (.ins C dx (putF f v fs)))
theorem assign_fld {o : Expr} {f : Str} {pos : Pos} {env : Env} {v : Value} : assign (o.Attribute f pos) env v = (do
    let ov ← holding [v] (eval o env)
    standAt pos.atName
    holding [v, ov] (setAttr ov f v)
    release [v, ov] []) := by unfold assign; rfl
theorem pg_fld {X : Cx} {o : Expr} {f : Str} {pos : Pos} {to : TE} (h : PE X o to) : PG X (.Attribute o f pos) (gFld X.K to f) := .mk fun pins s σ H v u Q I r t => by
  rw [assign_fld]
  refine wpAny_bind (wpAny_holding (thn (h.run pins s σ H _ I t) fun ov s1 hx => ?_))
  obtain ⟨x, H1, I1, rx, a, C, dx, fs, rfl, ha, cl, na, hl, q⟩ := hx
  cases rx
  exact wpAny_bind (wpAny_standAt (wpAny_bind (wpAny_holding (setattr_ok I1 ha cl na hl r fun s2 I2 => wpAny_release ⟨σ, _, I2, q⟩))))
section
variable [TabL]
variable {m : Bool} {c : WCtx} {Γ Γ' : List WSlot} {α β γ δ ε ι : Type} {T : Ty α} {U : Ty β} {W : Ty γ} {K : Ko δ}
/-- an own object that can be read as a value -/
class OwV (o : Ow) (T : Ty α) (x : outParam α) : Prop where
  np : o.pl = false
  h : ∀ {S : Addr → Prop} {H : Hp} {a : Addr}, o.R S H a → T.R (fun b => S b ∨ b = a ∨ o.fp b) H (.ref a) x
instance {o : Ow} {s : Addr} {T : Ty α} {x : α} [z : OwV o T x] : OwV (o.pin s) T x := ⟨z.np, fun r => z.h r.2⟩
theorem p_ownV {i : Nat} {o : Ow} {n : Bool} {x : α} {X : α → Prop} [z : OwV o T x] (hi : Γ[i]? = some (.own o n)) (k : X x) : P false c Γ (tVar i) T X := .mk fun σ H Q e q => by
  obtain ⟨a, ha, r, _⟩ := e.own hi
  exact ⟨.ref a, ha, q _ x H e .refl (T.imp (z.h r) fun b hb => hb.elim .inl fun y => .inr ⟨rfl, .inr ⟨i, o, n, a, hi, ha, y, z.np⟩⟩) k⟩
/-- a value is looked at: all its parts are plain objects -/
class TyPl (T : Ty α) : Prop where
  h : ∀ {S : Addr → Prop} {H : Hp} {v : V} {x : α}, T.R S H v x → T.R (fun b => S b ∧ ∃ u, H b = some u ∧ isPl u = true) H v x
/-- what is looked at, as an own object that nobody changes -/
def OwRd (T : Ty α) (A : Addr → Prop) (H0 : Hp) (x : α) : Ow where
  fp := A
  R := fun _ H a => A a ∧ T.R A H0 (.ref a) x ∧ (∀ b, A b → ∃ u, H0 b = some u ∧ isPl u = true) ∧ (∀ b, A b → H b = H0 b) ∧ Kpt A H0 H
  mono := fun {_ _ _ _ _} _ st e r => ⟨r.1, r.2.1, r.2.2.1, fun b hb => by rw [e b (.inr hb)]; exact r.2.2.2.1 b hb, ⟨fun b u s z h => by rw [e b (.inr s), r.2.2.2.1 b s]; exact h, fun b h => st.ne b (r.2.2.2.2.ne b h), fun b q rr t => st.tab b q rr (r.2.2.2.2.tab b q rr t)⟩⟩
  alloc := fun r => r
  has := fun {_ _ _} r b hb => by
    have hb : A b := hb.elim (fun z => by rw [z]; exact r.1) id
    rw [r.2.2.2.1 b hb]
    exact r.2.2.1 b hb
  pl := false
  plh := fun z => nomatch z
instance {T : Ty α} {A : Addr → Prop} {H0 : Hp} {x : α} : OwV (OwRd T A H0 x) T x := ⟨rfl, fun {S H a} r => T.mono (fun b hb => .inr (.inr hb)) r.2.2.2.2 r.2.1⟩
def kr (W : Ty γ) (Post : γ → Prop) (T : Ty α) (A : Addr → Prop) (H0 : Hp) (x : α) (s : Addr) : Ko γ := { T := W, X := fun Γ z => OwnIs (OwRd T A H0 x) s Γ ∧ Post z, nx := fun Γ => OwnIs (OwRd T A H0 x) s Γ ∧ ∃ z, (∀ S H, W.R S H .non z) ∧ Post z }
theorem rd_ex {A : Addr → Prop} {T : Ty α} {H H' : Hp} {x : α} {S : Addr → Prop} {s : Addr} (f : Fr (fun b => b = s ∨ A b) H H') (r : (OwRd T A H x).R S H' s) : Ex H H' :=
  ⟨fun b o h z => by
    by_cases cb : A b
    · rw [r.2.2.2.1 b cb]; exact h
    · exact f.go b o (fun y => cb (y.elim (fun y => by rw [y]; exact r.1) id)) h z, f.ne, f.tab⟩
theorem enterx {S : Addr → Prop} {a : Addr} {x : α} {Post : γ → Prop} {H : Hp} {Q : VK} {vs : List V} {N : List Str} {t : TS} (ts : List Tmp) (tb : TabA H) (r : T.R S H (.ref a) x) (ho : ∀ (S : Addr → Prop), T.R S H (.ref a) x → S a) [pl : TyPl T] (hts : ∀ t ∈ ts, t.T.R (fun _ => False) H t.v t.x)
    (hv : vs = .ref a :: ts.map (·.v)) {Γ0 : List WSlot} (hΓ : Γ0 = List.replicate (N.length - (ts.length + 1)) .un) (q : ∀ r z H', Ex H H' → W.R (fun b => H b = none) H' r z → Post z → Q r H')
    (b : ∀ c A, Run c (.own ((OwRd T A H x).pin a) false :: (ts.map (fun t => WSlot.val t.T t.x) ++ Γ0)) t (kr W Post T A H x a)) : t { nx := fun _ H' => Q .non H', rt := Q } (start N vs) H := by
  subst hΓ hv
  have r' := pl.h r
  generalize hA : (fun b => S b ∧ ∃ u, H b = some u ∧ isPl u = true) = A at r'
  have hpl : ∀ b, A b → ∃ u, H b = some u ∧ isPl u = true := fun b hb => by rw [← hA] at hb; exact hb.2
  have ha := ho _ r'
  have := WEnv.startO (S := fun _ => False) (H := H) tb (o := OwRd T A H x) (s := a) (fun _ _ => id) ⟨ha, r', hpl, fun _ _ => rfl, .refl⟩ ts (N.length - (ts.length + 1)) hts
  refine (b _ A).run _ _ _ (by
    have e : L2.start N (.ref a :: ts.map (·.v)) = some (V.ref a) :: (ts.map (fun t => some t.v) ++ List.replicate (N.length - (ts.length + 1)) none) := by
      unfold L2.start
      simp
    rw [e]; exact this) ?_
  refine ⟨fun v y Γ' σ' H' e r2 ⟨h, x⟩ => ?_, fun Γ' σ' H' e ⟨h, z, r2, x⟩ => ?_, fun _ _ _ _ z => z.elim, fun _ _ _ _ z => z.elim⟩
  · obtain ⟨o', h, hc⟩ := h
    obtain ⟨a', _, r3, z⟩ := e.own h
    obtain rfl : a' = a := r3.1
    exact q v y H' (rd_ex e.fr (hc _ _ r3.2)) (W.imp r2 fun b hb => hb.1.elim False.elim id) x
  · obtain ⟨o', h, hc⟩ := h
    obtain ⟨a', _, r3, z'⟩ := e.own h
    obtain rfl : a' = a := r3.1
    exact q .non z H' (rd_ex e.fr (hc _ _ r3.2)) (r2 _ _) x
/-- values that are objects -/
class TyRef (T : Ty α) : Prop where
  h : ∀ {S : Addr → Prop} {H : Hp} {v : V} {x : α}, T.R S H v x → ∃ a, v = .ref a ∧ ∀ S', T.R S' H v x → S' a
theorem enterx1 [TyPl T] [TyRef T] {Pre : α → Prop} {Post : α → γ → Prop} {vs : List V} {H : Hp} {Q : VK} {E : XK} {N : List Str} {t : TS} (h : pfx1 T W Pre Post vs H Q E) {Γ0 : List WSlot} (hΓ : Γ0 = List.replicate (N.length - 1) .un)
    (b : ∀ c A H a x, Pre x → Run c (.own ((OwRd T A H x).pin a) false :: Γ0) t (kr W (Post x) T A H x a)) : t { nx := fun _ H' => Q .non H', rt := Q } (start N vs) H := by
  obtain ⟨S, v, x, rfl, tb, r1, hp, q⟩ := h
  obtain ⟨a, rfl, ha⟩ := TyRef.h r1
  exact enterx [] tb r1 ha (fun t z => by cases z) rfl hΓ q fun c A => b c A H a x hp
theorem enterx2 [TyPl T] [TyRef T] [TySc U] {Pre : α → β → Prop} {Post : α → β → γ → Prop} {vs : List V} {H : Hp} {Q : VK} {E : XK} {N : List Str} {t : TS} (h : pfx2 T U W Pre Post vs H Q E) {Γ0 : List WSlot} (hΓ : Γ0 = List.replicate (N.length - 2) .un)
    (b : ∀ c A H a x y, Pre x y → Run c (.own ((OwRd T A H x).pin a) false :: .val U y :: Γ0) t (kr W (Post x y) T A H x a)) : t { nx := fun _ H' => Q .non H', rt := Q } (start N vs) H := by
  obtain ⟨S, v, w, x, y, rfl, tb, r1, r2, hp, q⟩ := h
  obtain ⟨a, rfl, ha⟩ := TyRef.h r1
  exact enterx [⟨U, y, w⟩] tb r1 ha (fun t z => by rw [List.mem_singleton.mp z]; exact TySc.h r2) rfl hΓ q fun c A => b c A H a x y hp
theorem lenx2 {Pre : α → β → Prop} {Post : α → β → γ → Prop} {vs : List V} {H : Hp} {Q : VK} {E : XK} (h : pfx2 T U W Pre Post vs H Q E) : vs.length = 2 := by obtain ⟨_, _, _, _, _, rfl, _⟩ := h; rfl
/-! methods that look -/
class TyIns (T : Ty α) (C : Addr) (fl : outParam (List Str)) : Prop where
  h : ∀ {S : Addr → Prop} {H : Hp} {v : V} {x : α}, T.R S H v x → ∃ a dx fs, v = .ref a ∧ H a = some (.ins C dx fs) ∧ fs.map (·.1) = fl
theorem lookup_no {fs : List (Str × V)} {mm : Str} (h : mm ∉ fs.map (·.1)) : fs.lookup mm = none := by
  induction fs with
  | nil => rfl
  | cons p fs ih =>
    obtain ⟨k, v⟩ := p
    rw [List.map_cons] at h
    have h1 : (mm == k) = false := by
      rw [beq_eq_false_iff_ne]
      exact fun z => h (by rw [z]; exact List.mem_cons_self)
    rw [List.lookup_cons, h1]
    exact ih fun z => h (List.mem_cons_of_mem _ z)
variable {C : Addr} {mm : Str} {E : XK} {fl : List Str}
theorem p_m1 [z : TyIns T C fl] (hm : mm ∉ fl) {Pre : α → Prop} {Post : α → γ → Prop} {ta : TE} {X : γ → Prop} (h : P m c Γ ta T fun x => Pre x ∧ ∀ z, Post x z → X z) : P m c Γ (tMeth C mm (pf1 T W Pre Post) [] E ta tNil) W X := .mk fun σ H Q e q =>
  h.run σ H _ e fun v x H1 e1 f1 r1 hx => by
    obtain ⟨a, dx, fs, rfl, ha, hl⟩ := z.h r1
    exact ⟨a, dx, fs, rfl, ha, lookup_no (by rw [hl]; exact hm), _, .ref a, x, rfl, e1.tabA, r1, hx.1, fun r z H2 x2 r2 hz => q r z H2 (e1.ex x2) (f1.exr x2) (W.imp r2 e1.nwF) (hx.2 z hz)⟩
theorem p_m2 [z : TyIns T C fl] (hm : mm ∉ fl) {Pre : α → β → Prop} {Post : α → β → γ → Prop} {ta tb : TE} {X : γ → Prop} (h : P m c Γ ta T fun x => P m c Γ tb U fun y => Pre x y ∧ ∀ z, Post x y z → X z) : P m c Γ (tMeth C mm (pf2 T U W Pre Post) [] E ta (tCons tb tNil)) W X := .mk fun σ H Q e q =>
  h.run σ H _ e fun v x H1 e1 f1 r1 hb => by
    obtain ⟨a, dx, fs, rfl, ha, hl⟩ := z.h r1
    exact ⟨a, dx, fs, rfl, ha, lookup_no (by rw [hl]; exact hm), hb.run σ H1 _ e1 fun w y H2 e2 f2 r2 hx => ⟨_, .ref a, w, x, y, rfl, e2.tabA, T.stp r1 (e1.stp_fx f2), r2, hx.1, fun r z H3 x3 r3 hz => q r z H3 (e2.ex x3) ((f1.trans f2).exr x3) (W.imp r3 e2.nwF) (hx.2 z hz)⟩⟩
theorem p_m3 {V' : Ty ε} [z : TyIns T C fl] (hm : mm ∉ fl) {Pre : α → β → ε → Prop} {Post : α → β → ε → γ → Prop} {ta tb tc : TE} {X : γ → Prop} (h : P m c Γ ta T fun x => P m c Γ tb U fun y => P m c Γ tc V' fun z => Pre x y z ∧ ∀ s, Post x y z s → X s) : P m c Γ (tMeth C mm (pf3 T U V' W Pre Post) [] E ta (tCons tb (tCons tc tNil))) W X := .mk fun σ H Q e q =>
  h.run σ H _ e fun v x H1 e1 f1 r1 hb => by
    obtain ⟨a, dx, fs, rfl, ha, hl⟩ := z.h r1
    exact ⟨a, dx, fs, rfl, ha, lookup_no (by rw [hl]; exact hm), hb.run σ H1 _ e1 fun w y H2 e2 f2 r2 hc => hc.run σ H2 _ e2 fun u z H3 e3 f3 r3 hx => ⟨_, .ref a, w, u, x, y, z, rfl, e3.tabA, T.stp (T.stp r1 (e1.stp_fx f2)) (e2.stp_fx f3), U.stp r2 (e2.stp_fx f3), r3, hx.1, fun r s H4 x4 r4 hz => q r s H4 (e3.ex x4) (((f1.trans f2).trans f3).exr x4) (W.imp r4 e3.nwF) (hx.2 s hz)⟩⟩
theorem px_m1 [z : TyIns T C fl] (hm : mm ∉ fl) {Pre : α → Prop} {Post : α → γ → Prop} {ta : TE} {X : γ → Prop} (h : P false c Γ ta T fun x => Pre x ∧ ∀ z, Post x z → X z) : PX c Γ (tMeth C mm (pfx1 T W Pre Post) [] E ta tNil) W X := .mk fun σ H Q e q =>
  h.run σ H _ e fun v x H1 e1 f1 r1 hx => by
    obtain ⟨a, dx, fs, rfl, ha, hl⟩ := z.h r1
    exact ⟨a, dx, fs, rfl, ha, lookup_no (by rw [hl]; exact hm), _, .ref a, x, rfl, e1.tabA, r1, hx.1, fun r z H2 x2 r2 hz => q r z H2 (e1.ex x2) (f1.exr x2) (W.imp r2 fun _ h => f1.fresh h) (hx.2 z hz)⟩
theorem px_m2 [z : TyIns T C fl] (hm : mm ∉ fl) {Pre : α → β → Prop} {Post : α → β → γ → Prop} {ta tb : TE} {X : γ → Prop} (h : P false c Γ ta T fun x => P false c Γ tb U fun y => Pre x y ∧ ∀ z, Post x y z → X z) : PX c Γ (tMeth C mm (pfx2 T U W Pre Post) [] E ta (tCons tb tNil)) W X := .mk fun σ H Q e q =>
  h.run σ H _ e fun v x H1 e1 f1 r1 hb => by
    obtain ⟨a, dx, fs, rfl, ha, hl⟩ := z.h r1
    exact ⟨a, dx, fs, rfl, ha, lookup_no (by rw [hl]; exact hm), hb.run σ H1 _ e1 fun w y H2 e2 f2 r2 hx => ⟨_, .ref a, w, x, y, rfl, e2.tabA, T.stp r1 (e1.stp_fx f2), r2, hx.1, fun r z H3 x3 r3 hz => q r z H3 (e2.ex x3) ((f1.trans f2).exr x3) (W.imp r3 fun _ h => (f1.trans f2).fresh h) (hx.2 z hz)⟩⟩
/-! what changes the object's state -/
class OwFp (o : ι → ε → Ow) : Prop where
  fp : ∀ i x y b, (o i x).fp b → (o i y).fp b
class OwIns (o : ι → ε → Ow) (C : Addr) (fl : outParam (List Str)) : Prop where
  h : ∀ {i : ι} {x : ε} {S : Addr → Prop} {H : Hp} {a : Addr}, (o i x).R S H a → ∃ dx fs, H a = some (.ins C dx fs) ∧ fs.map (·.1) = fl
def pm0 (o : ι → ε → Ow) (W : Ty γ) (Pre : ε → Prop) (Post : ε → ε → γ → Prop) : Sp := fun vs H Q _ => ∃ i st S s, vs = [.ref s] ∧ TabA H ∧ (o i st).R S H s ∧ (∀ b, b = s ∨ (o i st).fp b → ¬ S b) ∧ Pre st ∧ ∀ r st' z H', Fr (fun b => b = s ∨ (o i st).fp b) H H' → (o i st').R (fun b => S b ∨ H b = none) H' s → W.R (fun b => S b ∨ H b = none) H' r z → Post st st' z → Q r H'
def pm1 (o : ι → ε → Ow) (T : Ty α) (W : Ty γ) (Pre : ε → α → Prop) (Post : ε → α → ε → γ → Prop) : Sp := fun vs H Q _ => ∃ i st S s v x, vs = [.ref s, v] ∧ TabA H ∧ (o i st).R S H s ∧ (∀ b, b = s ∨ (o i st).fp b → ¬ S b) ∧ T.R S H v x ∧ Pre st x ∧ ∀ r st' z H', Fr (fun b => b = s ∨ (o i st).fp b) H H' → (o i st').R (fun b => S b ∨ H b = none) H' s → W.R (fun b => S b ∨ H b = none) H' r z → Post st x st' z → Q r H'
def pm2 (o : ι → ε → Ow) (T : Ty α) (U : Ty β) (W : Ty γ) (Pre : ε → α → β → Prop) (Post : ε → α → β → ε → γ → Prop) : Sp := fun vs H Q _ => ∃ i st S s v w x y, vs = [.ref s, v, w] ∧ TabA H ∧ (o i st).R S H s ∧ (∀ b, b = s ∨ (o i st).fp b → ¬ S b) ∧ T.R S H v x ∧ U.R S H w y ∧ Pre st x y ∧ ∀ r st' z H', Fr (fun b => b = s ∨ (o i st).fp b) H H' → (o i st').R (fun b => S b ∨ H b = none) H' s → W.R (fun b => S b ∨ H b = none) H' r z → Post st x y st' z → Q r H'
theorem own_step {o : ι → ε → Ow} [z : OwFp o] {σ : L2.St} {H H' : Hp} {i : Nat} {j : ι} {st st' : ε} {s : Addr} {n : Bool} (e : WEnv c Γ σ H) (hi : Γ[i]? = some (.own ((o j st).pin s) n)) (ha : σ[i]? = some (some (.ref s))) (f : Fr (fun b => b = s ∨ (o j st).fp b) H H') (r : (o j st').R (fun b => Sx c Γ σ b ∨ H b = none) H' s) : WEnv c (Γ.set i (.own ((o j st').pin s) n)) σ H' :=
  e.mut (o' := (o j st').pin s) hi ha f (fun b hb => .inl (z.fp j st' st b hb)) ⟨rfl, (o j st').mono (fun b hb => ⟨e.nwS b hb, fun y => (e.nwS b hb).2.1 ⟨i, _, n, s, hi, ha, .inr (z.fp j st' st b y)⟩⟩) .refl (fun _ _ => rfl) r⟩
variable {o : ι → ε → Ow} {i : Nat} {j : ι} {st : ε} {s : Addr} {n : Bool}
theorem run_c0 [OwFp o] {Pre : ε → Prop} {Post : ε → ε → γ → Prop} (hi : Γ[i]? = some (.own ((o j st).pin s) n)) (hp : Pre st) (h : ∀ st' z, Post st st' z → K.nx (Γ.set i (.own ((o j st').pin s) n))) : Run c Γ (tDrop (tCall (pm0 o W Pre Post) [] E (tCons (tVar i) tNil))) K := .mk fun D σ H e k => by
  obtain ⟨a, ha, r, _⟩ := e.own hi
  obtain rfl : a = s := r.1
  exact ⟨.ref a, ha, j, st, Sx c Γ σ, a, rfl, e.tabA, r.2, fun b hb z => z.2.1 ⟨i, _, n, a, hi, ha, hb⟩, hp, fun u st' z H' f o' w hz => k.nx _ _ _ (own_step e hi ha f o') (h st' z hz)⟩
theorem run_m0 [OwFp o] [zi : OwIns o C fl] (hm : mm ∉ fl) {Pre : ε → Prop} {Post : ε → ε → γ → Prop} (hi : Γ[i]? = some (.own ((o j st).pin s) n)) (hp : Pre st) (h : ∀ st' z, Post st st' z → K.nx (Γ.set i (.own ((o j st').pin s) n))) : Run c Γ (tDrop (tMeth C mm (pm0 o W Pre Post) [] E (tVar i) tNil)) K := .mk fun D σ H e k => by
  obtain ⟨a, ha, r, _⟩ := e.own hi
  obtain rfl : a = s := r.1
  obtain ⟨dx, fs, hx, hl⟩ := zi.h r.2
  exact ⟨.ref a, ha, a, dx, fs, rfl, hx, lookup_no (by rw [hl]; exact hm), j, st, Sx c Γ σ, a, rfl, e.tabA, r.2, fun b hb z => z.2.1 ⟨i, _, n, a, hi, ha, hb⟩, hp, fun u st' z H' f o' w hz => k.nx _ _ _ (own_step e hi ha f o') (h st' z hz)⟩
theorem run_c1 [OwFp o] {Pre : ε → α → Prop} {Post : ε → α → ε → γ → Prop} {ta : TE} (hi : Γ[i]? = some (.own ((o j st).pin s) n)) (h : P true c Γ ta T fun x => Pre st x ∧ ∀ st' z, Post st x st' z → K.nx (Γ.set i (.own ((o j st').pin s) n))) : Run c Γ (tDrop (tCall (pm1 o T W Pre Post) [] E (tCons (tVar i) (tCons ta tNil)))) K := .mk fun D σ H e k => by
  obtain ⟨a, ha, r, _⟩ := e.own hi
  obtain rfl : a = s := r.1
  refine ⟨.ref a, ha, h.run σ H _ e fun v x H1 e1 f1 r1 hx => ?_⟩
  obtain ⟨a', ha', r', _⟩ := e1.own hi
  rw [ha] at ha'
  cases ha'
  exact ⟨j, st, Sx c Γ σ, a, v, x, rfl, e1.tabA, r'.2, fun b hb z => z.2.1 ⟨i, _, n, a, hi, ha, hb⟩, T.imp r1 fun _ => fx_t, hx.1, fun u st' z H' f o' w hz => k.nx _ _ _ (own_step e1 hi ha f o') (hx.2 st' z hz)⟩
theorem run_m1 [OwFp o] [zi : OwIns o C fl] (hm : mm ∉ fl) {Pre : ε → α → Prop} {Post : ε → α → ε → γ → Prop} {ta : TE} (hi : Γ[i]? = some (.own ((o j st).pin s) n)) (h : P true c Γ ta T fun x => Pre st x ∧ ∀ st' z, Post st x st' z → K.nx (Γ.set i (.own ((o j st').pin s) n))) : Run c Γ (tDrop (tMeth C mm (pm1 o T W Pre Post) [] E (tVar i) (tCons ta tNil))) K := .mk fun D σ H e k => by
  obtain ⟨a, ha, r, _⟩ := e.own hi
  obtain rfl : a = s := r.1
  obtain ⟨dx, fs, hx, hl⟩ := zi.h r.2
  refine ⟨.ref a, ha, a, dx, fs, rfl, hx, lookup_no (by rw [hl]; exact hm), h.run σ H _ e fun v x H1 e1 f1 r1 hx => ?_⟩
  obtain ⟨a', ha', r', _⟩ := e1.own hi
  rw [ha] at ha'
  cases ha'
  exact ⟨j, st, Sx c Γ σ, a, v, x, rfl, e1.tabA, r'.2, fun b hb z => z.2.1 ⟨i, _, n, a, hi, ha, hb⟩, T.imp r1 fun _ => fx_t, hx.1, fun u st' z H' f o' w hz => k.nx _ _ _ (own_step e1 hi ha f o') (hx.2 st' z hz)⟩
theorem run_c2 [OwFp o] {Pre : ε → α → β → Prop} {Post : ε → α → β → ε → γ → Prop} {ta tb : TE} (hi : Γ[i]? = some (.own ((o j st).pin s) n)) (h : P true c Γ ta T fun x => P true c Γ tb U fun y => Pre st x y ∧ ∀ st' z, Post st x y st' z → K.nx (Γ.set i (.own ((o j st').pin s) n))) : Run c Γ (tDrop (tCall (pm2 o T U W Pre Post) [] E (tCons (tVar i) (tCons ta (tCons tb tNil))))) K := .mk fun D σ H e k => by
  obtain ⟨a, ha, r, _⟩ := e.own hi
  obtain rfl : a = s := r.1
  refine ⟨.ref a, ha, h.run σ H _ e fun v x H1 e1 f1 r1 hb => hb.run σ H1 _ e1 fun w y H2 e2 f2 r2 hx => ?_⟩
  obtain ⟨a', ha', r', _⟩ := e2.own hi
  rw [ha] at ha'
  cases ha'
  exact ⟨j, st, Sx c Γ σ, a, v, w, x, y, rfl, e2.tabA, r'.2, fun b hb z => z.2.1 ⟨i, _, n, a, hi, ha, hb⟩, T.imp (T.stp r1 (e1.stp_fx f2)) fun _ => fx_t, U.imp r2 fun _ => fx_t, hx.1, fun u st' z H' f o' w hz => k.nx _ _ _ (own_step e2 hi ha f o') (hx.2 st' z hz)⟩
theorem run_m2 [OwFp o] [zi : OwIns o C fl] (hm : mm ∉ fl) {Pre : ε → α → β → Prop} {Post : ε → α → β → ε → γ → Prop} {ta tb : TE} (hi : Γ[i]? = some (.own ((o j st).pin s) n)) (h : P true c Γ ta T fun x => P true c Γ tb U fun y => Pre st x y ∧ ∀ st' z, Post st x y st' z → K.nx (Γ.set i (.own ((o j st').pin s) n))) : Run c Γ (tDrop (tMeth C mm (pm2 o T U W Pre Post) [] E (tVar i) (tCons ta (tCons tb tNil)))) K := .mk fun D σ H e k => by
  obtain ⟨a, ha, r, _⟩ := e.own hi
  obtain rfl : a = s := r.1
  obtain ⟨dx, fs, hx, hl⟩ := zi.h r.2
  refine ⟨.ref a, ha, a, dx, fs, rfl, hx, lookup_no (by rw [hl]; exact hm), h.run σ H _ e fun v x H1 e1 f1 r1 hb => hb.run σ H1 _ e1 fun w y H2 e2 f2 r2 hx => ?_⟩
  obtain ⟨a', ha', r', _⟩ := e2.own hi
  rw [ha] at ha'
  cases ha'
  exact ⟨j, st, Sx c Γ σ, a, v, w, x, y, rfl, e2.tabA, r'.2, fun b hb z => z.2.1 ⟨i, _, n, a, hi, ha, hb⟩, T.imp (T.stp r1 (e1.stp_fx f2)) fun _ => fx_t, U.imp r2 fun _ => fx_t, hx.1, fun u st' z H' f o' w hz => k.nx _ _ _ (own_step e2 hi ha f o') (hx.2 st' z hz)⟩
/-! entering them -/
def km (o : ι → ε → Ow) (j : ι) (s : Addr) (W : Ty γ) (Post : ε → γ → Prop) : Ko γ := { T := W, X := fun Γ z => ∃ st, OwnIs (o j st) s Γ ∧ Post st z, nx := fun Γ => ∃ st, OwnIs (o j st) s Γ ∧ ∃ z, (∀ S H, W.R S H .non z) ∧ Post st z }
theorem km_ok {S : Addr → Prop} {H : Hp} {tb : TabA H} {Q : VK} {M : Addr → Prop} {Post : ε → γ → Prop} (q : ∀ r st z H', Fr M H H' → (o j st).R (fun b => S b ∨ H b = none) H' s → W.R (fun b => S b ∨ H b = none) H' r z → Post st z → Q r H') : KoOk ⟨H, S, M, fun _ => False, fun _ => False, [], fun _ z => z.elim, tb⟩ (km o j s W Post) { nx := fun _ H' => Q .non H', rt := Q } := by
  refine ⟨fun v y Γ' σ' H' e r ⟨st, h, x⟩ => ?_, fun Γ' σ' H' e ⟨st, h, z, r, x⟩ => ?_, fun _ _ _ _ z => z.elim, fun _ _ _ _ z => z.elim⟩
  all_goals
    obtain ⟨o', h, hc⟩ := h
    obtain ⟨a, _, r', _⟩ := e.own h
    obtain rfl : a = s := r'.1
    have ro := (o j st).mono (S' := fun b => S b ∨ H b = none) (fun b hb => hb.1) .refl (fun _ _ => rfl) (hc _ _ r'.2)
  · exact q v st y H' e.fr ro (W.imp r fun b hb => hb.1) x
  · exact q .non st z H' e.fr ro (r _ _) x
theorem enterm0 {Pre : ε → Prop} {Post : ε → ε → γ → Prop} {vs : List V} {H : Hp} {Q : VK} {N : List Str} {t : TS} (h : pm0 o W Pre Post vs H Q E) {Γ0 : List WSlot} (hΓ : Γ0 = List.replicate (N.length - 1) .un) (b : ∀ c j s st, Pre st → Run c (.own ((o j st).pin s) false :: Γ0) t (km o j s W (Post st))) : t { nx := fun _ H' => Q .non H', rt := Q } (start N vs) H := by
  subst hΓ
  obtain ⟨j, st, S, s, rfl, tb, ho, hs, hp, q⟩ := h
  have := WEnv.startO (S := S) (H := H) tb hs ho [] (N.length - 1) (fun t z => by cases z)
  exact (b _ j s st hp).run _ _ _ this (km_ok fun r st' z H' f o' w x => q r st' z H' f o' w x)
theorem enterm1 {Pre : ε → α → Prop} {Post : ε → α → ε → γ → Prop} {vs : List V} {H : Hp} {Q : VK} {N : List Str} {t : TS} (h : pm1 o T W Pre Post vs H Q E) {Γ0 : List WSlot} (hΓ : Γ0 = List.replicate (N.length - 2) .un) (b : ∀ c j s st x, Pre st x → Run c (.own ((o j st).pin s) false :: .val T x :: Γ0) t (km o j s W (Post st x))) : t { nx := fun _ H' => Q .non H', rt := Q } (start N vs) H := by
  subst hΓ
  obtain ⟨j, st, S, s, v, x, rfl, tb, ho, hs, r1, hp, q⟩ := h
  have := WEnv.startO (S := S) (H := H) tb hs ho [⟨T, x, v⟩] (N.length - 2) (fun t z => by rw [List.mem_singleton.mp z]; exact r1)
  exact (b _ j s st x hp).run _ _ _ this (km_ok fun r st' z H' f o' w x => q r st' z H' f o' w x)
theorem enterm2 {Pre : ε → α → β → Prop} {Post : ε → α → β → ε → γ → Prop} {vs : List V} {H : Hp} {Q : VK} {N : List Str} {t : TS} (h : pm2 o T U W Pre Post vs H Q E) {Γ0 : List WSlot} (hΓ : Γ0 = List.replicate (N.length - 3) .un) (b : ∀ c j s st x y, Pre st x y → Run c (.own ((o j st).pin s) false :: .val T x :: .val U y :: Γ0) t (km o j s W (Post st x y))) : t { nx := fun _ H' => Q .non H', rt := Q } (start N vs) H := by
  subst hΓ
  obtain ⟨j, st, S, s, v, w, x, y, rfl, tb, ho, hs, r1, r2, hp, q⟩ := h
  have := WEnv.startO (S := S) (H := H) tb hs ho [⟨T, x, v⟩, ⟨U, y, w⟩] (N.length - 3) (fun t z => by
    rcases List.mem_cons.mp z with z | z
    · rw [z]; exact r1
    · rw [List.mem_singleton.mp z]; exact r2)
  exact (b _ j s st x y hp).run _ _ _ this (km_ok fun r st' z H' f o' w x => q r st' z H' f o' w x)
theorem lenm0 {Pre : ε → Prop} {Post : ε → ε → γ → Prop} {vs : List V} {H : Hp} {Q : VK} (h : pm0 o W Pre Post vs H Q E) : vs.length = 1 := by obtain ⟨_, _, _, _, rfl, _⟩ := h; rfl
theorem lenm1 {Pre : ε → α → Prop} {Post : ε → α → ε → γ → Prop} {vs : List V} {H : Hp} {Q : VK} (h : pm1 o T W Pre Post vs H Q E) : vs.length = 2 := by obtain ⟨_, _, _, _, _, _, rfl, _⟩ := h; rfl
theorem lenm2 {Pre : ε → α → β → Prop} {Post : ε → α → β → ε → γ → Prop} {vs : List V} {H : Hp} {Q : VK} (h : pm2 o T U W Pre Post vs H Q E) : vs.length = 3 := by obtain ⟨_, _, _, _, _, _, _, _, rfl, _⟩ := h; rfl
end
end TP

namespace TP
open PySem PySem.Spec PyProof.Rows L2
/-! ### typed readings: logs -/
structure LogSt where
  start : D
  ps : List D
  past : List (D × List D)
def LogSt.cur (x : LogSt) : D × List D := (x.start, x.ps)
def lFl : List Str := ["start", "patches", "past"]
structure LFacts (K : PySem.W.Frag) (C : Addr) : Prop where
  cl : Cls K C
  nS : NoAttr K C "start"
  nP : NoAttr K C "patches"
  nA : NoAttr K C "past"
section
variable [TabL]
abbrev TKp (G : Gen) (n : Nat) : Ty (D × List D) := TPair (TDoc G n) (TLst (TDoc G n))
def LogR (C : Addr) (G : Gen) (n : Nat) (S : Addr → Prop) (H : Hp) (a dx p : Addr) (st : LogSt) : Prop := a ≠ p ∧ ∃ v1 v2 ws, H a = some (.ins C dx [("start", v1), ("patches", v2), ("past", .ref p)]) ∧ (TDoc G n).R S H v1 st.start ∧ (TLst (TDoc G n)).R S H v2 st.ps ∧ H p = some (.lst ws) ∧ ws.length ≤ sizeLine ∧ Paired ((TKp G n).R S H) ws st.past
theorem LogR.mono {C : Addr} {G : Gen} {n : Nat} {S S' : Addr → Prop} {H H' : Hp} {a dx p : Addr} {st : LogSt} (r : LogR C G n S H a dx p st) (h : ∀ b, S b → S' b) (z : Kpt S H H') (ea : H' a = H a) (ep : H' p = H p) : LogR C G n S' H' a dx p st := by
  obtain ⟨ne, v1, v2, ws, h1, h2, h3, h4, h5, h6⟩ := r
  exact ⟨ne, v1, v2, ws, by rw [ea]; exact h1, (TDoc G n).mono h z h2, (TLst (TDoc G n)).mono h z h3, by rw [ep]; exact h4, h5, h6.imp fun _ _ y => (TKp G n).mono h z y⟩
theorem LogR.alloc {C : Addr} {G : Gen} {n : Nat} {S : Addr → Prop} {H : Hp} {a dx p : Addr} {st : LogSt} (r : LogR C G n S H a dx p st) : LogR C G n (fun b => S b ∧ H b ≠ none) H a dx p st := by
  obtain ⟨ne, v1, v2, ws, h1, h2, h3, h4, h5, h6⟩ := r
  exact ⟨ne, v1, v2, ws, h1, (TDoc G n).alloc h2, (TLst (TDoc G n)).alloc h3, h4, h5, h6.imp fun _ _ y => (TKp G n).alloc y⟩
def OwLog (C : Addr) (G : Gen) (n : Nat) (i : Addr × Addr) (st : LogSt) : Ow where
  fp := fun b => b = i.2
  R := fun S H a => LogR C G n S H a i.1 i.2 st
  mono := fun h z e r => r.mono h z (e _ (.inl rfl)) (e _ (.inr rfl))
  alloc := fun r => r.alloc
  has := fun {S H a} r b hb => by
    obtain ⟨ne, v1, v2, ws, h1, h2, h3, h4, h5, h6⟩ := r
    rcases hb with rfl | rfl
    · exact ⟨_, h1, rfl⟩
    · exact ⟨_, h4, rfl⟩
  pl := false
  plh := fun z => nomatch z
def TLog (C : Addr) (G : Gen) (n : Nat) : Ty LogSt := ⟨fun S H v st => ∃ a dx p, v = .ref a ∧ S a ∧ S p ∧ LogR C G n S H a dx p st,
  fun {S S' H H' v x} h z ⟨a, dx, p, e, sa, sp, r⟩ => ⟨a, dx, p, e, h a sa, h p sp, by
    obtain ⟨ne, v1, v2, ws, h1, h2, h3, h4, h5, h6⟩ := r
    exact LogR.mono ⟨ne, v1, v2, ws, h1, h2, h3, h4, h5, h6⟩ h z (by rw [h1]; exact z.go a _ sa rfl h1) (by rw [h4]; exact z.go p _ sp rfl h4)⟩,
  fun {S H v x} ⟨a, dx, p, e, sa, sp, r⟩ => ⟨a, dx, p, e, ⟨sa, by
    obtain ⟨ne, v1, v2, ws, h1, _⟩ := r
    rw [h1]; exact fun z => nomatch z⟩, ⟨sp, by
    obtain ⟨ne, v1, v2, ws, h1, h2, h3, h4, h5, h6⟩ := r
    rw [h4]; exact fun z => nomatch z⟩, r.alloc⟩⟩
variable {C : Addr} {G : Gen} {n : Nat}
instance {i : Addr × Addr} {st : LogSt} : OwV (OwLog C G n i st) (TLog C G n) st := ⟨rfl, fun {S H a} r => ⟨a, i.1, i.2, rfl, .inr (.inl rfl), .inr (.inr rfl), LogR.mono r (fun _ => .inl) .refl rfl rfl⟩⟩
instance : OwFp (OwLog C G n) := ⟨fun _ _ _ _ h => h⟩
instance : OwIns (OwLog C G n) C lFl := ⟨fun {i x S H a} r => by
  obtain ⟨ne, v1, v2, ws, h1, _⟩ := r
  exact ⟨_, _, h1, rfl⟩⟩
instance : TyIns (TLog C G n) C lFl := ⟨fun {S H v x} ⟨a, dx, p, e, _, _, ne, v1, v2, ws, h1, _⟩ => ⟨a, dx, _, e, h1, rfl⟩⟩
instance : TyRef (TLog C G n) := ⟨fun {S H v x} ⟨a, dx, p, e, sa, _, _⟩ => ⟨a, e, fun S' ⟨a', _, _, e', sa', _⟩ => by
  rw [e] at e'
  cases e'
  exact sa'⟩⟩
def Pla (H : Hp) (b : Addr) : Prop := ∃ u, H b = some u ∧ isPl u = true
theorem Dc.pla {S : Addr → Prop} {G : Gen} {H : Hp} : ∀ {n : Nat} {v : V} {d : D}, Dc S G H n v d → Dc (fun x => S x ∧ Pla H x) G H n v d
  | 0, _, _, h => h
  | n + 1, v, d, h => by
    rcases h with ⟨a, b⟩ | ⟨a, xs, e, s, r, x, d⟩ | ⟨a, ms, f, e, s, r, nd, ks, d, no, at'⟩
    · exact .inl ⟨a, b⟩
    · exact .inr (.inl ⟨a, xs, e, ⟨s, ⟨_, r, rfl⟩⟩, r, x, d⟩)
    · exact .inr (.inr ⟨a, ms, f, e, ⟨s, ⟨_, r, rfl⟩⟩, r, nd, ks, d, no, fun k u hu => Dc.pla (at' k u hu)⟩)
instance : TyPl (TDoc G n) := ⟨fun h => Dc.pla h⟩
instance {α : Type} {T : Ty α} [z : TyPl T] : TyPl (TLst T) := ⟨fun {S H v x} ⟨a, vs, e, s, r, l, p⟩ => ⟨a, vs, e, ⟨s, ⟨_, r, rfl⟩⟩, r, l, p.imp fun _ _ y => z.h y⟩⟩
instance {α β : Type} {T : Ty α} {U : Ty β} [z : TyPl T] [w : TyPl U] : TyPl (TPair T U) := ⟨fun {S H v x} ⟨a, v1, v2, e, s, r, p, q⟩ => ⟨a, v1, v2, e, ⟨s, ⟨_, r, rfl⟩⟩, r, z.h p, w.h q⟩⟩
instance : TyPl (TLog C G n) := ⟨fun {S H v x} ⟨a, dx, p, e, sa, sp, ne, v1, v2, ws, h1, h2, h3, h4, h5, h6⟩ => ⟨a, dx, p, e, ⟨sa, ⟨_, h1, rfl⟩⟩, ⟨sp, ⟨_, h4, rfl⟩⟩, ne, v1, v2, ws, h1, TyPl.h h2, TyPl.h (T := TLst (TDoc G n)) h3, h4, h5, h6.imp fun _ _ y => TyPl.h (T := TKp G n) y⟩⟩
variable {m : Bool} {c : WCtx} {Γ Γ' : List WSlot} {α β γ δ : Type} {K : Ko δ} {Kf : PySem.W.Frag}
/-! its fields, looked at -/
theorem p_lS (F : LFacts Kf C) {ta : TE} {X : D → Prop} (h : P m c Γ ta (TLog C G n) fun st => X st.start) : P m c Γ (tFld Kf ta "start") (TDoc G n) X := .mk fun σ H Q e q => h.run σ H _ e fun v st H1 e1 f1 ⟨a, dx, p, ev, sa, sp, ne, v1, v2, ws, h1, h2, h3, h4, h5, h6⟩ hx => ⟨a, C, dx, _, v1, ev, h1, F.cl, F.nS, rfl, q v1 _ H1 e1 f1 h2 hx⟩
theorem p_lP (F : LFacts Kf C) {ta : TE} {X : List D → Prop} (h : P m c Γ ta (TLog C G n) fun st => X st.ps) : P m c Γ (tFld Kf ta "patches") (TLst (TDoc G n)) X := .mk fun σ H Q e q => h.run σ H _ e fun v st H1 e1 f1 ⟨a, dx, p, ev, sa, sp, ne, v1, v2, ws, h1, h2, h3, h4, h5, h6⟩ hx => ⟨a, C, dx, _, v2, ev, h1, F.cl, F.nP, rfl, q v2 _ H1 e1 f1 h3 hx⟩
theorem p_lA (F : LFacts Kf C) {ta : TE} {X : List (D × List D) → Prop} (h : P m c Γ ta (TLog C G n) fun st => X st.past) : P m c Γ (tFld Kf ta "past") (TLst (TKp G n)) X := .mk fun σ H Q e q => h.run σ H _ e fun v st H1 e1 f1 ⟨a, dx, p, ev, sa, sp, ne, v1, v2, ws, h1, h2, h3, h4, h5, h6⟩ hx => ⟨a, C, dx, _, .ref p, ev, h1, F.cl, F.nA, rfl, q _ _ H1 e1 f1 ⟨p, ws, rfl, sp, h4, h5, h6⟩ hx⟩
/-! its fields, its own -/
variable {i : Nat} {j : Addr × Addr} {st : LogSt} {s : Addr} {k : Bool}
theorem p_oS (F : LFacts Kf C) {X : D → Prop} (hi : Γ[i]? = some (.own ((OwLog C G n j st).pin s) k)) (h : X st.start) : P m c Γ (tFld Kf (tVar i) "start") (TDoc G n) X := .mk fun σ H Q e q => by
  obtain ⟨a, ha, ⟨_, ne, v1, v2, ws, h1, h2, h3, h4, h5, h6⟩, _⟩ := e.own hi
  exact ⟨.ref a, ha, a, C, _, _, v1, rfl, h1, F.cl, F.nS, rfl, q v1 _ H e .refl ((TDoc G n).imp h2 fun _ => .inl) h⟩
theorem p_oP (F : LFacts Kf C) {X : List D → Prop} (hi : Γ[i]? = some (.own ((OwLog C G n j st).pin s) k)) (h : X st.ps) : P m c Γ (tFld Kf (tVar i) "patches") (TLst (TDoc G n)) X := .mk fun σ H Q e q => by
  obtain ⟨a, ha, ⟨_, ne, v1, v2, ws, h1, h2, h3, h4, h5, h6⟩, _⟩ := e.own hi
  exact ⟨.ref a, ha, a, C, _, _, v2, rfl, h1, F.cl, F.nP, rfl, q v2 _ H e .refl ((TLst (TDoc G n)).imp h3 fun _ => .inl) h⟩
theorem pb_past (F : LFacts Kf C) {X : Bool → Prop} (hi : Γ[i]? = some (.own ((OwLog C G n j st).pin s) k)) (h : X (!st.past.isEmpty)) : PB c Γ (fun σ H Q => tFld Kf (tVar i) "past" σ H fun x H' => ∃ k, TruV Kf x H' k ∧ Q k H') X := .mk fun σ H Q e q => by
  obtain ⟨a, ha, ⟨_, ne, v1, v2, ws, h1, h2, h3, h4, h5, h6⟩, _⟩ := e.own hi
  refine ⟨.ref a, ha, a, C, _, _, _, rfl, h1, F.cl, F.nA, rfl, !ws.isEmpty, .inl ⟨ws, .inl (.inl h4), rfl⟩, ?_⟩
  have : ws.isEmpty = st.past.isEmpty := by
    generalize st.past = qs at h6
    cases h6 <;> rfl
  rw [this]
  exact q _ H e .refl h
/-- self.past.append(e) -/
theorem run_push (F : LFacts Kf C) {te : TE} (hi : Γ[i]? = some (.own ((OwLog C G n j st).pin s) k)) (h : P true c Γ te (TKp G n) fun x => st.past.length < sizeLine ∧ K.nx (Γ.set i (.own ((OwLog C G n j { st with past := st.past ++ [x] }).pin s) k))) : Run c Γ (tDrop (tBM Kf "list" rAppend (tFld Kf (tVar i) "past") (tCons te tNil))) K := .mk fun D σ H e kk => by
  obtain ⟨a, ha, ⟨es, ne, v1, v2, ws, h1, h2, h3, h4, h5, h6⟩, _⟩ := e.own hi
  obtain rfl : a = s := es
  refine ⟨.ref a, ha, a, C, _, _, _, rfl, h1, F.cl, F.nA, rfl, .inl ⟨rfl, ws, .inl (.inl h4)⟩, h.run σ H _ e fun v x H1 e1 f1 r1 hx => ?_⟩
  obtain ⟨a', ha', ⟨_, ne', v1', v2', ws', h1', h2', h3', h4', h5', h6'⟩, _⟩ := e1.own hi
  rw [ha] at ha'
  cases ha'
  have f : Fr (fun b => b = a ∨ (OwLog C G n j st).fp b) H1 (upd H1 j.2 (.lst (ws' ++ [v]))) := (Fr.put h4' rfl).imp fun b z => .inr z
  have z := e1.stp_mut hi ha f
  refine ⟨j.2, ws', v, rfl, rfl, h4', by rw [h6'.len]; exact hx.1, kk.nx _ _ _ (own_step (st' := { st with past := st.past ++ [x] }) e1 hi ha f ⟨ne', v1', v2', ws' ++ [v], by rw [upd_ne ne']; exact h1', (TDoc G n).mono (fun _ => .inl) z h2', (TLst (TDoc G n)).mono (fun _ => .inl) z h3', upd_same, ?_, ?_⟩) hx.2⟩
  · rw [List.length_append, h6'.len]; exact hx.1
  · exact (h6'.imp fun _ _ y => (TKp G n).mono (fun _ => .inl) z y).app (.cons ((TKp G n).mono (fun _ y => .inl (fx_t y)) (z.imp fun _ => fx_t) r1) .nil)
/-- self.start, self.patches = value: the pair stands at q -/
theorem set_two (F : LFacts Kf C) {σ : L2.St} {H : Hp} {Z : Ends} {x : D} {ys pst} {v1 v2 : V} {q : Addr} (hi : Γ[i]? = some (.own ((OwLog C G n j st).pin s) k)) (e : WEnv c Γ σ H) (hq : H q = some (.tup [v1, v2])) (r1 : (TDoc G n).R (Sx c Γ σ) H v1 x) (r2 : (TLst (TDoc G n)).R (Sx c Γ σ) H v2 ys) (hp : st.past = pst) (kk : ∀ H', WEnv c (Γ.set i (.own ((OwLog C G n j ⟨x, ys, pst⟩).pin s) k)) σ H' → Z.nx σ H') :
    gTup Kf 2 (gCons (gFld Kf (tVar i) "start") (gCons (gFld Kf (tVar i) "patches") gNil)) (.ref q) σ H Z.nx := by
  obtain ⟨a, ha, ⟨es, ne, w1, w2, ws, h1, h2, h3, h4, h5, h6⟩, _⟩ := e.own hi
  obtain rfl : a = s := es
  refine ⟨q, _, rfl, .inl (.inl hq), rfl, v1, _, rfl, .ref a, ha, a, C, _, _, rfl, h1, F.cl, F.nS, (by show 3 < 1000; decide), v2, _, rfl, .ref a, ha, a, C, _, _, rfl, upd_same, F.cl, F.nP, (by show 3 < 1000; decide), rfl, ?_⟩
  rw [show upd (upd H a (.ins C j.1 (putF "start" v1 [("start", w1), ("patches", w2), ("past", .ref j.2)]))) a (.ins C j.1 (putF "patches" v2 (putF "start" v1 [("start", w1), ("patches", w2), ("past", .ref j.2)]))) = upd H a (.ins C j.1 [("start", v1), ("patches", v2), ("past", .ref j.2)]) from by
    funext b
    by_cases z : b = a
    · rw [z, upd_same, upd_same]; rfl
    · rw [upd_ne z, upd_ne z, upd_ne z]]
  have f : Fr (fun b => b = a ∨ (OwLog C G n j st).fp b) H (upd H a (.ins C j.1 [("start", v1), ("patches", v2), ("past", .ref j.2)])) := (Fr.put h1 rfl).imp fun b z => .inl z
  have z := e.stp_mut hi ha f
  subst hp
  exact kk _ (own_step (st' := ⟨x, ys, st.past⟩) e hi ha f ⟨ne, v1, v2, ws, upd_same, (TDoc G n).mono (fun _ => .inl) z r1, (TLst (TDoc G n)).mono (fun _ => .inl) z r2, by rw [upd_ne ne.symm]; exact h4, h5, h6.imp fun _ _ y => (TKp G n).mono (fun _ => .inl) z y⟩)
theorem run_two (F : LFacts Kf C) {ta tb : TE} (hi : Γ[i]? = some (.own ((OwLog C G n j st).pin s) k)) (h : P true c Γ ta (TDoc G n) fun x => P true c Γ tb (TLst (TDoc G n)) fun ys => K.nx (Γ.set i (.own ((OwLog C G n j { st with start := x, ps := ys }).pin s) k))) :
    Run c Γ (tAsg (tTup (tCons ta (tCons tb tNil))) (gTup Kf 2 (gCons (gFld Kf (tVar i) "start") (gCons (gFld Kf (tVar i) "patches") gNil)))) K := .mk fun D σ H e kk => by
  refine h.run σ H _ e fun v x H1 e1 f1 r1 hb => hb.run σ H1 _ e1 fun w y H2 e2 f2 r2 hx => ⟨(by show 2 ≤ sizeLine; decide), fun q hq => ?_⟩
  have x3 : Ex H2 (upd H2 q (.tup [v, w])) := .new hq
  refine set_two F (x := x) (ys := y) hi (e2.ex x3) upd_same ?_ ?_ rfl fun H' e' => kk.nx _ _ _ e' hx
  · exact (TDoc G n).stp ((TDoc G n).imp ((TDoc G n).stp r1 (e1.stp_fx f2)) fun _ => fx_t) (.of_ex x3)
  · exact (TLst (TDoc G n)).stp ((TLst (TDoc G n)).imp r2 fun _ => fx_t) (.of_ex x3)
/-- self.start, self.patches = self.past.pop() -/
theorem run_back (F : LFacts Kf C) {pst : List (D × List D)} {x : D × List D} (hi : Γ[i]? = some (.own ((OwLog C G n j st).pin s) k)) (hp : st.past = pst ++ [x]) (h : K.nx (Γ.set i (.own ((OwLog C G n j ⟨x.1, x.2, pst⟩).pin s) k))) :
    Run c Γ (tAsg (tBM0 Kf "list" rPop (tFld Kf (tVar i) "past")) (gTup Kf 2 (gCons (gFld Kf (tVar i) "start") (gCons (gFld Kf (tVar i) "patches") gNil)))) K := .mk fun D σ H e kk => by
  obtain ⟨a, ha, ⟨es, ne, v1, v2, ws, h1, h2, h3, h4, h5, h6⟩, _⟩ := e.own hi
  obtain rfl : a = s := es
  rw [hp] at h6
  obtain ⟨us, u, rfl, hu, hr⟩ : ∃ us u, ws = us ++ [u] ∧ Paired ((TKp G n).R (Sx c Γ σ) H) us pst ∧ (TKp G n).R (Sx c Γ σ) H u x := by
    clear h4 h5 h hp
    generalize hq : pst ++ [x] = q at h6
    induction h6 generalizing pst with
    | nil => cases pst <;> cases hq
    | cons r rs ih =>
      cases pst with
      | nil =>
        cases hq
        cases rs
        exact ⟨[], _, rfl, .nil, r⟩
      | cons y ys =>
        cases hq
        obtain ⟨us, u, rfl, h7, h8⟩ := ih rfl
        exact ⟨_ :: us, u, rfl, .cons r h7, h8⟩
  refine ⟨.ref a, ha, a, C, _, _, _, rfl, h1, F.cl, F.nA, rfl, .inl ⟨rfl, _, .inl (.inl h4)⟩, j.2, _, u, rfl, rfl, h4, by rw [List.length_append]; simp, ?_⟩
  rw [List.dropLast_concat]
  have f : Fr (fun b => b = a ∨ (OwLog C G n j st).fp b) H (upd H j.2 (.lst us)) := (Fr.put h4 rfl).imp fun b z => .inr z
  have z := e.stp_mut hi ha f
  have e1 := own_step (st' := { st with past := pst }) e hi ha f ⟨ne, v1, v2, us, by rw [upd_ne ne]; exact h1, (TDoc G n).mono (fun _ => .inl) z h2, (TLst (TDoc G n)).mono (fun _ => .inl) z h3, upd_same, by rw [List.length_append] at h5; omega, hu.imp fun _ _ y => (TKp G n).mono (fun _ => .inl) z y⟩
  have own : ∀ b, Sx c Γ σ b → Sx c (Γ.set i (.own ((OwLog C G n j { st with past := pst }).pin a) k)) σ b := fun b hb => ⟨hb.1, fun ⟨l, o, n', a', g1, g2, g3⟩ => hb.2.1 (by
    by_cases cj : i = l
    · subst cj
      cases getElem?_set_some g1
      exact ⟨i, _, _, a', hi, g2, g3⟩
    · rw [List.getElem?_set_ne cj] at g1
      exact ⟨l, o, n', a', g1, g2, g3⟩), hb.2.2⟩
  obtain ⟨b, w1, w2, rfl, sb, hb, g1, g2⟩ := (TKp G n).mono own z hr
  have hl : i < Γ.length := (List.getElem?_eq_some_iff.mp hi).1
  have := set_two F (Z := D) (st := { st with past := pst }) (x := x.1) (ys := x.2) (pst := pst) (i := i) (s := a) (k := k) (by rw [List.getElem?_set_self hl]) e1 hb g1 g2 rfl fun H' e' => kk.nx _ _ _ (by rw [List.set_set] at e'; exact e') h
  exact this
end
end TP

namespace TP
open PySem PySem.Spec PyProof.Rows L2
/-! ### rows made shorter: the mathematics -/
/-- keys of ks alone, at most n deep -/
def Kd (ks : List Str) : D → Nat → Prop
  | .ob f => fun n => ∃ m, n = m + 1 ∧ ∀ k, ((f k).isNil = false → k ∈ ks) ∧ Kd ks (f k) m
  | _ => fun _ => True
def pK (l : Nat) : Nat → Nat
  | 0 => 1
  | n + 1 => 1 + l * pK l n
theorem pK_pos {l : Nat} : ∀ n, 1 ≤ pK l n
  | 0 => Nat.le_refl 1
  | n + 1 => Nat.le_add_right 1 _
theorem Kd.pd {ks : List Str} : ∀ {d : D} {n : Nat}, Kd ks d n → PD d (pK ks.length n)
  | .ob f, n, h => by
    obtain ⟨m, rfl, q⟩ := h
    refine ⟨ks, fun _ => pK ks.length m, fun k hk => (q k).1 hk, fun k => (q k).2.pd, ?_⟩
    rw [List.map_const', List.sum_replicate_nat]
    exact Nat.le_refl _
  | .nil, n, _ => trivial
  | .sc _, n, _ => pK_pos n
  | .ls _, n, _ => pK_pos n
theorem Kd.dd {ks : List Str} : ∀ {d : D} {n : Nat}, Kd ks d n → DD d n
  | .ob f, n, h => by
    obtain ⟨m, rfl, q⟩ := h
    exact ⟨Nat.succ_le_succ (Nat.zero_le _), fun k => (q k).2.dd⟩
  | .nil, n, _ => trivial
  | .sc _, n, _ => trivial
  | .ls _, n, _ => trivial
theorem Kd.no {ks : List Str} {d : D} {n : Nat} (h : d.isOb = false) : Kd ks d n := by
  cases d with
  | ob f => cases h
  | _ => trivial
end TP

namespace TP
open PySem PySem.Spec PyProof.Rows L2
/-! ### typed readings: dicts by comprehension; effects -/
theorem dc_it {J : It} {n : Nat} {G : Hp → Prop} {Y : Nat → Hp → V → Hp → Prop} (wl : Walk J n G Y) {g : TG} {tt : TT} {tk tv : TE} {vs : List Nat} {σ : L2.St} {H1 : Hp} {D : Addr} {Qd : Hp → Prop} (Pv : Nat → Hp → Prop) (h0 : Pv 0 (upd H1 D (.dK []))) (hG : ∀ i H, i ≤ n → Pv i H → G H)
    (hs : ∀ i x H H', i < n → Pv i H → Y i H x H' → g x (wipe σ vs) H' fun σ2 H2 => wipe σ2 vs = wipe σ vs ∧ tt σ2 H2 fun b H3 => if b = true then tk σ2 H3 fun y H4 => tv σ2 H4 fun z H5 => ∃ kvs k, y = kV k ∧ H5 D = some (.dK kvs) ∧ kvs.length < sizeLine ∧ Pv (i + 1) (upd H5 D (.dK (putK kvs k z))) else Pv (i + 1) H3)
    (hd : ∀ H, Pv n H → Qd H) : ∃ W : Nat → Nat → Hp → Prop, (∃ m, W 0 m (upd H1 D (.dK []))) ∧ ∀ i m H, W i m H → (J.stop i H ∧ Qd H) ∨ (J.go i H ∧ ∃ Nx : Hp → Prop, (∀ H', Nx H' → ∃ m', m' < m ∧ W (i + 1) m' H') ∧ ∀ x H', J.yld i H x H' → g x (wipe σ vs) H' fun σ2 H2 => wipe σ2 vs = wipe σ vs ∧ tt σ2 H2 fun b H3 => if b = true then tk σ2 H3 fun y H4 => tv σ2 H4 fun z H5 => ∃ kvs k, y = kV k ∧ H5 D = some (.dK kvs) ∧ kvs.length < sizeLine ∧ Nx (upd H5 D (.dK (putK kvs k z))) else Nx H3) := by
  refine ⟨fun i m H => i ≤ n ∧ m = n - i ∧ Pv i H, ⟨n, Nat.zero_le _, rfl, h0⟩, fun i m H ⟨hi, hm, hp⟩ => ?_⟩
  by_cases c : i = n
  · subst c
    exact .inl ⟨wl.stops H (hG i H hi hp), hd H hp⟩
  · have hlt : i < n := by omega
    exact .inr ⟨wl.goes i H hlt (hG i H hi hp), Pv (i + 1), fun H' h => ⟨n - (i + 1), by omega, by omega, rfl, h⟩, fun x H' y => hs i x H H' hlt hp (wl.yields i H x H' hlt (hG i H hi hp) y)⟩
/-- the members that a comprehension makes -/
def dcF (os : List (Option (Str × D))) : Str → D := os.foldl (fun f o => match o with | some kd => D.fup f kd.1 kd.2 | none => f) fun _ => .nil
theorem dcF_some {os : List (Option (Str × D))} {k : Str} {d : D} : dcF (os ++ [some (k, d)]) = D.fup (dcF os) k d := by
  unfold dcF
  rw [List.foldl_append]
  rfl
theorem dcF_none {os : List (Option (Str × D))} : dcF (os ++ [none]) = dcF os := by
  unfold dcF
  rw [List.foldl_append]
  rfl
section
variable [TabL]
variable {m : Bool} {c : WCtx} {Γ Γ' : List WSlot} {α β γ δ : Type} {T : Ty α} {U : Ty β} {W : Ty γ} {K : Ko δ} {Kf : PySem.W.Frag}
theorem p_dc {wi : TI} {g : TG} {tt : TT} {tk tv : TE} {vs ks : List Nat} {bind : List WSlot → α → List WSlot} {G : Gen} {dn : Nat} {X : D → Prop} (tg : Tgt g T ks bind) (hKS : G.KS.length ≤ 5000) (hv : noOwn Γ vs = true) (hks : ∀ k ∈ ks, k ∈ vs)
    (h : PIt c Γ wi T fun xs => ∃ Y : Nat → α → Option (Str × D) → Prop, (∀ (c' : WCtx) (i : Nat) x, xs[i]? = some x → PB c' (bind (wipeS Γ vs) x) tt fun b => (b = true → P m c' (bind (wipeS Γ vs) x) tk TStr fun k => P m c' (bind (wipeS Γ vs) x) tv (TDoc G dn) fun d => k ∈ G.KS ∧ Y i x (some (k, d))) ∧ (b = false → Y i x none)) ∧ ∀ os, LcRel Y xs os → X (.ob (dcF os))) : P m c Γ (tDc wi g tt tk tv vs) (TDoc G (dn + 1)) X := .mk fun σ H Q e q => by
  refine h.run σ H _ e fun J w xs H1 e1 f1 wk hw hx D hD => ?_
  obtain ⟨Y, hs, hd⟩ := hx
  obtain ⟨n, Gw, Yw, wl, rfl, hG, hlim, hY⟩ := wk.wk
  have nD : ∀ b, Sx c Γ σ b ∧ H1 b ≠ none → Sx (c.lc D w) Γ σ b := fun b hb => sx_lc.mpr ⟨hb.1, fun z => hb.2 (by rw [z]; exact hD)⟩
  have ownD : ¬ OwnA Γ σ D := fun z => by
    obtain ⟨⟨u, hu, _⟩, _⟩ := e1.ownA z
    rw [hD] at hu; cases hu
  have nDf : ∀ b, Fxm m (c.lc D w) Γ σ b → b ≠ D := fun b hb => hb.elim (fun h => (sx_lc.mp h).2) fun h z => h.2.elim (fun y => e1.en b y (by rw [z]; exact hD)) fun y => ownD (by rw [← z]; exact y.a)
  have x0 : Ex H1 (upd H1 D (.dK (kvsOf []))) := .new hD
  have eD : WEnv (c.lc D w) Γ σ (upd H1 D (.dK (kvsOf []))) := by
    refine ⟨e1.len, e1.fr.exr x0, fun b hb => hb.elim (fun z => x0.ne b (e1.nn b z)) (fun z => by rw [z, upd_same]; exact fun y => nomatch y), fun b hb z => z.elim (e1.on b hb) (fun y => ownD (by rw [← y]; exact hb)), fun b hb => x0.ne b (e1.en b hb), e1.oe, fun t ht => ?_, fun i s w' h1 h2 => ?_, e1.sep⟩
    · rcases List.mem_cons.mp ht with rfl | ht
      · exact t.T.mono nD (.of_ex x0) (t.T.alloc hw)
      · exact t.T.mono nD (.of_ex x0) (t.T.alloc (e1.tm t ht))
    · exact (e1.at' i s w' h1 h2).alloc.mono nD (.of_ex x0) (fun _ z => z) (.of_ex x0) fun o n a h3 h4 b hb => upd_ne fun z => ownD (by rw [← z]; exact ⟨i, o, n, a, by rw [h1, h3], by rw [h2, h4], hb⟩)
  refine dc_it wl (fun i H' => WEnv (c.lc D w) Γ σ H' ∧ FrO Γ σ H1 H' ∧ ∃ (os : List (Option (Str × TP.D))) (ms : List (Str × V)), H' D = some (.dK (kvsOf ms)) ∧ Mem (Fxm m (c.lc D w) Γ σ) G H' dn ms (dcF os) ∧ os.length = i ∧ ∀ (j : Nat) x o, xs[j]? = some x → os[j]? = some o → Y j x o)
    ⟨eD, .of_ex x0, [], [], upd_same, Mem.nil, rfl, fun j x o _ z => by cases z⟩ (fun i H' _ z => hG _ _ (z.1.tm w List.mem_cons_self)) (fun i v H' H2 hi z y => ?_) fun H' z => ?_
  · obtain ⟨e2, f2, os, ms, hacc, hp, ho, hr⟩ := z
    obtain ⟨x2, x, hx, rx⟩ := hY _ i H' v H2 (e2.tm w List.mem_cons_self) hi y
    have e3 := e2.ex x2
    have ow : ∀ (i : Nat) o n, Γ[i]? = some (WSlot.own o n) → i ∉ vs := fun i o n h => noOwn_of hv h
    have sub1 : ∀ a, OwnA (wipeS Γ vs) (wipe σ vs) a → OwnA Γ σ a := fun a ⟨j, o, n, b, h1, h2, h3⟩ => by
      by_cases cj : j ∈ vs
      · have hj : j < σ.length := by
          have := (List.getElem?_eq_some_iff.mp h2).1
          rwa [wipe_length] at this
        rw [wipe_in cj hj] at h2
        cases h2
      · rw [wipeS_get cj] at h1
        rw [wipe_get cj] at h2
        exact ⟨j, o, n, b, h1, h2, h3⟩
    refine tg.run (c.lc D w) (wipeS Γ vs) (wipe σ vs) H2 v x _ (e3.wipe vs) (T.imp rx fun b hb => let z := e2.nwS b hb; ⟨z.1, fun y => z.2.1 (sub1 b y), z.2.2⟩) fun σ2 e4 k4 l4 o4 => ?_
    have k5 : ∀ k, k ∉ vs → σ2[k]? = σ[k]? := fun k hk => (k4 k fun z => hk (hks k z)).trans (wipe_get hk)
    have same : ∀ (j : Nat) o n, Γ[j]? = some (WSlot.own o n) → (bind (wipeS Γ vs) x)[j]? = some (WSlot.own o n) ∧ σ2[j]? = σ[j]? := fun j o n h => by
      have nj := ow j o n h
      exact ⟨by rw [tg.keep _ _ _ fun z => nj (hks j z), wipeS_get nj, h], k5 j nj⟩
    have own : ∀ a, OwnA (bind (wipeS Γ vs) x) σ2 a ↔ OwnA Γ σ a := fun a => ⟨fun h => sub1 a (o4 a h), fun ⟨j, o, n, b, h1, h2, h5⟩ => let ⟨h3, h4⟩ := same j o n h1; ⟨j, o, n, b, h3, by rw [h4]; exact h2, h5⟩⟩
    have sx : ∀ b, Sx (c.lc D w) (bind (wipeS Γ vs) x) σ2 b ↔ Sx (c.lc D w) Γ σ b := fun b => ⟨fun h => ⟨h.1, fun z => h.2.1 ((own b).mpr z), h.2.2⟩, fun h => ⟨h.1, fun z => h.2.1 ((own b).mp z), h.2.2⟩⟩
    have e3' := e3
    have kown : ∀ b, OwnK (bind (wipeS Γ vs) x) σ2 b → OwnK Γ σ b := fun b ⟨j, o, n, a, h1, h2, h3, h4⟩ => by
      obtain ⟨i', o', n', a', g1, g2, g3⟩ := (own b).mp ⟨j, o, n, a, h1, h2, h3⟩
      obtain ⟨s1, s2⟩ := same i' o' n' g1
      by_cases cj : i' = j
      · subst cj
        rw [s1] at h1
        cases h1
        exact ⟨i', _, _, a', g1, g2, g3, h4⟩
      · exact (e4.sep i' j o' o n' n a' a b cj s1 h1 (by rw [s2]; exact g2) h2 g3 h3).elim
    refine ⟨wipe_same k5 (by rw [l4, wipe_length]), (hs _ i x hx).run σ2 H2 _ e4 fun b H3 e5 f5 hb => ?_⟩
    have fin : ∀ {H4 : Hp} {oy : Option (Str × TP.D)} {ms' : List (Str × V)}, WEnv (c.lc D w) (bind (wipeS Γ vs) x) σ2 H4 → FrO Γ σ H2 H4 → Y i x oy → H4 D = some (.dK (kvsOf ms)) → Mem (Fxm m (c.lc D w) Γ σ) G H4 dn ms' (dcF (os ++ [oy])) → WEnv (c.lc D w) Γ σ (upd H4 D (.dK (kvsOf ms'))) ∧ FrO Γ σ H1 (upd H4 D (.dK (kvsOf ms'))) ∧ ∃ (os : List (Option (Str × TP.D))) (ms : List (Str × V)), (upd H4 D (.dK (kvsOf ms'))) D = some (.dK (kvsOf ms)) ∧ Mem (Fxm m (c.lc D w) Γ σ) G (upd H4 D (.dK (kvsOf ms'))) dn ms (dcF os) ∧ os.length = i + 1 ∧ ∀ (j : Nat) x o, xs[j]? = some x → os[j]? = some o → Y j x o := fun {H4 oy ms'} e6 f6 hy h4 hp4 => by
      have e7 : WEnv (c.lc D w) Γ σ H4 := e3'.back f6.toFr e6 same fun b hb => (sx b).mp hb
      have fD : Fr (fun b => b = D) H4 (upd H4 D (.dK (kvsOf ms'))) := .put h4 rfl
      have st : Kpt (Fxm m (c.lc D w) Γ σ) H4 (upd H4 D (.dK (kvsOf ms'))) := ⟨fun b u s z h => by rw [upd_ne (nDf b s)]; exact h, fD.ne, fD.tab⟩
      refine ⟨e7.go (st.imp fun _ => .inl) ⟨fun b u s z h => by rw [upd_ne (fun y => e1.en b s (by rw [y]; exact hD))]; exact h, fD.ne, fD.tab⟩ (fun a ha => upd_ne fun z => ownD (by rw [← z]; exact ha)) (e7.fr.trans' fD fun b hb => .inr (by rw [hb]; exact e1.fr.fresh hD)), ((f2.exr x2).trans f6).put hD ownD h4 e1, os ++ [oy], ms', upd_same, hp4.mono (fun _ z => z) st.go (Nat.le_refl _), by rw [List.length_append, ho]; rfl, fun j x' o' h1 h2 => ?_⟩
      by_cases cj : j < i
      · rw [List.getElem?_append_left (by omega)] at h2
        exact hr j x' o' h1 h2
      · have : j = i := by
          have := (List.getElem?_eq_some_iff.mp h2).1
          rw [List.length_append, ho] at this
          simp at this
          omega
        subst this
        rw [List.getElem?_append_right (by omega), ho, Nat.sub_self] at h2
        cases h2
        rw [hx] at h1
        cases h1
        exact hy
    have conv : ∀ {Ha Hb}, FrO (bind (wipeS Γ vs) x) σ2 Ha Hb → FrO Γ σ Ha Hb := fun f => ⟨f.toFr.imp fun a h => (own a).mp h, fun j o n a h1 h2 => f.kept j o n a (same j o n h1).1 (by rw [(same j o n h1).2]; exact h2)⟩
    have f5' : FrO Γ σ H2 H3 := conv f5
    have keepD : ∀ {H4}, FrO Γ σ H2 H4 → H4 D = some (.dK (kvsOf ms)) := fun f => f.go D _ ownD (x2 D _ hacc) rfl
    cases b with
    | true =>
      refine iteT ((hb.1 rfl).run σ2 H3 _ e5 fun yk key H4 e6 f6 r6 hk => hk.run σ2 H4 _ e6 fun z d H5 e7 f7 r7 hz => ?_)
      obtain rfl : yk = .str key := r6
      have f26 : FrO Γ σ H2 H5 := (f5'.trans (conv f6)).trans (conv f7)
      have st26 : Kpt (Fxm m (c.lc D w) Γ σ) H2 H5 := e3.stp_fx f26
      have M5 : Mem (Fxm m (c.lc D w) Γ σ) G H5 dn ms (dcF os) := (hp.mono (fun _ z => z) (Kpt.of_ex x2).go (Nat.le_refl _)).mono (fun _ z => z) st26.go (Nat.le_refl _)
      have hl : (kvsOf ms).length < sizeLine := by
        have := M5.len
        rw [List.length_map]
        exact Nat.lt_of_le_of_lt (show _ ≤ 5000 by omega) (by decide)
      have r8 : Dc (Fxm m (c.lc D w) Γ σ) G H5 dn z d := (TDoc G dn).imp r7 fun b hb => hb.imp (sx b).mp fun y => ⟨y.1, y.2.imp id (kown b)⟩
      refine ⟨kvsOf ms, Sum.inr key, rfl, keepD f26, hl, ?_⟩
      rw [putK_inK]
      refine fin e7 f26 hz.2 (keepD f26) ?_
      rw [dcF_some]
      exact M5.put hz.1 r8
    | false =>
      refine iteF ?_
      have st : Kpt (Fxm m (c.lc D w) Γ σ) H2 H3 := e3.stp_fx f5'
      have := fin e5 f5' (hb.2 rfl) (keepD f5') (by rw [dcF_none]; exact (hp.mono (fun _ z => z) (Kpt.of_ex x2).go (Nat.le_refl _)).mono (fun _ z => z) st.go (Nat.le_refl _))
      rwa [upd_as (keepD f5')] at this
  · obtain ⟨e2, f2, os, ms, hacc, hp, ho, hr⟩ := z
    have e3 : WEnv c Γ σ H' := by
      have sub : ∀ b, Sx (c.lc D w) Γ σ b → Sx c Γ σ b := fun b hb => (sx_lc.mp hb).1
      exact ⟨e2.len, e2.fr, fun b h => e2.nn b (.inl h), fun b h z => e2.on b h (.inl z), e2.en, e2.oe, fun t ht => t.T.imp (e2.tm t (List.mem_cons_of_mem _ ht)) sub, fun i s w' h1 h2 => (e2.at' i s w' h1 h2).mono sub .refl (fun _ z => z) .refl fun _ _ _ _ _ _ _ => rfl, e2.sep⟩
    exact q _ _ H' e3 (f1.trans f2) (Dc.ob (.inl (e1.nw hD)) hacc (hp.imp fun b hb => hb.imp (fun h => (sx_lc.mp h).1) id)) (hd os ⟨ho, hr⟩)
end
end TP

namespace TP
open PySem PySem.Spec PyProof.Rows L2
/-! ### typed readings: effects -/
section
variable [TabL]
variable {m : Bool} {c : WCtx} {Γ Γ' : List WSlot} {α β γ δ : Type} {T : Ty α} {U : Ty β} {W : Ty γ} {K : Ko δ} {Kf : PySem.W.Frag}
/-- a tuple that is nothing but that -/
def TFz {α : Type} (T : Ty α) : Ty (List α) := ⟨fun S H v xs => ∃ a vs o, v = .ref a ∧ S a ∧ H a = some (.frz o (.tup vs)) ∧ vs.length ≤ sizeLine ∧ Paired (T.R S H) vs xs,
  fun h st ⟨a, vs, o, e, s, r, l, p⟩ => ⟨a, vs, o, e, h a s, st.go a _ s rfl r, l, p.imp fun _ _ z => T.mono h st z⟩,
  fun ⟨a, vs, o, e, s, r, l, p⟩ => ⟨a, vs, o, e, ⟨s, by rw [r]; exact fun z => nomatch z⟩, r, l, p.imp fun _ _ z => T.alloc z⟩⟩
theorem pit_tupF {Kf : PySem.W.Frag} {t : TE} {X : List α → Prop} (h : P true c Γ t (TFz T) X) : PIt c Γ (iTup Kf t) T X := .mk fun σ H R e q => h.run σ H _ e fun v xs H1 e1 f1 r hx => by
  obtain ⟨a, vs, o, rfl, s, ha, l, p⟩ := (TFz T).imp r fun _ => fx_t
  refine ⟨a, rfl, ⟨vs, .inl (.inr ⟨o, ha⟩)⟩, q _ ⟨TAt (fun vs => .frz o (.tup vs)) a vs T (fun _ => rfl), xs, .ref a⟩ xs H1 e1 f1 ⟨vs.length, _, _, walk_tup (xs := vs), p.len, fun S H z => .inl (.inr ⟨o, z.2.2.1⟩), by rw [← p.len]; exact l, fun S i H v H' z hi y => ?_⟩ ⟨rfl, s, ha, l, p⟩ hx⟩
  obtain ⟨rfl, y⟩ := y
  obtain ⟨x, hx, r⟩ := z.2.2.2.2.get y
  exact ⟨.refl _, x, hx, T.imp r fun _ => .inl⟩
structure EFld (K : PySem.W.Frag) (C : Addr) : Prop where
  cl : Cls K C
  nK : NoAttr K C "kind"
  nM : NoAttr K C "members"
variable {C : Addr} {G : Gen} {n : Nat}
theorem p_orM {t u : TE} {X : Bool → Prop} (h : P false c Γ t TBool fun b => (b = true → X true) ∧ (b = false → P false c Γ u TBool X)) : P m c Γ (tOrV t u) TBool X := P.sca (fun _ _ _ _ _ h => h) (p_or h)
theorem p_andM {t u : TE} {X : Bool → Prop} (h : P false c Γ t TBool fun b => (b = true → P false c Γ u TBool X) ∧ (b = false → X false)) : P m c Γ (tAndV t u) TBool X := P.sca (fun _ _ _ _ _ h => h) (p_and h)
theorem p_notM {t : TE} {X : Bool → Prop} (h : P false c Γ t TBool fun b => X (!b)) : P m c Γ (tNotV t) TBool X := P.sca (fun _ _ _ _ _ h => h) (p_not h)
theorem bools_of {S : Addr → Prop} {H : Hp} {vs : List V} {bs : List Bool} (p : Paired (TBool.R S H) vs bs) : vs = bs.map V.bl := by
  induction p with
  | nil => rfl
  | cons r _ ih => rw [show _ = _ from r, ih]; rfl
theorem p_any {ta : TE} {X : Bool → Prop} (h : P false c Γ ta (TLst TBool) fun bs => X (bs.any id)) : P m c Γ (tCB (rAny Kf) (tCons ta tNil)) TBool X :=
  P.sca (fun _ _ _ _ _ h => h) (p_cb1 (T := TLst TBool) (W := TBool) (f := fun bs => bs.any id) (C := fun _ => True) (fun S H v x Q ⟨a, vs, e, _, ha, _, p⟩ _ k => ⟨a, x, by rw [e], .inl (.inl (by rw [← bools_of p]; exact ha)), k _ H (.refl H) rfl⟩) (h.imp fun _ z => ⟨trivial, z⟩))
end
end TP

namespace TP
open PySem PySem.Spec PyProof.Rows L2
/-! ### typed readings: defs that look at an own object and leave it -/
section
variable [TabL]
variable {m : Bool} {c : WCtx} {Γ Γ' : List WSlot} {α β γ δ ε ι : Type} {T : Ty α} {U : Ty β} {W : Ty γ} {K : Ko δ}
/-- an own object whose content is as in H0 -/
def Ow.froz (o : Ow) (H0 : Hp) : Ow where
  fp := o.fp
  R := fun S H a => o.R S H a ∧ ∀ b, b = a ∨ o.fp b → H b = H0 b
  mono := fun h st e r => ⟨o.mono h st e r.1, fun b hb => by rw [e b hb]; exact r.2 b hb⟩
  alloc := fun r => ⟨o.alloc r.1, r.2⟩
  has := fun r => o.has r.1
  pl := false
  plh := fun z => nomatch z
theorem owFroz {o : Ow} {H0 : Hp} {s : Addr} : OwAs ((o.froz H0).pin s) o := fun _ _ _ h => h.2.1
def pr0 (o : ι → ε → Ow) (W : Ty γ) (Pre : ε → Prop) (Post : ε → γ → Prop) : Sp := fun vs H Q _ => ∃ i st S s, vs = [.ref s] ∧ TabA H ∧ (o i st).R S H s ∧ (∀ b, b = s ∨ (o i st).fp b → ¬ S b) ∧ Pre st ∧ ∀ r z H', Ex H H' → W.R (fun b => S b ∨ H b = none) H' r z → Post st z → Q r H'
def pr1 (o : ι → ε → Ow) (T : Ty α) (W : Ty γ) (Pre : ε → α → Prop) (Post : ε → α → γ → Prop) : Sp := fun vs H Q _ => ∃ i st S s v x, vs = [.ref s, v] ∧ TabA H ∧ (o i st).R S H s ∧ (∀ b, b = s ∨ (o i st).fp b → ¬ S b) ∧ T.R S H v x ∧ Pre st x ∧ ∀ r z H', Ex H H' → W.R (fun b => S b ∨ H b = none) H' r z → Post st x z → Q r H'
def pr2 (o : ι → ε → Ow) (T : Ty α) (U : Ty β) (W : Ty γ) (Pre : ε → α → β → Prop) (Post : ε → α → β → γ → Prop) : Sp := fun vs H Q _ => ∃ i st S s v w x y, vs = [.ref s, v, w] ∧ TabA H ∧ (o i st).R S H s ∧ (∀ b, b = s ∨ (o i st).fp b → ¬ S b) ∧ T.R S H v x ∧ U.R S H w y ∧ Pre st x y ∧ ∀ r z H', Ex H H' → W.R (fun b => S b ∨ H b = none) H' r z → Post st x y z → Q r H'
theorem lenr0 {E : XK} {o : ι → ε → Ow} {Pre : ε → Prop} {Post : ε → γ → Prop} {vs : List V} {H : Hp} {Q : VK} (h : pr0 o W Pre Post vs H Q E) : vs.length = 1 := by obtain ⟨_, _, _, _, rfl, _⟩ := h; rfl
theorem lenr1 {E : XK} {o : ι → ε → Ow} {Pre : ε → α → Prop} {Post : ε → α → γ → Prop} {vs : List V} {H : Hp} {Q : VK} (h : pr1 o T W Pre Post vs H Q E) : vs.length = 2 := by obtain ⟨_, _, _, _, _, _, rfl, _⟩ := h; rfl
theorem lenr2 {E : XK} {o : ι → ε → Ow} {Pre : ε → α → β → Prop} {Post : ε → α → β → γ → Prop} {vs : List V} {H : Hp} {Q : VK} (h : pr2 o T U W Pre Post vs H Q E) : vs.length = 3 := by obtain ⟨_, _, _, _, _, _, _, _, rfl, _⟩ := h; rfl
variable {E : XK} {o : ι → ε → Ow} {i : Nat} {j : ι} {st : ε} {s : Addr} {n : Bool} {ow : Ow} {C : Addr} {mm : Str} {fl : List Str}
/-- the region of an own object is not storable -/
theorem WEnv.reg {σ : L2.St} {H : Hp} (e : WEnv c Γ σ H) {a : Addr} (hi : Γ[i]? = some (.own ow n)) (ha : σ[i]? = some (some (.ref a))) (hf : ∀ b, (o j st).fp b → ow.fp b) : ∀ b, b = a ∨ (o j st).fp b → ¬ Sx c Γ σ b := fun b hb z => z.2.1 ⟨i, _, n, a, hi, ha, hb.imp id (hf b)⟩
theorem p_rc0 (ho : OwAs ow (o j st)) (hf : ∀ b, (o j st).fp b → ow.fp b) {Pre : ε → Prop} {Post : ε → γ → Prop} {X : γ → Prop} (hi : Γ[i]? = some (.own ow n)) (hp : Pre st) (h : ∀ z, Post st z → X z) : P m c Γ (tCall (pr0 o W Pre Post) [] E (tCons (tVar i) tNil)) W X := .mk fun σ H Q e q => by
  obtain ⟨a, ha, r, _⟩ := e.own hi
  exact ⟨.ref a, ha, j, st, Sx c Γ σ, a, rfl, e.tabA, ho _ _ _ r, e.reg hi ha hf, hp, fun u z H' x w hz => q u z H' (e.ex x) (.of_ex x) (W.imp w fun b hb => .inl (e.nwS b hb)) (h z hz)⟩
theorem p_rm0 [zi : OwIns o C fl] (hm : mm ∉ fl) (ho : OwAs ow (o j st)) (hf : ∀ b, (o j st).fp b → ow.fp b) {Pre : ε → Prop} {Post : ε → γ → Prop} {X : γ → Prop} (hi : Γ[i]? = some (.own ow n)) (hp : Pre st) (h : ∀ z, Post st z → X z) : P m c Γ (tMeth C mm (pr0 o W Pre Post) [] E (tVar i) tNil) W X := .mk fun σ H Q e q => by
  obtain ⟨a, ha, r, _⟩ := e.own hi
  obtain ⟨dx, fs, hx, hl⟩ := zi.h (ho _ _ _ r)
  exact ⟨.ref a, ha, a, dx, fs, rfl, hx, lookup_no (by rw [hl]; exact hm), j, st, Sx c Γ σ, a, rfl, e.tabA, ho _ _ _ r, e.reg hi ha hf, hp, fun u z H' x w hz => q u z H' (e.ex x) (.of_ex x) (W.imp w fun b hb => .inl (e.nwS b hb)) (h z hz)⟩
theorem p_rm1 [zi : OwIns o C fl] (hm : mm ∉ fl) (ho : OwAs ow (o j st)) (hf : ∀ b, (o j st).fp b → ow.fp b) {Pre : ε → α → Prop} {Post : ε → α → γ → Prop} {X : γ → Prop} {ta : TE} (hi : Γ[i]? = some (.own ow n)) (h : P true c Γ ta T fun x => Pre st x ∧ ∀ z, Post st x z → X z) : P m c Γ (tMeth C mm (pr1 o T W Pre Post) [] E (tVar i) (tCons ta tNil)) W X := .mk fun σ H Q e q => by
  obtain ⟨a, ha, r, _⟩ := e.own hi
  obtain ⟨dx, fs, hx, hl⟩ := zi.h (ho _ _ _ r)
  refine ⟨.ref a, ha, a, dx, fs, rfl, hx, lookup_no (by rw [hl]; exact hm), h.run σ H _ e fun v x H1 e1 f1 r1 hx => ?_⟩
  obtain ⟨a', ha', r', _⟩ := e1.own hi
  rw [ha] at ha'
  cases ha'
  exact ⟨j, st, Sx c Γ σ, a, v, x, rfl, e1.tabA, ho _ _ _ r', e1.reg hi ha hf, T.imp r1 fun _ => fx_t, hx.1, fun u z H' x w hz => q u z H' (e1.ex x) (f1.exr x) (W.imp w fun b hb => .inl (e1.nwS b hb)) (hx.2 z hz)⟩
theorem p_rm2 [zi : OwIns o C fl] (hm : mm ∉ fl) (ho : OwAs ow (o j st)) (hf : ∀ b, (o j st).fp b → ow.fp b) {Pre : ε → α → β → Prop} {Post : ε → α → β → γ → Prop} {X : γ → Prop} {ta tb : TE} (hi : Γ[i]? = some (.own ow n)) (h : P true c Γ ta T fun x => P true c Γ tb U fun y => Pre st x y ∧ ∀ z, Post st x y z → X z) : P m c Γ (tMeth C mm (pr2 o T U W Pre Post) [] E (tVar i) (tCons ta (tCons tb tNil))) W X := .mk fun σ H Q e q => by
  obtain ⟨a, ha, r, _⟩ := e.own hi
  obtain ⟨dx, fs, hx, hl⟩ := zi.h (ho _ _ _ r)
  refine ⟨.ref a, ha, a, dx, fs, rfl, hx, lookup_no (by rw [hl]; exact hm), h.run σ H _ e fun v x H1 e1 f1 r1 hb => hb.run σ H1 _ e1 fun w y H2 e2 f2 r2 hx => ?_⟩
  obtain ⟨a', ha', r', _⟩ := e2.own hi
  rw [ha] at ha'
  cases ha'
  exact ⟨j, st, Sx c Γ σ, a, v, w, x, y, rfl, e2.tabA, ho _ _ _ r', e2.reg hi ha hf, T.imp (T.stp r1 (e1.stp_fx f2)) fun _ => fx_t, U.imp r2 fun _ => fx_t, hx.1, fun u z H' x w hz => q u z H' (e2.ex x) ((f1.trans f2).exr x) (W.imp w fun b hb => .inl (e2.nwS b hb)) (hx.2 z hz)⟩
/-! entering them -/
def kro (o : Ow) (H0 : Hp) (s : Addr) (W : Ty γ) (Post : γ → Prop) : Ko γ := { T := W, X := fun Γ z => OwnIs (o.froz H0) s Γ ∧ Post z, nx := fun Γ => OwnIs (o.froz H0) s Γ ∧ ∃ z, (∀ S H, W.R S H .non z) ∧ Post z }
theorem kro_ok {S : Addr → Prop} {H : Hp} {tb : TabA H} {Q : VK} {o : Ow} {Post : γ → Prop} (q : ∀ r z H', Ex H H' → W.R (fun b => S b ∨ H b = none) H' r z → Post z → Q r H') : KoOk ⟨H, S, fun b => b = s ∨ o.fp b, fun _ => False, fun _ => False, [], fun _ z => z.elim, tb⟩ (kro o H s W Post) { nx := fun _ H' => Q .non H', rt := Q } := by
  refine ⟨fun v y Γ' σ' H' e r ⟨h, x⟩ => ?_, fun Γ' σ' H' e ⟨h, z, r, x⟩ => ?_, fun _ _ _ _ z => z.elim, fun _ _ _ _ z => z.elim⟩
  all_goals
    obtain ⟨o', h, hc⟩ := h
    obtain ⟨a, _, r', _⟩ := e.own h
    obtain rfl : a = s := r'.1
    have ro := (hc _ _ r'.2).2
    have ex : Ex H H' := ⟨fun b u hu z => by
      by_cases cb : b = a ∨ o.fp b
      · rw [ro b cb]; exact hu
      · exact e.fr.go b u cb hu z, e.fr.ne, e.fr.tab⟩
  · exact q v y H' ex (W.imp r fun b hb => hb.1) x
  · exact q .non z H' ex (r _ _) x
theorem enterr0 {Pre : ε → Prop} {Post : ε → γ → Prop} {vs : List V} {H : Hp} {Q : VK} {N : List Str} {t : TS} (h : pr0 o W Pre Post vs H Q E) {Γ0 : List WSlot} (hΓ : Γ0 = List.replicate (N.length - 1) .un) (b : ∀ c H j s st, Pre st → Run c (.own (((o j st).froz H).pin s) false :: Γ0) t (kro (o j st) H s W (Post st))) : t { nx := fun _ H' => Q .non H', rt := Q } (start N vs) H := by
  subst hΓ
  obtain ⟨j, st, S, s, rfl, tb, ho, hs, hp, q⟩ := h
  have := WEnv.startO (S := S) (H := H) tb (o := (o j st).froz H) hs ⟨ho, fun _ _ => rfl⟩ [] (N.length - 1) (fun t z => by cases z)
  exact (b _ H j s st hp).run _ _ _ this (kro_ok (o := o j st) (s := s) q)
theorem enterr1 {Pre : ε → α → Prop} {Post : ε → α → γ → Prop} {vs : List V} {H : Hp} {Q : VK} {N : List Str} {t : TS} (h : pr1 o T W Pre Post vs H Q E) {Γ0 : List WSlot} (hΓ : Γ0 = List.replicate (N.length - 2) .un) (b : ∀ c H j s st x, Pre st x → Run c (.own (((o j st).froz H).pin s) false :: .val T x :: Γ0) t (kro (o j st) H s W (Post st x))) : t { nx := fun _ H' => Q .non H', rt := Q } (start N vs) H := by
  subst hΓ
  obtain ⟨j, st, S, s, v, x, rfl, tb, ho, hs, r1, hp, q⟩ := h
  have := WEnv.startO (S := S) (H := H) tb (o := (o j st).froz H) hs ⟨ho, fun _ _ => rfl⟩ [⟨T, x, v⟩] (N.length - 2) (fun t z => by rw [List.mem_singleton.mp z]; exact r1)
  exact (b _ H j s st x hp).run _ _ _ this (kro_ok (o := o j st) (s := s) q)
theorem enterr2 {Pre : ε → α → β → Prop} {Post : ε → α → β → γ → Prop} {vs : List V} {H : Hp} {Q : VK} {N : List Str} {t : TS} (h : pr2 o T U W Pre Post vs H Q E) {Γ0 : List WSlot} (hΓ : Γ0 = List.replicate (N.length - 3) .un) (b : ∀ c H j s st x y, Pre st x y → Run c (.own (((o j st).froz H).pin s) false :: .val T x :: .val U y :: Γ0) t (kro (o j st) H s W (Post st x y))) : t { nx := fun _ H' => Q .non H', rt := Q } (start N vs) H := by
  subst hΓ
  obtain ⟨j, st, S, s, v, w, x, y, rfl, tb, ho, hs, r1, r2, hp, q⟩ := h
  have := WEnv.startO (S := S) (H := H) tb (o := (o j st).froz H) hs ⟨ho, fun _ _ => rfl⟩ [⟨T, x, v⟩, ⟨U, y, w⟩] (N.length - 3) (fun t z => by
    rcases List.mem_cons.mp z with z | z
    · rw [z]; exact r1
    · rw [List.mem_singleton.mp z]; exact r2)
  exact (b _ H j s st x y hp).run _ _ _ this (kro_ok (o := o j st) (s := s) q)
/-! comparisons in a row -/
theorem p_chain {f g : Int → Int → Bool} {ta tb tc : TE} {X : Bool → Prop} (h : P false c Γ ta TInt fun x => P false c Γ tb TInt fun y => (f x y = true → P false c Γ tc TInt fun z => X (g y z)) ∧ (f x y = false → X false)) : P m c Γ (tChain (rI0 fun i j => .bl (f i j)) (rI0 fun i j => .bl (g i j)) ta tb tc) TBool X := .mk fun σ H Q e q =>
  h.run σ H _ e fun v x H1 e1 f1 r1 hb => hb.run σ H1 _ e1 fun w y H2 e2 f2 r2 hx => by
    refine ⟨x, y, r1, r2, f x y, rfl, ?_⟩
    cases cf : f x y with
    | true =>
      refine iteT ((hx.1 cf).run σ H2 _ e2 fun u z H3 e3 f3 r3 hz => ⟨y, z, r2, r3, q _ _ H3 e3 ((f1.trans f2).trans f3) rfl hz⟩)
    | false =>
      exact iteF (q _ _ H2 e2 (f1.trans f2) rfl (hx.2 cf))
/-! a log's fields, through any view of it -/
section
variable {G : Gen} {dn : Nat} {jj : Addr × Addr} {lg : LogSt} {Kf : PySem.W.Frag} {k : Bool}
theorem p_vS (F : LFacts Kf C) (ho : OwAs ow (OwLog C G dn jj lg)) {X : D → Prop} (hi : Γ[i]? = some (.own ow k)) (h : X lg.start) : P m c Γ (tFld Kf (tVar i) "start") (TDoc G dn) X := .mk fun σ H Q e q => by
  obtain ⟨a, ha, r, _⟩ := e.own hi
  obtain ⟨ne, v1, v2, ws, h1, h2, h3, h4, h5, h6⟩ := ho _ _ _ r
  exact ⟨.ref a, ha, a, C, _, _, v1, rfl, h1, F.cl, F.nS, rfl, q v1 _ H e .refl ((TDoc G dn).imp h2 fun _ => .inl) h⟩
theorem p_vP (F : LFacts Kf C) (ho : OwAs ow (OwLog C G dn jj lg)) {X : List D → Prop} (hi : Γ[i]? = some (.own ow k)) (h : X lg.ps) : P m c Γ (tFld Kf (tVar i) "patches") (TLst (TDoc G dn)) X := .mk fun σ H Q e q => by
  obtain ⟨a, ha, r, _⟩ := e.own hi
  obtain ⟨ne, v1, v2, ws, h1, h2, h3, h4, h5, h6⟩ := ho _ _ _ r
  exact ⟨.ref a, ha, a, C, _, _, v2, rfl, h1, F.cl, F.nP, rfl, q v2 _ H e .refl ((TLst (TDoc G dn)).imp h3 fun _ => .inl) h⟩
theorem p_vA (F : LFacts Kf C) (ho : OwAs ow (OwLog C G dn jj lg)) (hf : ow.fp jj.2) (hpl : ow.pl = false) {X : List (D × List D) → Prop} (hi : Γ[i]? = some (.own ow k)) (h : X lg.past) : P false c Γ (tFld Kf (tVar i) "past") (TLst (TKp G dn)) X := .mk fun σ H Q e q => by
  obtain ⟨a, ha, r, _⟩ := e.own hi
  obtain ⟨ne, v1, v2, ws, h1, h2, h3, h4, h5, h6⟩ := ho _ _ _ r
  exact ⟨.ref a, ha, a, C, _, _, _, rfl, h1, F.cl, F.nA, rfl, q _ _ H e .refl ⟨jj.2, ws, rfl, .inr ⟨rfl, .inr ⟨i, ow, k, a, hi, ha, .inr hf, hpl⟩⟩, h4, h5, h6.imp fun _ _ z => (TKp G dn).imp z fun _ => .inl⟩ h⟩
end
end
end TP

namespace TP
open PySem PySem.Spec PyProof.Rows L2
/-! ### typed readings: several own objects, loops with a test, try -/
section
variable [TabL]
variable {m : Bool} {c : WCtx} {Γ Γ' : List WSlot} {α β γ δ ε ι : Type} {T : Ty α} {U : Ty β} {W : Ty γ} {K : Ko δ} {Kf : PySem.W.Frag}
theorem lc_map {f : α → β} {xs : List α} {os : List (Option β)} (ho : LcRel (fun _ x o => o = some (f x)) xs os) : os.filterMap id = xs.map f := by
  have e : os = xs.map fun x => some (f x) := by
    apply List.ext_getElem?
    intro i
    rw [List.getElem?_map]
    by_cases hi : i < xs.length
    · have hi' : i < os.length := by rw [ho.1]; exact hi
      rw [List.getElem?_eq_getElem hi, List.getElem?_eq_getElem hi']
      exact congrArg some (ho.2 i _ _ (List.getElem?_eq_getElem hi) (List.getElem?_eq_getElem hi'))
    · rw [List.getElem?_eq_none (show os.length ≤ i by rw [ho.1]; omega), List.getElem?_eq_none (show xs.length ≤ i by omega)]; rfl
  rw [e, List.filterMap_map]
  induction xs with
  | nil => rfl
  | cons x xs ih => exact congrArg (f x :: ·) (by
      have : (List.filterMap (id ∘ fun x => some (f x)) xs) = xs.map f := by
        clear ih ho e
        induction xs with
        | nil => rfl
        | cons y ys ih => exact congrArg (f y :: ·) ih
      exact this)
/-! what is hidden -/
def WCtx.hideA (c : WCtx) (A : Addr → Prop) : WCtx := { c with N := fun b => c.N b ∨ A b }
theorem sx_hideA {σ : L2.St} {A : Addr → Prop} {b : Addr} : Sx (c.hideA A) Γ σ b ↔ Sx c Γ σ b ∧ ¬ A b := ⟨fun h => ⟨⟨h.1, h.2.1, fun z => h.2.2.1 (.inl z), h.2.2.2⟩, fun z => h.2.2.1 (.inr z)⟩, fun h => ⟨h.1.1, h.1.2.1, fun z => z.elim h.1.2.2.1 h.2, h.1.2.2.2⟩⟩
theorem WEnv.hideA {σ : L2.St} {H H' : Hp} {A : Addr → Prop} (e : WEnv c Γ σ H) (hA : ∀ b, A b → H b = none) (x : Ex H H') (hH : ∀ b, A b → H' b ≠ none) : WEnv (c.hideA A) Γ σ H' := by
  have nD : ∀ b, Sx c Γ σ b ∧ H b ≠ none → Sx (c.hideA A) Γ σ b := fun b hb => sx_hideA.mpr ⟨hb.1, fun z => hb.2 (hA b z)⟩
  refine ⟨e.len, e.fr.exr x, fun b hb => hb.elim (fun z => x.ne b (e.nn b z)) (hH b), fun b hb z => z.elim (e.on b hb) (fun y => e.noOwnA (hA b y) hb), fun b hb => x.ne b (e.en b hb), e.oe, fun t ht => t.T.mono nD (.of_ex x) (t.T.alloc (e.tm t ht)), fun i s w' h1 h2 => ?_, e.sep⟩
  refine (e.at' i s w' h1 h2).alloc.mono nD (.of_ex x) (fun _ z => z) (.of_ex x) fun o n a h3 h4 b hb => ?_
  obtain ⟨⟨u, hu, pl⟩, _⟩ := e.ownA (a := b) ⟨i, o, n, a, by rw [h1, h3], by rw [h2, h4], hb⟩
  rw [hu]
  exact x.go b u hu (pl_tbl pl)
/-- the hidden object gets a slot -/
theorem WEnv.unhideO {σ : L2.St} {H : Hp} {A : Addr → Prop} {p : Addr} {o : Ow} {i : Nat} (e : WEnv (c.hideA A) Γ σ H) (hA : ∀ b, A b ↔ b = p ∨ o.fp b) (h0 : ∀ b, A b → c.H0 b = none) (hN : ∀ b, A b → ¬ c.N b) (hE : ∀ b, A b → ¬ c.E b) (r : o.R (Sx (c.hideA A) Γ σ) H p) : WEnv c (Γ.set i (.own o true)) (σ.set i (some (.ref p))) H := by
  have own : ∀ b, OwnA (Γ.set i (.own o true)) (σ.set i (some (.ref p))) b → A b ∨ OwnA Γ σ b := fun b hb => by
    obtain ⟨j, o', n', a, h1, h2, h3⟩ := hb
    by_cases cj : i = j
    · subst cj
      cases getElem?_set_some h1
      cases getElem?_set_some h2
      exact .inl ((hA b).mpr h3)
    · rw [List.getElem?_set_ne cj] at h1 h2
      exact .inr ⟨j, o', n', a, h1, h2, h3⟩
  have sub : ∀ b, Sx (c.hideA A) Γ σ b → Sx c (Γ.set i (.own o true)) (σ.set i (some (.ref p))) b := fun b hb => ⟨hb.1, fun z => (own b z).elim (sx_hideA.mp hb).2 hb.2.1, (sx_hideA.mp hb).1.2.2⟩
  have np : ∀ (j : Nat) o' n' a x, Γ[j]? = some (WSlot.own o' n') → σ[j]? = some (some (V.ref a)) → (x = a ∨ o'.fp x) → (x = p ∨ o.fp x) → False := fun j o' n' a x h1 h2 h3 h4 => e.on x ⟨j, o', n', a, h1, h2, h3⟩ (.inr ((hA x).mpr h4))
  refine ⟨by rw [List.length_set, List.length_set]; exact e.len, e.fr, fun b h => e.nn b (.inl h), fun b h z => (own b h).elim (fun q => hN b q z) fun q => e.on b q (.inl z), e.en, fun b h z => (own b h).elim (fun q => hE b q z) fun q => e.oe b q z, fun t ht => t.T.imp (e.tm t ht) sub, fun j s' w' h1 h2 => ?_, fun j k o1 o2 n1 n2 a b x jk h1 h2 h3 h4 h5 h6 => ?_⟩
  · by_cases cj : i = j
    · subst cj
      cases getElem?_set_some h1
      cases getElem?_set_some h2
      exact ⟨p, rfl, o.mono sub .refl (fun _ _ => rfl) r, fun b hb => h0 b ((hA b).mpr hb)⟩
    · rw [List.getElem?_set_ne cj] at h1 h2
      exact (e.at' j s' w' h1 h2).mono sub .refl (fun _ z => z) .refl fun _ _ _ _ _ _ _ => rfl
  · by_cases cj : i = j
    · subst cj
      rw [List.getElem?_set_ne jk] at h2 h4
      cases getElem?_set_some h1
      cases getElem?_set_some h3
      exact np k o2 n2 b x h2 h4 h6 h5
    · rw [List.getElem?_set_ne cj] at h1 h3
      by_cases ck : i = k
      · subst ck
        cases getElem?_set_some h2
        cases getElem?_set_some h4
        exact np j o1 n1 a x h1 h3 h5 h6
      · rw [List.getElem?_set_ne ck] at h2 h4
        exact e.sep j k o1 o2 n1 n2 a b x jk h1 h2 h3 h4 h5 h6
/-- a new object, hidden, while more is read -/
theorem WEnv.hideO {σ : L2.St} {H1 H' : Hp} {p : Addr} {o : Ow} (e1 : WEnv c Γ σ H1) (hp : H1 p = none) (hf : ∀ b, o.fp b → H1 b = none) (xx : Ex H1 H') (r : o.R (fun b => Sx c Γ σ b ∧ b ≠ p ∧ ¬ o.fp b) H' p) : WEnv (c.hideA fun b => b = p ∨ o.fp b) Γ σ H' ∧ o.R (Sx (c.hideA fun b => b = p ∨ o.fp b) Γ σ) H' p ∧ (∀ b, (b = p ∨ o.fp b) → c.H0 b = none ∧ ¬ c.N b ∧ ¬ c.E b) := by
  have fr : ∀ b, (b = p ∨ o.fp b) → H1 b = none := fun b hb => hb.elim (fun z => by rw [z]; exact hp) (hf b)
  refine ⟨e1.hideA fr xx fun b hb => ?_, o.mono (fun b hb => sx_hideA.mpr ⟨hb.1, fun z => z.elim hb.2.1 hb.2.2⟩) .refl (fun _ _ => rfl) r, fun b hb => ⟨e1.fr.fresh (fr b hb), fun z => e1.nn b z (fr b hb), fun z => e1.en b z (fr b hb)⟩⟩
  obtain ⟨u, hu, _⟩ := o.has r b hb
  rw [hu]
  exact fun z => nomatch z
/-- it stays while more is read -/
theorem WEnv.hidR {σ : L2.St} {H H' : Hp} {p : Addr} {o : Ow} (e : WEnv (c.hideA fun b => b = p ∨ o.fp b) Γ σ H) (f : FrO Γ σ H H') (r : o.R (Sx (c.hideA fun b => b = p ∨ o.fp b) Γ σ) H p) : o.R (Sx (c.hideA fun b => b = p ∨ o.fp b) Γ σ) H' p :=
  o.mono (fun _ z => z) (e.stp_own f.toFr) (fun b hb => by
    obtain ⟨u, hu, pl⟩ := o.has r b hb
    rw [hu]
    exact f.go b u (fun z => e.on b z (.inr hb)) hu (pl_tbl pl)) r
theorem run_parNP {i j : Nat} {o : α → Ow} {ta tb : TE} (U : Ty β) (h : PN c Γ ta o fun x => ∀ c', P true c' Γ tb U fun y => K.nx ((Γ.set i (.own (o x) true)).set j (.val U y))) : Run c Γ (tPar i j (tCons ta (tCons tb tNil))) K := .mk fun D σ H e k =>
  h.run σ H _ e fun p x H1 H' e1 f1 hp hf xx r hx => by
    obtain ⟨eh, rh, hq⟩ := e1.hideO hp hf xx r
    refine (hx _).run σ H' _ eh fun w y H2 e2 f2 r2 hz => ⟨.ref p, w, rfl, k.nx _ _ _ ((e2.unhideO (fun _ => Iff.rfl) (fun b hb => (hq b hb).1) (fun b hb => (hq b hb).2.1) (fun b hb => (hq b hb).2.2) (eh.hidR f2 rh)).setv j (U.imp r2 fun b hb => ?_)) hz⟩
    have hb := fx_t hb
    refine ⟨hb.1, fun z => ?_, (sx_hideA.mp hb).1.2.2⟩
    obtain ⟨l, o', n', a, h1, h2, h3⟩ := z
    by_cases cl : i = l
    · subst cl
      cases getElem?_set_some h1
      cases getElem?_set_some h2
      exact (sx_hideA.mp hb).2 h3
    · rw [List.getElem?_set_ne cl] at h1 h2
      exact hb.2.1 ⟨l, o', n', a, h1, h2, h3⟩
theorem run_parNN {i j : Nat} {o : α → Ow} {o2 : β → Ow} {ta tb : TE} (h : PN c Γ ta o fun x => ∀ c', PN c' Γ tb o2 fun y => K.nx ((Γ.set i (.own (o x) true)).set j (.own (o2 y) true))) : Run c Γ (tPar i j (tCons ta (tCons tb tNil))) K := .mk fun D σ H e k =>
  h.run σ H _ e fun p x H1 H' e1 f1 hp hf xx r hx => by
    obtain ⟨eh, rh, hq⟩ := e1.hideO hp hf xx r
    refine (hx _).run σ H' _ eh fun q y H2 H3 e2 f2 hp2 hf2 x2 r2 hz => ⟨.ref p, .ref q, rfl, k.nx _ _ _ ((e2.unhideO (fun _ => Iff.rfl) (fun b hb => (hq b hb).1) (fun b hb => (hq b hb).2.1) (fun b hb => (hq b hb).2.2) (eh.hidR f2 rh)).new hp2 hf2 x2 ((o2 y).mono (fun b hb => ⟨?_, hb.2⟩) .refl (fun _ _ => rfl) r2)) hz⟩
    have hb := hb.1
    refine ⟨hb.1, fun z => ?_, (sx_hideA.mp hb).1.2.2⟩
    obtain ⟨l, o', n', a, h1, h2, h3⟩ := z
    by_cases cl : i = l
    · subst cl
      cases getElem?_set_some h1
      cases getElem?_set_some h2
      exact (sx_hideA.mp hb).2 h3
    · rw [List.getElem?_set_ne cl] at h1 h2
      exact hb.2.1 ⟨l, o', n', a, h1, h2, h3⟩
/-- an own object is pinned -/
theorem run_pin {i : Nat} {o : Ow} {n : Bool} {t : TS} (hi : Γ[i]? = some (.own o n)) (h : ∀ s, Run c (Γ.set i (.own (o.pin s) n)) t K) : Run c Γ t K := run_own (ι := Addr) (fun s => o.pin s) (fun _ => True) hi (fun _ _ z => z) (fun _ _ a r => ⟨a, ⟨rfl, r⟩, trivial⟩) fun s _ => h s
/-- what is another type's, too -/
theorem run_as {i : Nat} {x : α} {y : β} {t : TS} (hi : Γ[i]? = some (.val T x)) (f : ∀ S H v, T.R S H v x → U.R S H v y) (h : Run c (Γ.set i (.val U y)) t K) : Run c Γ t K := run_env fun σ H e => by
  obtain ⟨v, hv, r⟩ := e.get hi
  refine ⟨_, ?_, h⟩
  have := e.setv (T := U) (x := y) i (f _ _ _ r)
  rwa [set_self' hv] at this
/-- an own list, pinned, is given away -/
theorem run_frzP {t : TS} {i : Nat} {s : Addr} {xs : List α} (hi : Γ[i]? = some (.own ((OwLst T xs).pin s) true)) (h : Run c (Γ.set i (.val (TLst T) xs)) t K) : Run c Γ t K := run_env fun σ H e => ⟨_, e.freeze hi fun S H a z => (TLst T).imp (OwLst.val z.2) fun b hb => hb.imp id .inl, h⟩
theorem run_appendP {i : Nat} {n : Bool} {s : Addr} {xs : List α} {te : TE} (hi : Γ[i]? = some (.own ((OwLst T xs).pin s) n)) (h : P true c Γ te T fun x => xs.length < sizeLine ∧ K.nx (Γ.set i (.own ((OwLst T (xs ++ [x])).pin s) n))) : Run c Γ (tDrop (tBM Kf "list" rAppend (tVar i) (tCons te tNil))) K := .mk fun D σ H e k => by
  obtain ⟨a, ha, ⟨_, vs, r, l, p⟩, _⟩ := e.own hi
  refine ⟨.ref a, ha, .inl ⟨rfl, _, .inl (.inl r)⟩, h.run σ H _ e fun v x H1 e1 f1 r1 hx => ?_⟩
  obtain ⟨a', ha', ⟨hs, vs', r', l', p'⟩, _⟩ := e1.own hi
  rw [ha] at ha'
  cases ha'
  have hl : vs'.length < sizeLine := by rw [p'.len]; exact hx.1
  have st : Kpt (Sx c Γ σ) H1 (upd H1 a (.lst (vs' ++ [v]))) := e1.stp_mut hi ha (Fr.put r' rfl).inl
  exact ⟨a, vs', v, rfl, rfl, r', hl, k.nx _ _ _ (e1.mut (o' := (OwLst T (xs ++ [x])).pin s) hi ha (Fr.put r' rfl).inl (fun _ => False.elim) ⟨hs, _, upd_same, by rw [List.length_append]; exact hl, ((p'.imp fun _ _ z => T.stp z st).snoc (T.stp (T.imp r1 fun _ => fx_t) st)).imp fun _ _ z => T.imp z fun b hb => ⟨hb, id⟩⟩) hx.2⟩
theorem paired_snoc {F : V → α → Prop} {ws : List V} {xs : List α} {x : α} (h : Paired F ws (xs ++ [x])) : ∃ us u, ws = us ++ [u] ∧ Paired F us xs ∧ F u x := by
  generalize hq : xs ++ [x] = q at h
  induction h generalizing xs with
  | nil => cases xs <;> cases hq
  | cons r rs ih =>
    cases xs with
    | nil =>
      cases hq
      cases rs
      exact ⟨[], _, rfl, .nil, r⟩
    | cons y ys =>
      cases hq
      obtain ⟨us, u, rfl, h7, h8⟩ := ih rfl
      exact ⟨_ :: us, u, rfl, .cons r h7, h8⟩
/-- xs.pop() -/
theorem run_popP {i : Nat} {n : Bool} {s : Addr} {xs : List α} {x : α} (hi : Γ[i]? = some (.own ((OwLst T (xs ++ [x])).pin s) n)) (h : K.nx (Γ.set i (.own ((OwLst T xs).pin s) n))) : Run c Γ (tDrop (tBM0 Kf "list" rPop (tVar i))) K := .mk fun D σ H e k => by
  obtain ⟨a, ha, ⟨hs, vs, r, l, p⟩, _⟩ := e.own hi
  obtain ⟨us, u, rfl, hu, hr⟩ := paired_snoc p
  refine ⟨.ref a, ha, .inl ⟨rfl, _, .inl (.inl r)⟩, a, _, u, rfl, rfl, r, by rw [List.length_append]; simp, ?_⟩
  rw [List.dropLast_concat]
  have st : Kpt (Sx c Γ σ) H (upd H a (.lst us)) := e.stp_mut hi ha (Fr.put r rfl).inl
  exact k.nx _ _ _ (e.mut (o' := (OwLst T xs).pin s) hi ha (Fr.put r rfl).inl (fun _ => False.elim) ⟨hs, _, upd_same, by rw [List.length_append] at l; omega, (hu.imp fun _ _ z => T.stp z st).imp fun _ _ z => T.imp z fun b hb => ⟨hb, id⟩⟩) h
/-! a loop with a test -/
theorem run_while {tc : TT} {tb : TS} (Inv : Nat → List WSlot → Prop) (h0 : ∃ k, Inv k Γ) (hs : ∀ k Γ', Inv k Γ' → PB c Γ' tc fun b => (b = true → Run c Γ' tb { K with nx := fun Γ2 => ∃ k', k' < k ∧ Inv k' Γ2, ct := fun Γ2 => ∃ k', k' < k ∧ Inv k' Γ2, bk := K.nx }) ∧ (b = false → K.nx Γ')) : Run c Γ (tWhile tc tb) K := .mk fun D σ H e k => by
  obtain ⟨k0, h0⟩ := h0
  refine ⟨fun k σ H => ∃ Γ', WEnv c Γ' σ H ∧ Inv k Γ', ⟨k0, Γ, e, h0⟩, fun n σ1 H1 ⟨Γ', e1, iv⟩ => (hs n Γ' iv).run σ1 H1 _ e1 fun b H2 e2 f2 hx => ?_⟩
  cases b with
  | true =>
    rw [if_pos rfl]
    exact ⟨fun σ' H' => ∃ k', k' < n ∧ ∃ Γ2, WEnv c Γ2 σ' H' ∧ Inv k' Γ2, fun σ' H' ⟨k', hk, q⟩ => ⟨k', hk, q⟩, (hx.1 rfl).run _ _ _ e2 ⟨k.rt, fun Γ2 σ2 H3 e3 ⟨k', hk, q⟩ => ⟨k', hk, Γ2, e3, q⟩, k.nx, fun Γ2 σ2 H3 e3 ⟨k', hk, q⟩ => ⟨k', hk, Γ2, e3, q⟩⟩⟩
  | false =>
    rw [if_neg (fun z => nomatch z)]
    exact k.nx _ _ _ e2 (hx.2 rfl)
/-! readings that change own objects -/
structure PG1 (c : WCtx) (Γ : List WSlot) (t : TE) {α : Type} (T : Ty α) (X : List WSlot → α → Prop) : Prop where
  run : ∀ σ H Q, WEnv c Γ σ H → (∀ v x Γ' H', WEnv c Γ' σ H' → T.R (Sx c Γ' σ) H' v x → X Γ' x → Q v H') → t σ H Q
structure PBg (c : WCtx) (Γ : List WSlot) (t : TT) (X : List WSlot → Bool → Prop) : Prop where
  run : ∀ σ H Q, WEnv c Γ σ H → (∀ b Γ' H', WEnv c Γ' σ H' → X Γ' b → Q b H') → t σ H Q
theorem pbg_of {t : TT} {X : List WSlot → Bool → Prop} (h : PB c Γ t fun b => X Γ b) : PBg c Γ t X := .mk fun σ H Q e q => h.run σ H Q e fun b H' e' _ hx => q b Γ H' e' hx
theorem pbg_val {t : TE} {X : List WSlot → Bool → Prop} (h : PG1 c Γ t TBool X) : PBg c Γ (tB t) X := .mk fun σ H Q e q => h.run σ H _ e fun v x Γ' H' e' r hx => ⟨x, r, q x Γ' H' e' hx⟩
theorem pbg_test {t : TE} {X : List WSlot → Bool → Prop} (h : PG1 c Γ t TBool X) : PBg c Γ (tTest t) X := .mk fun σ H Q e q => h.run σ H _ e fun v x Γ' H' e' r hx => ⟨x, r, q x Γ' H' e' hx⟩
theorem pbg_not {t : TT} {X : List WSlot → Bool → Prop} (h : PBg c Γ t fun Γ' b => X Γ' (!b)) : PBg c Γ (tNot t) X := .mk fun σ H Q e q => h.run σ H _ e fun b Γ' H' e' hx => q _ Γ' H' e' hx
theorem pbg_and {t u : TT} {X : List WSlot → Bool → Prop} (h : PBg c Γ t fun Γ' b => (b = true → PBg c Γ' u X) ∧ (b = false → X Γ' false)) : PBg c Γ (tAnd t u) X := .mk fun σ H Q e q => h.run σ H _ e fun b Γ1 H1 e1 hx => by
  cases b with
  | true => exact iteT ((hx.1 rfl).run σ H1 Q e1 fun b' Γ2 H2 e2 hx2 => q b' Γ2 H2 e2 hx2)
  | false => exact iteF (q false Γ1 H1 e1 (hx.2 rfl))
theorem pbg_or {t u : TT} {X : List WSlot → Bool → Prop} (h : PBg c Γ t fun Γ' b => (b = true → X Γ' true) ∧ (b = false → PBg c Γ' u X)) : PBg c Γ (tOr t u) X := .mk fun σ H Q e q => h.run σ H _ e fun b Γ1 H1 e1 hx => by
  cases b with
  | true => exact iteT (q true Γ1 H1 e1 (hx.1 rfl))
  | false => exact iteF ((hx.2 rfl).run σ H1 Q e1 fun b' Γ2 H2 e2 hx2 => q b' Γ2 H2 e2 hx2)
theorem run_ifg {t : TT} {a b : TS} (h : PBg c Γ t fun Γ' x => (x = true → Run c Γ' a K) ∧ (x = false → Run c Γ' b K)) : Run c Γ (tIfS t a b) K := .mk fun D σ H e k => h.run σ H _ e fun x Γ' H' e' hx => by
  cases x with
  | true => exact iteT ((hx.1 rfl).run D σ H' e' k)
  | false => exact iteF ((hx.2 rfl).run D σ H' e' k)
theorem run_retG {t : TE} {K : Ko δ} (h : PG1 c Γ t K.T fun Γ' y => K.X Γ' y) : Run c Γ (tRet t) K := .mk fun D σ H e k => h.run σ H _ e fun v y Γ' H' e' r hx => k.rt v y Γ' σ H' e' r hx
theorem run_asgG {t : TE} {i : Nat} (T : Ty α) (h : PG1 c Γ t T fun Γ' x => K.nx (Γ'.set i (.val T x))) : Run c Γ (tAsg t (gName i)) K := .mk fun D σ H e k => h.run σ H _ e fun v x Γ' H' e' r hx => k.nx _ _ _ (e'.setv i r) hx
theorem run_dropG {t : TE} (T : Ty α) (h : PG1 c Γ t T fun Γ' _ => K.nx Γ') : Run c Γ (tDrop t) K := .mk fun D σ H e k => h.run σ H _ e fun v x Γ' H' e' r hx => k.nx _ _ _ e' hx
/-- several own objects change; nothing more belongs to them -/
theorem WEnv.muts {σ : L2.St} {H H' : Hp} (e : WEnv c Γ σ H) (I : Nat → Prop) [DecidablePred I] (hl : Γ'.length = Γ.length) (same : ∀ j, ¬ I j → Γ'[j]? = Γ[j]?)
    (own : ∀ j, I j → ∃ o o' n a, Γ[j]? = some (WSlot.own o n) ∧ Γ'[j]? = some (WSlot.own o' n) ∧ σ[j]? = some (some (V.ref a)) ∧ (∀ b, o'.fp b → o.fp b) ∧ o'.R (fun b => Sx c Γ σ b ∨ H b = none) H' a)
    (f : Fr (fun b => ∃ (j : Nat) (o : Ow) (n : Bool) (a : Addr), I j ∧ Γ[j]? = some (WSlot.own o n) ∧ σ[j]? = some (some (V.ref a)) ∧ (b = a ∨ o.fp b)) H H') : WEnv c Γ' σ H' := by
  have inA : ∀ b, OwnA Γ' σ b → OwnA Γ σ b := fun b ⟨j, o1, n1, a1, h1, h2, h3⟩ => by
    by_cases cj : I j
    · obtain ⟨o, o', n, a, g1, g2, g3, g4, _⟩ := own j cj
      rw [g2] at h1; cases h1
      rw [g3] at h2; cases h2
      exact ⟨j, o, _, _, g1, g3, h3.imp id (g4 b)⟩
    · rw [same j cj] at h1
      exact ⟨j, o1, n1, a1, h1, h2, h3⟩
  have sub : ∀ b, Sx c Γ σ b → Sx c Γ' σ b := fun b hb => ⟨hb.1, fun z => hb.2.1 (inA b z), hb.2.2⟩
  have fA : Fr (OwnA Γ σ) H H' := f.imp fun b ⟨j, o, n, a, _, h1, h2, h3⟩ => ⟨j, o, n, a, h1, h2, h3⟩
  have st := e.stp_own fA
  refine ⟨by rw [hl]; exact e.len, e.fr.trans' fA fun b hb => (e.ownA hb).2, fun b h => fA.ne b (e.nn b h), fun b h => e.on b (inA b h), fun b h => fA.ne b (e.en b h), fun b h => e.oe b (inA b h), fun t ht => t.T.mono sub st (e.tm t ht), fun j s w h1 h2 => ?_, fun j k o1 o2 n1 n2 a b x jk h1 h2 h3 h4 h5 h6 => ?_⟩
  · by_cases cj : I j
    · obtain ⟨o, o', n, a, g1, g2, g3, g4, g5⟩ := own j cj
      rw [g2] at h1; cases h1
      rw [g3] at h2; cases h2
      obtain ⟨a', ha', _, hA⟩ := e.own g1
      rw [g3] at ha'; cases ha'
      exact ⟨a, rfl, o'.mono (fun b hb => sub b (e.nwS b hb)) .refl (fun _ _ => rfl) g5, fun b hb => hA b (hb.imp id (g4 b))⟩
    · rw [same j cj] at h1
      refine (e.at' j s w h1 h2).mono sub st (fun _ z => z) (e.stp_exc fA) fun o n a hs hw b hb => ?_
      subst hs hw
      obtain ⟨⟨u, hu, pl⟩, _⟩ := e.ownA (a := b) ⟨j, o, n, a, h1, h2, hb⟩
      rw [hu]
      refine f.go b u (fun ⟨k, o2, n2, a2, ck, g1, g2, g3⟩ => ?_) hu (pl_tbl pl)
      exact e.sep k j o2 o n2 n a2 a b (fun z => cj (by rw [← z]; exact ck)) g1 h1 g2 h2 g3 hb
  · have old : ∀ (j : Nat) o1 n1 a x, Γ'[j]? = some (WSlot.own o1 n1) → σ[j]? = some (some (V.ref a)) → (x = a ∨ o1.fp x) → ∃ o n, Γ[j]? = some (WSlot.own o n) ∧ (x = a ∨ o.fp x) := fun j o1 n1 a x h1 h2 h3 => by
      by_cases cj : I j
      · obtain ⟨o, o', n, a', g1, g2, g3, g4, _⟩ := own j cj
        rw [g2] at h1; cases h1
        exact ⟨o, _, g1, h3.imp id (g4 x)⟩
      · rw [same j cj] at h1
        exact ⟨o1, n1, h1, h3⟩
    obtain ⟨o3, n3, g1, g2⟩ := old j o1 n1 a x h1 h3 h5
    obtain ⟨o4, n4, g3, g4⟩ := old k o2 n2 b x h2 h4 h6
    exact e.sep j k o3 o4 n3 n4 a b x jk g1 g3 h3 h4 g2 g4
variable {ε' ι' : Type}
/-- a def with two own objects that it may change, and a value -/
def pmm1 (o : ι → ε → Ow) (o2 : ι' → ε' → Ow) (T : Ty α) (W : Ty γ) (Pre : ε → ε' → α → Prop) (Post : ε → ε' → α → ε → ε' → γ → Prop) : Sp := fun vs H Q _ => ∃ i st i2 st2 S s s2 v x, vs = [.ref s, .ref s2, v] ∧ TabA H ∧ (o i st).R S H s ∧ (o2 i2 st2).R S H s2 ∧ (∀ b, (b = s ∨ (o i st).fp b) ∨ (b = s2 ∨ (o2 i2 st2).fp b) → ¬ S b) ∧ (∀ b, (b = s ∨ (o i st).fp b) → (b = s2 ∨ (o2 i2 st2).fp b) → False) ∧ T.R S H v x ∧ Pre st st2 x ∧
  ∀ r st' st2' z H', Fr (fun b => (b = s ∨ (o i st).fp b) ∨ (b = s2 ∨ (o2 i2 st2).fp b)) H H' → (o i st').R (fun b => S b ∨ H b = none) H' s → (o2 i2 st2').R (fun b => S b ∨ H b = none) H' s2 → W.R (fun b => S b ∨ H b = none) H' r z → Post st st2 x st' st2' z → Q r H'
variable {E : XK} {o : ι → ε → Ow} {o2 : ι' → ε' → Ow} {i i2 : Nat} {j : ι} {j2 : ι'} {st : ε} {st2 : ε'} {s s2 : Addr} {n n2 : Bool}
theorem pg_mm1 [z : OwFp o] [z2 : OwFp o2] {Pre : ε → ε' → α → Prop} {Post : ε → ε' → α → ε → ε' → γ → Prop} {ta : TE} {X : List WSlot → γ → Prop} (ii : i ≠ i2) (hi : Γ[i]? = some (.own ((o j st).pin s) n)) (hi2 : Γ[i2]? = some (.own ((o2 j2 st2).pin s2) n2))
    (h : P true c Γ ta T fun x => Pre st st2 x ∧ ∀ st' st2' y, Post st st2 x st' st2' y → X ((Γ.set i (.own ((o j st').pin s) n)).set i2 (.own ((o2 j2 st2').pin s2) n2)) y) : PG1 c Γ (tCall (pmm1 o o2 T W Pre Post) [] E (tCons (tVar i) (tCons (tVar i2) (tCons ta tNil)))) W X := .mk fun σ H Q e q => by
  obtain ⟨a, ha, r, _⟩ := e.own hi
  obtain rfl : a = s := r.1
  obtain ⟨b, hb, r2, _⟩ := e.own hi2
  obtain rfl : b = s2 := r2.1
  refine ⟨.ref a, ha, .ref b, hb, h.run σ H _ e fun v x H1 e1 f1 r1 hx => ?_⟩
  obtain ⟨a', ha', r', _⟩ := e1.own hi
  rw [ha] at ha'
  cases ha'
  obtain ⟨b', hb', r2', _⟩ := e1.own hi2
  rw [hb] at hb'
  cases hb'
  refine ⟨j, st, j2, st2, Sx c Γ σ, a, b, v, x, rfl, e1.tabA, r'.2, r2'.2, fun y hy z => z.2.1 (hy.elim (fun y => ⟨i, _, n, a, hi, ha, y⟩) fun y => ⟨i2, _, n2, b, hi2, hb, y⟩), fun y h1 h2 => e1.sep i i2 _ _ _ _ a b y ii hi hi2 ha hb h1 h2, T.imp r1 fun _ => fx_t, hx.1, fun u st' st2' y H' f o1' o2' w hy => ?_⟩
  have hlt : i < Γ.length := (List.getElem?_eq_some_iff.mp hi).1
  have hlt2 : i2 < Γ.length := (List.getElem?_eq_some_iff.mp hi2).1
  have e' : WEnv c ((Γ.set i (.own ((o j st').pin a) n)).set i2 (.own ((o2 j2 st2').pin b) n2)) σ H' := by
    refine e1.muts (fun k => k = i ∨ k = i2) (by rw [List.length_set, List.length_set]) (fun k hk => ?_) (fun k hk => ?_) (f.imp fun y hy => hy.elim (fun y => ⟨i, _, n, a, .inl rfl, hi, ha, y⟩) fun y => ⟨i2, _, n2, b, .inr rfl, hi2, hb, y⟩)
    · rw [List.getElem?_set_ne fun y => hk (.inr y.symm), List.getElem?_set_ne fun y => hk (.inl y.symm)]
    · rcases hk with rfl | rfl
      · exact ⟨_, (o j st').pin a, n, a, hi, by rw [List.getElem?_set_ne ii.symm, List.getElem?_set_self hlt], ha, z.fp j st' st, rfl, o1'⟩
      · exact ⟨_, (o2 j2 st2').pin b, n2, b, hi2, by rw [List.getElem?_set_self (by rw [List.length_set]; exact hlt2)], hb, z2.fp j2 st2' st2, rfl, o2'⟩
  refine q u y _ H' e' (W.imp w fun b' hb' => ?_) (hx.2 st' st2' y hy)
  have hs := e1.nwS b' hb'
  refine ⟨hs.1, fun ⟨l, o', n', a', h1, h2, h3⟩ => hs.2.1 ?_, hs.2.2⟩
  by_cases cl : i2 = l
  · subst cl
    cases getElem?_set_some h1
    rw [hb] at h2; cases h2
    exact ⟨_, _, n2, b, hi2, hb, h3.imp id (z2.fp j2 st2' st2 b')⟩
  · rw [List.getElem?_set_ne cl] at h1
    by_cases cl2 : i = l
    · subst cl2
      cases getElem?_set_some h1
      rw [ha] at h2; cases h2
      exact ⟨_, _, n, a, hi, ha, h3.imp id (z.fp j st' st b')⟩
    · rw [List.getElem?_set_ne cl2] at h1
      exact ⟨l, o', n', a', h1, h2, h3⟩
/-! entering it -/
def kmm (o : ι → ε → Ow) (j : ι) (s : Addr) (o2 : ι' → ε' → Ow) (j2 : ι') (s2 : Addr) (W : Ty γ) (Post : ε → ε' → γ → Prop) : Ko γ := { T := W, X := fun Γ z => ∃ st st2, Γ[0]? = some (.own ((o j st).pin s) false) ∧ Γ[1]? = some (.own ((o2 j2 st2).pin s2) false) ∧ Post st st2 z }
theorem entermm1 {Pre : ε → ε' → α → Prop} {Post : ε → ε' → α → ε → ε' → γ → Prop} {vs : List V} {H : Hp} {Q : VK} {N : List Str} {t : TS} (h : pmm1 o o2 T W Pre Post vs H Q E) {Γ0 : List WSlot} (hΓ : Γ0 = List.replicate (N.length - 3) .un) (b : ∀ c j s st j2 s2 st2 x, Pre st st2 x → Run c (.own ((o j st).pin s) false :: .own ((o2 j2 st2).pin s2) false :: .val T x :: Γ0) t (kmm o j s o2 j2 s2 W (Post st st2 x))) : t { nx := fun _ H' => Q .non H', rt := Q } (start N vs) H := by
  subst hΓ
  obtain ⟨j, st, j2, st2, S, s, s2, v, x, rfl, tb, ho, ho2, hs, dis, r1, hp, q⟩ := h
  have e : start N [.ref s, .ref s2, v] = some (.ref s) :: some (.ref s2) :: some v :: List.replicate (N.length - 3) none := by
    unfold L2.start
    simp
  rw [e]
  have own : ∀ a, OwnA (.own ((o j st).pin s) false :: .own ((o2 j2 st2).pin s2) false :: .val T x :: List.replicate (N.length - 3) .un) (some (.ref s) :: some (.ref s2) :: some v :: List.replicate (N.length - 3) none) a → (a = s ∨ (o j st).fp a) ∨ (a = s2 ∨ (o2 j2 st2).fp a) := fun a ⟨i, o', n, b, z, y, hb⟩ => by
    match i with
    | 0 => cases z; cases y; exact .inl hb
    | 1 => cases z; cases y; exact .inr hb
    | 2 => cases z
    | i + 3 =>
      rw [List.getElem?_cons_succ, List.getElem?_cons_succ, List.getElem?_cons_succ] at z
      cases (List.mem_replicate.mp (List.mem_of_getElem? z)).2
  have sub : ∀ b, S b → Sx ⟨H, S, fun b => (b = s ∨ (o j st).fp b) ∨ (b = s2 ∨ (o2 j2 st2).fp b), fun _ => False, fun _ => False, [], fun _ z => z.elim, tb⟩ (.own ((o j st).pin s) false :: .own ((o2 j2 st2).pin s2) false :: .val T x :: List.replicate (N.length - 3) .un) (some (.ref s) :: some (.ref s2) :: some v :: List.replicate (N.length - 3) none) b := fun b hb => ⟨.inl hb, fun z => hs b (own b z) hb, id, id⟩
  have env : WEnv ⟨H, S, fun b => (b = s ∨ (o j st).fp b) ∨ (b = s2 ∨ (o2 j2 st2).fp b), fun _ => False, fun _ => False, [], fun _ z => z.elim, tb⟩ (.own ((o j st).pin s) false :: .own ((o2 j2 st2).pin s2) false :: .val T x :: List.replicate (N.length - 3) .un) (some (.ref s) :: some (.ref s2) :: some v :: List.replicate (N.length - 3) none) H := by
    refine ⟨by simp, .refl, fun b z => z.elim, fun b _ => id, fun b z => z.elim, fun b _ => id, fun t z => (by cases z), fun i s' w h1 h2 => ?_, fun i k o1 o3 n1 n3 a b y ik z1 z2 z3 z4 z5 z6 => ?_⟩
    · match i with
      | 0 => cases h1; cases h2; exact ⟨s, rfl, ⟨rfl, (o j st).mono sub .refl (fun _ _ => rfl) ho⟩, fun b hb => (.inl hb : _ ∨ _)⟩
      | 1 => cases h1; cases h2; exact ⟨s2, rfl, ⟨rfl, (o2 j2 st2).mono sub .refl (fun _ _ => rfl) ho2⟩, fun b hb => (.inr hb : _ ∨ _)⟩
      | 2 => cases h1; cases h2; exact ⟨v, rfl, T.imp r1 sub⟩
      | i + 3 =>
        rw [List.getElem?_cons_succ, List.getElem?_cons_succ, List.getElem?_cons_succ] at h1 h2
        rw [(List.mem_replicate.mp (List.mem_of_getElem? h1)).2, (List.mem_replicate.mp (List.mem_of_getElem? h2)).2]
        rfl
    · have un : ∀ (i : Nat) o' n', (.own ((o j st).pin s) false :: .own ((o2 j2 st2).pin s2) false :: .val T x :: List.replicate (N.length - 3) WSlot.un)[i]? = some (WSlot.own o' n') → i = 0 ∨ i = 1 := fun i o' n' z => by
        match i with
        | 0 => exact .inl rfl
        | 1 => exact .inr rfl
        | 2 => cases z
        | i + 3 =>
          rw [List.getElem?_cons_succ, List.getElem?_cons_succ, List.getElem?_cons_succ] at z
          cases (List.mem_replicate.mp (List.mem_of_getElem? z)).2
      rcases un i o1 n1 z1 with rfl | rfl
      · rcases un k o3 n3 z2 with rfl | rfl
        · exact ik rfl
        · cases z1; cases z2; cases z3; cases z4
          exact dis y z5 z6
      · rcases un k o3 n3 z2 with rfl | rfl
        · cases z1; cases z2; cases z3; cases z4
          exact dis y z6 z5
        · exact ik rfl
  refine (b _ j s st j2 s2 st2 x hp).run _ _ _ env ⟨fun u y Γ' σ' H' e r ⟨st', st2', h1, h2, hz⟩ => ?_, fun _ _ _ _ z => z.elim, fun _ _ _ _ z => z.elim, fun _ _ _ _ z => z.elim⟩
  obtain ⟨a, ha, ra, _⟩ := e.own h1
  obtain rfl : a = s := ra.1
  obtain ⟨a2, ha2, ra2, _⟩ := e.own h2
  obtain rfl : a2 = s2 := ra2.1
  exact q u st' st2' y H' e.fr ((o j st').mono (fun b hb => hb.1) .refl (fun _ _ => rfl) ra.2) ((o2 j2 st2').mono (fun b hb => hb.1) .refl (fun _ _ => rfl) ra2.2) (W.imp r fun b hb => hb.1) hz
theorem lenmm1 {Pre : ε → ε' → α → Prop} {Post : ε → ε' → α → ε → ε' → γ → Prop} {vs : List V} {H : Hp} {Q : VK} (h : pmm1 o o2 T W Pre Post vs H Q E) : vs.length = 3 := by obtain ⟨_, _, _, _, _, _, _, _, _, rfl, _⟩ := h; rfl
instance : OwFp (fun (_ : Unit) (xs : List α) => OwLst T xs) := ⟨fun _ _ _ _ h => h⟩
/-- the second own object at a def's end -/
theorem run_retK {t : TE} {Po : ε → ε' → γ → Prop} (h0 : Γ[0]? = some (.own ((o j st).pin s) false)) (h1 : Γ[1]? = some (.own ((o2 j2 st2).pin s2) false)) (h : P true c Γ t W fun y => Po st st2 y) : Run c Γ (tRet t) (kmm o j s o2 j2 s2 W Po) := run_ret (h.imp fun y hy => ⟨st, st2, h0, h1, hy⟩)
end
end TP
namespace TP
open PySem PySem.Spec PyProof.Rows L2
/-! a method that raises, in a try -/
section
variable {X : Cx} {CX : CXT} {k : Nat} {f C : Addr} {fd : FuncData} {ps : List Str} {sp : Sp} {m : Str} {pos apos : Pos} {o : Expr} {ta : TE}
def tMethS (C : Addr) (m : Str) (sp : Sp) (E : L2.St → XK) (ta : TE) : TE := fun σ H Q => ta σ H fun x H1 => ∃ a dx fs, x = .ref a ∧ H1 a = some (.ins C dx fs) ∧ fs.lookup m = none ∧ sp [x] H1 Q (E σ)
theorem pe_meth0S {E : L2.St → XK} {pl : Sem Bool} (he : PE X o ta) (c : Cls X.K C) (hm : L2.Meth X.K C m f) (F : FnOk X.prog X.w X.K X.mg X.base CX k f fd ps sp) (hr : Room k X.A) (hb : Binds X.K fd ps []) (hx : ∀ σ, PassesAt CX X σ (E σ))
    (ht : eval (.Call (.Attribute o m apos) [] [] pos) X.env = (do
      let ov ← eval o X.env
      standAt apos.atName
      let (f, first) ← holding [ov] (getMethod ov m pl)
      callWith pos f first (backTo pos (starEach [] X.env)) (backToKw pos (keywordEach [] X.env))) := by rfl) :
    PE X (.Call (.Attribute o m apos) [] [] pos) (tMethS C m sp E ta) := by
  refine ⟨fun pins s σ H Q I h => ?_⟩
  refine PySem.W.methodCall_KW (pl := pl) (thn (he.run pins s σ H _ I h) fun u s1 ⟨x, H1, I1, rx, a, dx, fs, ex, ea, l, q⟩ => ?_) ht
  subst ex
  obtain rfl : u = Value.ref a := rx
  refine getmeth_ok I1 ea c hm l ?_
  exact PySem.W.callWith_K0 (first := [.ref a]) I1.kIn hm.kp (run_fnS (us := [.ref a]) (vs := [.ref a]) F hr hb (hx σ) I1 (.cons rfl .nil) q)
variable {B newId initId x : Str} {bmB : List Value} {p : Pos}
/-- X() -/
theorem pmk_own0 {B newId initId : String} (F : ExcBaseFacts B newId initId bmB) (q : PySem.W.excIn X.K C bmB newId = true) (gC : X.mg x = some (.ref C)) (kC : PySem.W.keepIn X.K (.ref C) = true) (r : Raises X (.ref C)) (hg : Gl X x)
    (hs : starEach [] X.env = [] := by rfl) (hdb : (x == ("__debug__" : Str)) = false := by decide) :
    PMk X (.Call (.Name x p) [] [] pos) (fun _ H Q => Q (.ref C) none H) := by
  intro pins s σ H Q I h
  refine wpAny_Call_Name_kw (ld_glob I hg gC ?_ hdb)
  refine PySem.W.callWith_K0 (first := []) I.kIn kC ?_
  obtain ⟨bm, N, nm, qn, bs, hdct, sn, sub, ab, col, dd, k0, k1, k2, k3, k5, mN, hC, hN, hni, T⟩ := exc_obj I.kIn q
  refine wpAny_call_exc_subT F T hC hN hni (fun h' e hm => ?_) (by show 0 ≤ sizeLine; rw [sizeLine_eq]; omega)
  exact mk_of I hm r h (I.hok.gone hm.new)
end
end TP

namespace TP
open PySem PySem.Spec PyProof.Rows L2
/-! ### typed readings: exclusive values, more -/
section
variable [TabL]
variable {m : Bool} {c : WCtx} {Γ Γ' : List WSlot} {α β γ δ ε ι : Type} {T : Ty α} {U : Ty β} {W : Ty γ} {K : Ko δ} {Kf : PySem.W.Frag}
theorem run_seqX2 {t : TE} {i : Nat} {u : TS} (T : Ty α) (h : PX c Γ t T fun x => ∀ (c' : WCtx) (A : Addr → Prop), (∀ b, c.E b → c'.E b) → (∀ b, A b → c'.E b) → (∀ b, c.E b → ¬ A b) → Run c' (Γ.set i (.exc A T x)) u K.lim) : Run c Γ (tSeq (tAsg t (gName i)) u) K := .mk fun D σ H e k =>
  h.run σ H _ e fun v x H1 e1 f r hx => by
    have hz : ∀ b, (H b = none ∧ H1 b ≠ none) → c.H0 b = none := fun b hb => e.fr.fresh hb.1
    exact (hx (c.more _ hz) _ (fun b hb => .inl hb) (fun b hb => .inr hb) fun b hb z => e.en b hb z.1).run D _ H1 (e.more e1 f r rfl hz) k.more
/-- two values that have no part in common; what comes has parts of the first -/
def pd2 (T : Ty α) (U : Ty β) (W : Ty γ) (Pre : α → β → Prop) (Post : α → β → γ → Prop) : Sp := fun vs H Q _ => ∃ S1 S2 v w x y, vs = [v, w] ∧ TabA H ∧ T.R S1 H v x ∧ U.R S2 H w y ∧ (∀ b, S1 b → S2 b → False) ∧ Pre x y ∧ ∀ r z H', Ex H H' → W.R (fun b => S1 b ∨ H b = none) H' r z → Post x y z → Q r H'
theorem lend2 {E : XK} {Pre : α → β → Prop} {Post : α → β → γ → Prop} {vs : List V} {H : Hp} {Q : VK} (h : pd2 T U W Pre Post vs H Q E) : vs.length = 2 := by obtain ⟨_, _, _, _, _, _, rfl, _⟩ := h; rfl
theorem run_seqE {E : XK} {i j : Nat} {A : Addr → Prop} {x : α} {u : TS} {te : TE} {Pre : α → β → Prop} {Post : α → β → γ → Prop} (hi : Γ[i]? = some (.exc A T x)) (h : P true c Γ te U fun y => Pre x y ∧ ∀ z, Post x y z → ∀ (c' : WCtx) (B : Addr → Prop), (∀ b, c.E b → c'.E b) → (∀ b, B b → c'.E b) → Run c' (Γ.set j (.exc B W z)) u K.lim) :
    Run c Γ (tSeq (tAsg (tCall (pd2 T U W Pre Post) [] E (tCons (tVar i) (tCons te tNil))) (gName j)) u) K := .mk fun D σ H e k => by
  obtain ⟨w0, hw0⟩ := e.lt hi
  obtain ⟨v, rfl, r0, hA0⟩ := e.at' i _ w0 hi hw0
  refine ⟨v, hw0, h.run σ H _ e fun w y H1 e1 f1 r1 hx => ?_⟩
  obtain ⟨w1, hw1⟩ := e1.lt hi
  rw [hw0] at hw1
  cases hw1
  obtain ⟨v', ev, r, hA⟩ := e1.at' i _ _ hi hw0
  cases ev
  refine ⟨A, Sx c Γ σ, v, w, x, y, rfl, e1.tabA, r, U.imp r1 fun _ => fx_t, fun b hb z => z.2.2.2 (hA b hb), hx.1, fun r2 z H2 x2 rz hz => ?_⟩
  have e2 := e1.ex x2
  have hzz : ∀ b, (H1 b = none ∧ H2 b ≠ none) → c.H0 b = none := fun b hb => e1.fr.fresh hb.1
  have em := e1.more (T := TAny Unit) (x := ()) (i := j) (v := r2) e2 (.of_ex x2) trivial rfl hzz
  have ef := em.sets (i := j) (s := .exc (c.more _ hzz).E W z) (w := some r2) (fun _ _ q => nomatch q) ⟨r2, rfl, W.mono (fun b hb => (⟨hb.1.elim (fun q => .inl (hA b q)) fun q => .inr ⟨q, hb.2⟩, hb.2⟩ : _ ∧ _).1) .refl (W.alloc rz), fun b hb => hb⟩
  rw [List.set_set, List.set_set] at ef
  exact (hx.2 z hz (c.more _ hzz) _ (fun b hb => .inl hb) (fun b hb => hb)).run D _ H2 ef k.more
def excAll (p : (Addr → Prop) → Prop) : List WSlot → Prop
  | [] => True
  | s :: r => (match s with | .exc B _ _ => p B | _ => True) ∧ excAll p r
theorem excAll_at {p : (Addr → Prop) → Prop} : ∀ {Γ : List WSlot}, excAll p Γ → ∀ {j : Nat} {B : Addr → Prop} {η : Type} {Y : Ty η} {y : η}, Γ[j]? = some (.exc B Y y) → p B
  | [], _, j, _, _, _, _, h => by cases j <;> cases h
  | s :: r, q, 0, _, _, _, _, h => by cases h; exact q.1
  | s :: r, q, j + 1, _, _, _, _, h => excAll_at q.2 h
theorem run_spoil2 {E : XK} {i : Nat} {A : Addr → Prop} {x : α} {Pre : α → Prop} (hi : Γ[i]? = some (.exc A T x)) (hp : Pre x) (hX : excAll (fun B => ∀ b, B b → ¬ A b) (Γ.set i .any)) (h : K.nx (Γ.set i .any)) : Run c Γ (tDrop (tCall (pspoil T Pre) [] E (tCons (tVar i) tNil))) K := .mk fun D σ H e k => by
  obtain ⟨w, hw⟩ := e.lt hi
  obtain ⟨v, rfl, r, hA⟩ := e.at' i _ w hi hw
  refine ⟨v, hw, A, v, x, rfl, r, hp, fun H' f => k.nx _ _ _ ?_ h⟩
  have own : ∀ b, OwnA (Γ.set i .any) σ b → OwnA Γ σ b := fun b ⟨j, o, n, a, h1, h2, h3⟩ => by
    by_cases cj : i = j
    · subst cj; cases getElem?_set_some h1
    · rw [List.getElem?_set_ne cj] at h1
      exact ⟨j, o, n, a, h1, h2, h3⟩
  have sub : ∀ b, Sx c Γ σ b → Sx c (Γ.set i .any) σ b := fun b hb => ⟨hb.1, fun z => hb.2.1 (own b z), hb.2.2⟩
  have st : Kpt (Sx c Γ σ) H H' := ⟨fun b u s z h => f.go b u (fun y => s.2.2.2 (hA b y)) h z, f.ne, f.tab⟩
  refine ⟨by rw [List.length_set]; exact e.len, e.fr.trans' f fun b hb => .inr (c.ez b (hA b hb)), fun b h => f.ne b (e.nn b h), fun b h => e.on b (own b h), fun b h => f.ne b (e.en b h), fun b h => e.oe b (own b h), fun t ht => t.T.mono sub st (e.tm t ht), fun j s w h1 h2 => ?_, fun j l o o' n n' a b x jl h1 h2 h3 h4 h5 h6 => ?_⟩
  · by_cases cj : i = j
    · subst cj
      cases getElem?_set_some h1
      trivial
    · have h0 := h1
      rw [List.getElem?_set_ne cj] at h1
      have r := e.at' j s w h1 h2
      cases s with
      | un => exact r
      | any => trivial
      | exc B Y y =>
        obtain ⟨v1, e1, r1, hB⟩ := r
        have dis := excAll_at hX h0
        exact ⟨v1, e1, Y.mono (fun _ z => z) ⟨fun b u s z h => f.go b u (dis b s) h z, f.ne, f.tab⟩ r1, hB⟩
      | val U y => exact let ⟨v, e1, q⟩ := r; ⟨v, e1, U.mono sub st q⟩
      | own o n =>
        obtain ⟨a, e1, q, hA'⟩ := r
        subst e1
        refine ⟨a, rfl, o.mono sub st (fun b hb => ?_) q, hA'⟩
        obtain ⟨u, hu, pl⟩ := o.has q b hb
        rw [hu]
        exact f.go b u (fun y => e.oe b ⟨j, o, n, a, h1, h2, hb⟩ (hA b y)) hu (pl_tbl pl)
  · have q1 : ∀ (j : Nat) o n, (Γ.set i .any)[j]? = some (WSlot.own o n) → Γ[j]? = some (WSlot.own o n) := fun j o n h => by
      by_cases cj : i = j
      · subst cj; cases getElem?_set_some h
      · rwa [List.getElem?_set_ne cj] at h
    exact e.sep j l o o' n n' a b x jl (q1 j o n h1) (q1 l o' n' h2) h3 h4 h5 h6
/-- an exclusive value seen otherwise -/
theorem run_asX {i : Nat} {A : Addr → Prop} {x : α} {t : TS} (p : β → Prop) (hi : Γ[i]? = some (.exc A T x)) (f : ∀ S H v, T.R S H v x → ∃ y, U.R S H v y ∧ p y) (h : ∀ y, p y → Run c (Γ.set i (.exc A U y)) t K) : Run c Γ t K := .mk fun D σ H e k => by
  obtain ⟨w, hw⟩ := e.lt hi
  obtain ⟨v, rfl, r, hA⟩ := e.at' i _ w hi hw
  obtain ⟨y, ry, py⟩ := f _ _ _ r
  have := e.sets (i := i) (s := .exc A U y) (w := some v) (fun _ _ z => nomatch z) ⟨v, rfl, ry, hA⟩
  rw [set_self' hw] at this
  exact (h y py).run D σ H this k
theorem run_asV {i : Nat} {x : α} {t : TS} (p : β → Prop) (hi : Γ[i]? = some (.val T x)) (f : ∀ S H v, T.R S H v x → ∃ y, U.R S H v y ∧ p y) (h : ∀ y, p y → Run c (Γ.set i (.val U y)) t K) : Run c Γ t K := .mk fun D σ H e k => by
  obtain ⟨v, hw, r⟩ := e.get hi
  obtain ⟨y, ry, py⟩ := f _ _ _ r
  have := e.setv (T := U) (x := y) i ry
  rw [set_self' hw] at this
  exact (h y py).run D σ H this k
end
/-! ### texts of data: repr -/
mutual
/-- data whose parts lie in S -/
inductive PdS (S : Addr → Prop) (H : Hp) : V → PyData → Prop
  | non : PdS S H .non .none
  | int (i : Int) : PdS S H (.int i) (.int i)
  | str (x : Str) : PdS S H (.str x) (.str x)
  | lst {a : Addr} {xs : List V} {ds : List PyData} : S a → H a = some (.lst xs) → PdSAll S H xs ds → PdS S H (.ref a) (.list ds)
  | tup {a : Addr} {xs : List V} {ds : List PyData} : S a → H a = some (.tup xs) → PdSAll S H xs ds → PdS S H (.ref a) (.tuple ds)
  | dct {a : Addr} {ms : List (Str × V)} {ds : List PyData} : S a → H a = some (.dK (kvsOf ms)) → PdSAll S H (ms.map (·.2)) ds → PdS S H (.ref a) (.dict ((ms.map fun p => PyData.str p.1).zip ds))
inductive PdSAll (S : Addr → Prop) (H : Hp) : List V → List PyData → Prop
  | nil : PdSAll S H [] []
  | cons {v : V} {vs : List V} {d : PyData} {ds : List PyData} : PdS S H v d → PdSAll S H vs ds → PdSAll S H (v :: vs) (d :: ds)
end
section
variable [TabL]
mutual
theorem PdS.mono {S S' : Addr → Prop} {H H' : Hp} (h : ∀ a, S a → S' a) (st : Kpt S H H') : ∀ {v : V} {d : PyData}, PdS S H v d → PdS S' H' v d
  | _, _, .non => .non
  | _, _, .int i => .int i
  | _, _, .str x => .str x
  | _, _, .lst s r q => .lst (h _ s) (st.go _ _ s rfl r) (PdSAll.mono h st q)
  | _, _, .tup s r q => .tup (h _ s) (st.go _ _ s rfl r) (PdSAll.mono h st q)
  | _, _, .dct s r q => .dct (h _ s) (st.go _ _ s rfl r) (PdSAll.mono h st q)
theorem PdSAll.mono {S S' : Addr → Prop} {H H' : Hp} (h : ∀ a, S a → S' a) (st : Kpt S H H') : ∀ {vs : List V} {ds : List PyData}, PdSAll S H vs ds → PdSAll S' H' vs ds
  | _, _, .nil => .nil
  | _, _, .cons q k => .cons (PdS.mono h st q) (PdSAll.mono h st k)
end
mutual
theorem PdS.alloc {S : Addr → Prop} {H : Hp} : ∀ {v : V} {d : PyData}, PdS S H v d → PdS (fun b => S b ∧ H b ≠ none) H v d
  | _, _, .non => .non
  | _, _, .int i => .int i
  | _, _, .str x => .str x
  | _, _, .lst s r q => .lst ⟨s, by rw [r]; exact fun z => nomatch z⟩ r (PdSAll.alloc q)
  | _, _, .tup s r q => .tup ⟨s, by rw [r]; exact fun z => nomatch z⟩ r (PdSAll.alloc q)
  | _, _, .dct s r q => .dct ⟨s, by rw [r]; exact fun z => nomatch z⟩ r (PdSAll.alloc q)
theorem PdSAll.alloc {S : Addr → Prop} {H : Hp} : ∀ {vs : List V} {ds : List PyData}, PdSAll S H vs ds → PdSAll (fun b => S b ∧ H b ≠ none) H vs ds
  | _, _, .nil => .nil
  | _, _, .cons q k => .cons (PdS.alloc q) (PdSAll.alloc k)
end
end
mutual
theorem PdS.pd {S : Addr → Prop} {H : Hp} (n : ∀ a o, H a = some o → a ≠ sysModules) : ∀ {v : V} {d : PyData}, PdS S H v d → Pd H v d
  | _, _, .non => .non
  | _, _, .int i => .int i
  | _, _, .str x => .str x
  | _, _, .lst _ r q => .lst (n _ _ r) (.inl r) (PdSAll.pd n q)
  | _, _, .tup _ r q => .tup (.inl r) (PdSAll.pd n q)
  | _, _, .dct _ r q => .dct (.inl r) (PdSAll.pd n q)
theorem PdSAll.pd {S : Addr → Prop} {H : Hp} (n : ∀ a o, H a = some o → a ≠ sysModules) : ∀ {vs : List V} {ds : List PyData}, PdSAll S H vs ds → PdAll H vs ds
  | _, _, .nil => .nil
  | _, _, .cons q k => .cons (PdS.pd n q) (PdSAll.pd n k)
end
/-- how long the text of one is, by its levels: scalars have 40 signs, lists l members, dicts k -/
def TLn (l k : Nat) : Nat → Nat
  | 0 => 0
  | n + 1 => 64 + 50 * l + k * (TLn l k n + 50)
theorem tp_piled_app (t : Str) (ts : List Str) : piled (t :: ts) = t.length + 2 + piled ts := by
  simp [piled]
theorem tp_listText_le (ts : List Str) : (listText ts).length ≤ 2 + piled ts := by
  unfold listText
  rw [strLen_append]
  cases ts with
  | nil =>
    show 1 + 1 ≤ 2 + piled []
    omega
  | cons t ts =>
    show (textFrom 1 (("[" : Str) ++ ("" : String) ++ t) ts).length + 1 ≤ _
    rw [textFrom_length_pos _ _ _ (by omega), tp_piled_app, strLen_append, strLen_append]
    show 1 + 0 + t.length + piled ts + 1 ≤ _
    omega
theorem tp_dictText_le (ts : List Str) : (dictText ts).length ≤ 2 + piled ts := by
  unfold dictText
  rw [strLen_append, strLen_append]
  by_cases h : ts = []
  · subst h
    show 1 + 0 + 1 ≤ _
    omega
  · have := join_length_add ts h
    show 1 + (Str.join ", " ts).length + 1 ≤ _
    omega
/-- the scalars' data -/
structure ScOk (G : Gen) : Prop where
  sc : ∀ v, G.C v = true → ∃ e : PyData, (∀ S H, PdS S H v e) ∧ e.showable = true ∧ e.shown.length ≤ 40 ∧ e.depth = 0
  ks : ∀ k ∈ G.KS, (reprText k).length ≤ 40
structure RpOk (n t : Nat) (e : PyData) : Prop where
  sh : e.showable = true
  ln : e.shown.length ≤ t
  dp : e.depth ≤ n
theorem pds_all {G : Gen} (Z : ScOk G) (S : Addr → Prop) (H : Hp) : ∀ {xs : List V}, (∀ x ∈ xs, G.C x = true) → ∃ es, PdSAll S H xs es ∧ PyData.showableAll es = true ∧ piled (PyData.shownAll es) ≤ 42 * xs.length ∧ PyData.depthAll es = 0
  | [], _ => ⟨[], .nil, by simp [PyData.showableAll], by simp [PyData.shownAll, piled], by simp [PyData.depthAll]⟩
  | x :: xs, h => by
    obtain ⟨e, a1, a2, a3, a4⟩ := Z.sc x (h x List.mem_cons_self)
    obtain ⟨es, b1, b2, b3, b4⟩ := pds_all Z S H (xs := xs) fun y hy => h y (List.mem_cons_of_mem _ hy)
    refine ⟨e :: es, .cons (a1 S H) b1, by simp [PyData.showableAll, a2, b2], ?_, by simp [PyData.depthAll, a4, b4]⟩
    simp only [PyData.shownAll, tp_piled_app, List.length_cons]
    omega
theorem pds_mem {S : Addr → Prop} {H : Hp} {n t : Nat} {G : Gen} (ht : ∀ k ∈ G.KS, (reprText k).length ≤ 40) : ∀ {ms : List (Str × V)}, (∀ k ∈ ms.map (·.1), k ∈ G.KS) → (∀ p ∈ ms, ∃ e, PdS S H p.2 e ∧ RpOk n t e) →
    ∃ ds, PdSAll S H (ms.map (·.2)) ds ∧ PyData.showableKv ((ms.map fun p => PyData.str p.1).zip ds) = true ∧ piled (PyData.shownKv ((ms.map fun p => PyData.str p.1).zip ds)) ≤ ms.length * (t + 50) ∧ PyData.depthKv ((ms.map fun p => PyData.str p.1).zip ds) ≤ n
  | [], _, _ => ⟨[], .nil, by simp [PyData.showableKv], by simp [PyData.shownKv, piled], by simp [PyData.depthKv]⟩
  | p :: ms, hk, h => by
    obtain ⟨e, a1, a2, a3, a4⟩ := h p List.mem_cons_self
    obtain ⟨ds, b1, b2, b3, b4⟩ := pds_mem ht (ms := ms) (fun k z => hk k (List.mem_cons_of_mem _ z)) fun q hq => h q (List.mem_cons_of_mem _ hq)
    have hl := ht p.1 (hk p.1 List.mem_cons_self)
    refine ⟨e :: ds, .cons a1 b1, ?_, ?_, ?_⟩
    · simp [PyData.showableKv, PyData.showable, a2, b2]
    · simp only [List.map_cons, List.zip_cons_cons, PyData.shownKv, tp_piled_app, List.length_cons, strLen_append, PyData.shown]
      rw [Nat.succ_mul]
      show (reprText p.1).length + 2 + e.shown.length + 2 + _ ≤ _
      omega
    · simp only [List.map_cons, List.zip_cons_cons, PyData.depthKv, PyData.depth]
      omega
theorem pds_of {G : Gen} (Z : ScOk G) {S : Addr → Prop} {H : Hp} : ∀ {n : Nat} {v : V} {d : D}, Dc S G H n v d → ∃ e, PdS S H v e ∧ RpOk n (TLn G.L G.KS.length n) e
  | 0, _, _, h => (show False from h).elim
  | n + 1, v, d, h => by
    rcases h with ⟨hv, _⟩ | ⟨a, xs, rfl, hs, r, hx, _⟩ | ⟨a, ms, f, rfl, hs, r, nd, ks, _, no, at'⟩
    · obtain ⟨e, a1, a2, a3, a4⟩ := Z.sc v hv
      exact ⟨_, a1 S H, a2, by show _ ≤ 64 + 50 * G.L + _; omega, by omega⟩
    · obtain ⟨es, b1, b2, b3, b4⟩ := pds_all Z S H hx.2
      have hl : xs.length ≤ G.L := hx.1
      refine ⟨.list es, .lst hs r b1, by simpa [PyData.showable] using b2, ?_, by simp [PyData.depth, b4]⟩
      have := tp_listText_le (PyData.shownAll es)
      simp only [PyData.shown]
      show _ ≤ 64 + 50 * G.L + _
      omega
    · obtain ⟨ds, b1, b2, b3, b4⟩ := pds_mem (S := S) (H := H) (n := n) (t := TLn G.L G.KS.length n) Z.ks (ms := ms) ks fun p hp => pds_of Z (at' p.1 p.2 (valV_of_mem nd hp))
      have hl : ms.length ≤ G.KS.length := by
        have := sub_len nd ks
        rwa [List.length_map] at this
      refine ⟨_, .dct hs r b1, by simpa [PyData.showable] using b2, ?_, by simp only [PyData.depth]; omega⟩
      have := tp_dictText_le (PyData.shownKv ((ms.map fun p => PyData.str p.1).zip ds))
      simp only [PyData.shown]
      show _ ≤ 64 + 50 * G.L + G.KS.length * (TLn G.L G.KS.length n + 50)
      have h3 : ms.length * (TLn G.L G.KS.length n + 50) ≤ G.KS.length * (TLn G.L G.KS.length n + 50) := Nat.mul_le_mul_right _ hl
      omega
section
variable [TabL]
variable {m : Bool} {c : WCtx} {Γ Γ' : List WSlot} {α β γ δ : Type} {T : Ty α} {U : Ty β} {W : Ty γ} {K : Ko δ} {Kf : PySem.W.Frag}
/-- a thing and its data -/
def TRp (T : Ty α) : Ty (α × PyData) := ⟨fun S H v x => T.R S H v x.1 ∧ PdS S H v x.2, fun h st r => ⟨T.mono h st r.1, r.2.mono h st⟩, fun r => ⟨T.alloc r.1, r.2.alloc⟩⟩
theorem p_rp {m : Bool} {t : TE} {X : α → Prop} (h : P m c Γ t (TRp T) fun x => X x.1) : P m c Γ t T X := .mk fun σ H Q e q => h.run σ H Q e fun v x H' e' f r hx => q v x.1 H' e' f r.1 hx
/-- repr(x) -/
theorem p_repr {t : TE} {X : Str → Prop} (h : P false c Γ t (TRp T) fun x => RpOk 40 sizeLine x.2 ∧ X x.2.shown) : P m c Γ (tCB rRepr (tCons (tSys t) tNil)) TStr X := .mk fun σ H Q e q =>
  h.run σ H _ e fun v x H1 e1 f1 r hx n => ⟨v, x.2, rfl, r.2.pd n, hx.1.sh, hx.1.ln, hx.1.dp, q _ _ H1 e1 f1 rfl hx.2⟩
theorem trp_doc {G : Gen} (Z : ScOk G) {n : Nat} {d : D} : ∀ S H v, (TDoc G n).R S H v d → ∃ y, (TRp (TDoc G n)).R S H v y ∧ (y.1 = d ∧ RpOk n (TLn G.L G.KS.length n) y.2) := fun S H v r => by
  obtain ⟨e, h1, h2⟩ := pds_of Z r
  exact ⟨(d, e), ⟨r, h1⟩, rfl, h2⟩
/-! effects -/
end
/-! ### isinstance of a caught error with fields -/
def rIsE2 (K : PySem.W.Frag) (D a : Addr) (d : Addr) : List V → Hp → VK → Prop := fun xs H Q => ∃ (c : V) (cv : Value) (b : Bool) (fs : List (Str × V)), xs = [.ref a, c] ∧ (∀ u, RelV c u → u = cv) ∧ PySem.W.kitOne K (.ref D) cv = some b ∧ H d = some (.xd fs) ∧ Q (.bl b) H
theorem call_isE2 {X : Cx} {a D d : Addr} {oe : Obj} {pn : List (Addr × Obj)} (C : ExcC X.K D) (hz : Zc (.ref D) (some d) oe) (hf : ∃ vs, oe.data = .fields vs) : CallR (X.suite a ((a, oe) :: pn)) (.builtin "isinstance") (rIsE2 X.K D a d) := by
  intro pins s σ H xs us Q I r h
  obtain ⟨c, cv, b, fs, rfl, hcv, e, hd, q⟩ := h
  cases r with
  | cons rx rr =>
    cases rr with
    | cons rt rr =>
      cases rr
      cases rx
      have ec := hcv _ rt
      subst ec
      obtain ⟨hget, _⟩ := I.pin (a, oe) (List.mem_append.mpr (.inl List.mem_cons_self))
      obtain ⟨vs, hv⟩ := hf
      obtain ⟨mA, hns, _⟩ := (show ObjOk X.prog X.w H s.heap d (.xd fs) from I.hok d _ hd)
      obtain ⟨od, ho, _⟩ := lookIn_ns hns
      have J : PySem.W.InstAt s.heap a oe D (some od) := ⟨hget, hz.1, by unfold PySem.W.notCls; rw [hv] <;> rfl, by rw [hz.2]; exact ho⟩
      exact PySem.W.kia_one (PySem.W.kitx_exc (by obtain ⟨cd, hc, _⟩ := PySem.W.any_some C.hd; rw [hc]; rfl) C.hg C.hk C.hs C.ha C.hn C.ht C.hm) I.kIn J e (fun z => nomatch z) fun tk => ⟨.bl b, H, I.kept (t' := tk) fun _ _ z => z, rfl, q⟩
end TP

namespace TP
open PySem PySem.Spec PyProof.Rows L2
theorem dropK_inK (ms : List (Str × V)) (k : Str) : dropK (kvsOf ms) (Sum.inr k) = kvsOf (ms.filter fun p => decide (p.1 ≠ k)) := by
  unfold dropK kvsOf
  rw [List.filter_map]
  congr 1
  apply List.filter_congr
  intro p _
  show decide (Sum.inr p.1 ≠ Sum.inr k) = decide (p.1 ≠ k)
  by_cases c : p.1 = k
  · simp [c]
  · have : ¬ ((Sum.inr p.1 : Key) = Sum.inr k) := fun z => c (by injection z)
    simp [c, this]
theorem mem_ix {α : Type} {ds : List α} {i : Int} {X : α → Prop} (h0 : 0 ≤ i) (h1 : i < ds.length) (k : ∀ d ∈ ds, X d) : ∃ d, atI ds i = some d ∧ X d := by
  have hj : i.toNat < ds.length := by omega
  have := atI_nat (j := i.toNat) (v := ds[i.toNat]) (xs := ds) (List.getElem?_eq_getElem hj)
  rw [show ((i.toNat : Nat) : Int) = i by omega] at this
  exact ⟨_, this, k _ (List.getElem_mem hj)⟩
/-- the script -/
def TScr [TabL] (K : PySem.W.Frag) : Ty (List Int) := ⟨fun S H v ns => ∃ a its, v = .ref a ∧ Vals (ns.map V.int) its ∧ (ns.map V.int).length ≤ 1000 ∧ (K.lookup a = some { cls := .type "list", data := .seq its.toArray } ∨ (S a ∧ H a = some (.frz { cls := .type "list", data := .seq its.toArray } (.lst (ns.map V.int))))),
  fun h st ⟨a, its, e, r, l, z⟩ => ⟨a, its, e, r, l, z.imp id fun z => ⟨h a z.1, st.go a _ z.1 rfl z.2⟩⟩,
  fun ⟨a, its, e, r, l, z⟩ => ⟨a, its, e, r, l, z.imp id fun z => ⟨⟨z.1, by rw [z.2]; exact fun y => nomatch y⟩, z.2⟩⟩⟩
theorem TScr.at [TabL] {K : PySem.W.Frag} {S : Addr → Prop} {H : Hp} {v : V} {ns : List Int} (h : (TScr K).R S H v ns) : ∃ a, v = .ref a ∧ ScrAt K H a (ns.map V.int) ∧ ns.length ≤ 1000 := let ⟨a, its, e, r, l, z⟩ := h; ⟨a, e, ⟨its, r, l, z.imp id fun z => z.2⟩, by rwa [List.length_map] at l⟩
end TP

namespace TP
open PySem PySem.Spec PyProof.Rows L2
/-! ### typed readings: shallow copies of objects, their keys, pop -/
section
variable [TabL]
variable {m : Bool} {c : WCtx} {Γ Γ' : List WSlot} {α β γ δ : Type} {T : Ty α} {U : Ty β} {W : Ty γ} {K : Ko δ} {Kf : PySem.W.Frag}
/-- dict(d): a new object with the same members -/
theorem pn_dictOf {G : Gen} {n k : Nat} {t : TE} {X : (Str → D) → Prop} (hk : n ≤ k) (h : P true c Γ t (TDoc G (n + 1)) fun d => ∃ f, d = .ob f ∧ X f) : PN c Γ (tCB (fun xs H Q => ∃ (a : Addr) (kvs : List (Key × V)), xs = [.ref a] ∧ Rd H a (.dK kvs) ∧ ∀ p, H p = none → Q (.ref p) (upd H p (.dK kvs))) (tCons t tNil)) (OwOb G k) X := .mk fun σ H Q e q =>
  h.run σ H _ e fun v d H1 e1 f1 r1 hx => by
    obtain ⟨f, rfl, hf⟩ := hx
    refine Dc.cases r1 (fun _ _ _ e => nomatch e) (fun _ _ _ _ _ _ _ _ e => nomatch e) (fun n2 a ms g em ev hS r M eg => ?_)
    cases em
    subst ev
    injection eg with eg
    subst eg
    refine ⟨a, _, rfl, .inl r, fun p hp => ?_⟩
    have xx : Ex H1 (upd H1 p (.dK (kvsOf ms))) := .new hp
    refine q p _ H1 _ e1 f1 hp (fun b hb => (show False from hb).elim) xx ⟨ms, upd_same, ?_⟩ hf
    have M' : Mem (Sx c Γ σ) G H1 n ms f := ⟨M.nd, M.ks, M.no, fun j u z => (TDoc G n).imp (M.at' j u z) fun _ => fx_t⟩
    exact ⟨M'.nd, M'.ks, M'.no, fun j u z => TDoc.lift hk ((TDoc G n).mono (fun b hb => ⟨hb.1, fun z => hb.2 (by rw [show b = p from z]; exact hp), fun z => (show False from z).elim⟩) (.of_ex xx) ((TDoc G n).alloc (M'.at' j u z)))⟩
/-- list(d): its keys -/
theorem p_listKeys {G : Gen} {n : Nat} {t : TE} {X : List Str → Prop} (hG : G.KS.length ≤ 5000) (h : P m c Γ t (TDoc G n) fun d => ∃ f, d = .ob f ∧ ∀ ks : List Str, (∀ k, k ∈ ks ↔ (f k).isNil = false) → ks.Nodup → ks.length ≤ G.KS.length → X ks) : P m c Γ (tCB (fun xs H Q => ∃ (a : Addr) (kvs : List (Key × V)), xs = [.ref a] ∧ Rd H a (.dK kvs) ∧ ∀ p, H p = none → Q (.ref p) (upd H p (.lst (kvs.map fun kv => kV kv.1)))) (tCons t tNil)) (TLst TStr) X := .mk fun σ H Q e q =>
  h.run σ H _ e fun v d H1 e1 f1 r1 hx => by
    obtain ⟨f, rfl, hf⟩ := hx
    refine Dc.cases r1 (fun _ _ _ e => nomatch e) (fun _ _ _ _ _ _ _ _ e => nomatch e) (fun n2 a ms g em ev hS r M eg => ?_)
    subst ev
    injection eg with eg
    subst eg
    refine ⟨a, _, rfl, .inl r, fun p hp => ?_⟩
    have el : ((kvsOf ms).map fun kv => kV kv.1) = (ms.map (·.1)).map V.str := by rw [List.map_map, List.map_map]; rfl
    rw [el]
    have hl := M.len
    refine q _ (ms.map (·.1)) _ (e1.ex (.new hp)) (f1.exr (.new hp)) ⟨p, _, rfl, .inl (e1.nw hp), upd_same, ?_, ?_⟩ (hf _ (fun k => ⟨fun z => ?_, fun z => ?_⟩) M.nd (by rw [List.length_map]; exact hl))
    · rw [List.length_map, List.length_map]
      exact Nat.le_trans (Nat.le_trans hl hG) (by decide)
    · generalize ms.map (·.1) = ks
      clear el hf
      induction ks with
      | nil => exact .nil
      | cons k ks ih => exact .cons rfl ih
    · obtain ⟨u, hu⟩ := valV_some_of z
      exact (M.at' k u hu).ne_nil
    · cases e : valV ms k with
      | none => rw [M.no k e] at z; cases z
      | some u => exact List.mem_map.mpr ⟨_, valV_mem e, rfl⟩
/-- sorted(xs), xs texts -/
theorem p_sortStr {t : TE} {X : List Str → Prop} (h : P m c Γ t (TLst TStr) fun xs => xs.length < 64 ∧ ∀ ys : List Str, ys.Perm xs → X ys) : P m c Γ (tCB (rSortedS Kf) (tCons t tNil)) (TLst TStr) X := .mk fun σ H Q e q =>
  h.run σ H _ e fun v xs H1 e1 f1 r1 hx => by
    obtain ⟨a, vs, rfl, sa, ha, hl, p⟩ := r1
    have ev : vs = xs.map V.str := by
      clear ha hl hx
      induction p with
      | nil => rfl
      | cons a _ ih => rw [ih, show _ = V.str _ from a]; rfl
    subst ev
    refine ⟨a, xs, rfl, .inl (.inl ha), hx.1, fun ys p2 perm _ hp => ?_⟩
    refine q _ ys _ (e1.ex (.new hp)) (f1.exr (.new hp)) ⟨p2, _, rfl, .inl (e1.nw hp), upd_same, ?_, ?_⟩ (hx.2 ys perm)
    · rw [List.length_map, perm.length_eq, ← List.length_map (f := V.str)]
      exact hl
    · generalize ys = ks
      induction ks with
      | nil => exact .nil
      | cons k ks ih => exact .cons rfl ih
/-- d.pop(k), k a key of the own object d -/
theorem run_dpop1 {G : Gen} {n i : Nat} {nw : Bool} {f : Str → D} {tk : TE} (hi : Γ[i]? = some (.own (OwOb G n f) nw)) (h : P true c Γ tk TStr fun k => (f k).isNil = false ∧ K.nx (Γ.set i (.own (OwOb G n (D.fup f k .nil)) nw))) : Run c Γ (tDrop (tDPop1 (tVar i) tk)) K := .mk fun D σ H e k => by
  obtain ⟨a, ha, ⟨ms0, hv0, M0⟩, _⟩ := e.own hi
  refine ⟨.ref a, ha, a, rfl, .inl ⟨_, .inl hv0⟩, h.run σ H _ e fun w x H2 e2 f2 r2 hx => ?_⟩
  obtain ⟨a', ha', ⟨ms, hv, M⟩, _⟩ := e2.own hi
  rw [ha] at ha'
  cases ha'
  obtain rfl : w = .str x := r2
  have st : Kpt (Sx c Γ σ) H2 (upd H2 a (.dK (dropK (kvsOf ms) (Sum.inr x)))) := e2.stp_mut hi ha (Fr.put hv rfl).inl
  obtain ⟨u, hu⟩ : ∃ u, valV ms x = some u := by
    cases e : valV ms x with
    | none => have := hx.1; rw [M.no x e] at this; cases this
    | some u => exact ⟨u, rfl⟩
  refine ⟨_, Sum.inr x, u, hv, rfl, by rw [valV_inK]; exact hu, k.nx _ _ _ (e2.mut (o' := OwOb G n (TP.D.fup f x .nil)) hi ha (Fr.put hv rfl).inl (fun _ => False.elim) ⟨ms.filter fun p => decide (p.1 ≠ x), by rw [upd_same, dropK_inK], ?_⟩) hx.2⟩
  exact ((M.drop x).mono (S' := fun b => Sx c Γ σ b ∧ ¬ False) (fun b hb => ⟨hb, id⟩) (fun b u s z h => st.go b u s z h) (Nat.le_refl _))
theorem run_seqM {t u : TS} (Mid : List WSlot → Prop) (h : Run c Γ t { K with nx := Mid }) (g : ∀ Γ', Mid Γ' → Run c Γ' u K) : Run c Γ (tSeq t u) K := run_seq (run_imp (K := { K with nx := fun Γ' => Run c Γ' u K }) (n := Mid) h g (fun _ z => z) (fun _ z => z))
/-- t[lo:hi] of a tuple -/
theorem p_slTA {ta : TE} {tl th : TO} {X : List α → Prop} (h : P m c Γ ta (TTup T) fun xs => PO c Γ tl fun lo => PO c Γ th fun hi => X (cutX xs lo hi)) : P m c Γ (tSl (rSlA Kf) ta tl th) (TTup T) X := .mk fun σ H Q e k =>
  h.run σ H _ e fun v x H1 e1 f1 r1 hb => hb.run σ H1 _ e1 fun lo H2 e2 f2 hc => hc.run σ H2 _ e2 fun hi H3 e3 f3 hx => by
    obtain ⟨a, vs, rfl, sa, ha, l, p⟩ := (TTup T).stp ((TTup T).stp r1 (e1.stp_fx f2)) (e2.stp_fx f3)
    refine ⟨a, vs, rfl, .inl (.inl ha), fun w => ?_, fun _ q hq => k _ _ _ (e3.ex (.new hq)) (((f1.trans f2).trans f3).exr (.new hq)) ⟨q, _, rfl, (.inl (e3.nw hq)), upd_same, Nat.le_trans (cutV_len _ _ _) l, (cut_pair p lo hi).imp fun _ _ z => T.stp z (.of_ex (.new hq))⟩ hx⟩
    have pl := p.len
    have ex : cutX x lo hi = x := by
      unfold cutX
      rw [← pl, w.1, w.2, List.drop_zero, Nat.sub_zero, pl, List.take_length]
    exact k _ x _ e3 ((f1.trans f2).trans f3) ⟨a, vs, rfl, sa, ha, l, p⟩ (by rw [ex] at hx; exact hx)
end
end TP

namespace TP
open PySem PySem.Spec PyProof.Rows L2
/-! ### texts of documents, bounded by their parts -/
theorem pds_memP {S : Addr → Prop} {H : Hp} {n B : Nat} {q : Str → Nat} {G : Gen} (ht : ∀ k ∈ G.KS, (reprText k).length ≤ 40) : ∀ {ms : List (Str × V)}, (∀ k ∈ ms.map (·.1), k ∈ G.KS) → (∀ p ∈ ms, ∃ e, PdS S H p.2 e ∧ RpOk n (q p.1 * B - 46) e ∧ 46 ≤ q p.1 * B) →
    ∃ ds, PdSAll S H (ms.map (·.2)) ds ∧ PyData.showableKv ((ms.map fun p => PyData.str p.1).zip ds) = true ∧ piled (PyData.shownKv ((ms.map fun p => PyData.str p.1).zip ds)) ≤ ((ms.map (·.1)).map q).sum * B ∧ PyData.depthKv ((ms.map fun p => PyData.str p.1).zip ds) ≤ n
  | [], _, _ => ⟨[], .nil, by simp [PyData.showableKv], by simp [PyData.shownKv, piled], by simp [PyData.depthKv]⟩
  | p :: ms, hk, h => by
    obtain ⟨e, a1, ⟨a2, a3, a4⟩, a5⟩ := h p List.mem_cons_self
    obtain ⟨ds, b1, b2, b3, b4⟩ := pds_memP ht (ms := ms) (fun k z => hk k (List.mem_cons_of_mem _ z)) fun q hq => h q (List.mem_cons_of_mem _ hq)
    have hl := ht p.1 (hk p.1 List.mem_cons_self)
    refine ⟨e :: ds, .cons a1 b1, ?_, ?_, ?_⟩
    · simp [PyData.showableKv, PyData.showable, a2, b2]
    · simp only [List.map_cons, List.zip_cons_cons, PyData.shownKv, tp_piled_app, List.sum_cons, strLen_append, PyData.shown]
      rw [Nat.add_mul]
      show (reprText p.1).length + 2 + e.shown.length + 2 + _ ≤ _
      omega
    · simp only [List.map_cons, List.zip_cons_cons, PyData.depthKv, PyData.depth]
      omega
theorem pds_ofP {G : Gen} (Z : ScOk G) {S : Addr → Prop} {H : Hp} : ∀ {n p : Nat} {v : V} {d : D}, Dc S G H n v d → d.isNil = false → PD d p → ∃ e, PdS S H v e ∧ RpOk n (p * (110 + 50 * G.L) - 46) e ∧ 46 ≤ p * (110 + 50 * G.L)
  | 0, _, _, _, h, _, _ => (show False from h).elim
  | n + 1, p, v, d, h, hn, hp => by
    rcases h with ⟨hv, rfl⟩ | ⟨a, xs, rfl, hs, r, hx, rfl⟩ | ⟨a, ms, f, rfl, hs, r, nd, ks, rfl, no, at'⟩
    · obtain ⟨e, a1, a2, a3, a4⟩ := Z.sc v hv
      have hp : 1 ≤ p := hp
      have := Nat.mul_le_mul_right (110 + 50 * G.L) hp
      exact ⟨_, a1 S H, ⟨a2, by omega, by omega⟩, by omega⟩
    · obtain ⟨es, b1, b2, b3, b4⟩ := pds_all Z S H hx.2
      have hl : xs.length ≤ G.L := hx.1
      have hp : 1 ≤ p := hp
      have h3 := Nat.mul_le_mul_right (110 + 50 * G.L) hp
      refine ⟨.list es, .lst hs r b1, ⟨by simpa [PyData.showable] using b2, ?_, by simp [PyData.depth, b4]⟩, by omega⟩
      have := tp_listText_le (PyData.shownAll es)
      simp only [PyData.shown]
      omega
    · obtain ⟨ks', q, k1, k2, k3⟩ := hp
      obtain ⟨ds, b1, b2, b3, b4⟩ := pds_memP (S := S) (H := H) (n := n) (B := 110 + 50 * G.L) (q := q) Z.ks (ms := ms) ks fun p hp => by
        have z := at' p.1 p.2 (valV_of_mem nd hp)
        exact pds_ofP Z z z.ne_nil (k2 p.1)
      have hl : ((ms.map (·.1)).map q).sum ≤ (ks'.map q).sum := sum_sub q nd fun k hk => by
        obtain ⟨p, hp, rfl⟩ := List.mem_map.mp hk
        exact k1 _ (at' p.1 p.2 (valV_of_mem nd hp)).ne_nil
      have h3 : (1 + ((ms.map (·.1)).map q).sum) * (110 + 50 * G.L) ≤ p * (110 + 50 * G.L) := Nat.mul_le_mul_right _ (by omega)
      rw [Nat.add_mul] at h3
      refine ⟨_, .dct hs r b1, ⟨by simpa [PyData.showable] using b2, ?_, by simp only [PyData.depth]; omega⟩, by omega⟩
      have := tp_dictText_le (PyData.shownKv ((ms.map fun p => PyData.str p.1).zip ds))
      simp only [PyData.shown]
      omega
section
variable [TabL]
variable {m : Bool} {c : WCtx} {Γ Γ' : List WSlot} {α β γ δ : Type} {T : Ty α} {U : Ty β} {W : Ty γ} {K : Ko δ} {Kf : PySem.W.Frag}
theorem trp_docP {G : Gen} (Z : ScOk G) {n p : Nat} {d : D} (hp : PD d p) : ∀ S H v, (TDoc G n).R S H v d → ∃ y, (TRp (TDoc G n)).R S H v y ∧ (y.1 = d ∧ RpOk n (p * (110 + 50 * G.L) - 46) y.2) := fun S H v r => by
  obtain ⟨e, h1, h2, _⟩ := pds_ofP Z r (Dc.ne_nil r) hp
  exact ⟨(d, e), ⟨r, h1⟩, rfl, h2⟩
theorem trp_all {S : Addr → Prop} {H : Hp} : ∀ {vs : List V} {xs : List (α × PyData)}, Paired ((TRp T).R S H) vs xs → Paired (T.R S H) vs (xs.map (·.1)) ∧ PdSAll S H vs (xs.map (·.2))
  | _, _, .nil => ⟨.nil, .nil⟩
  | _, _, .cons r p => ⟨.cons r.1 (trp_all p).1, .cons r.2 (trp_all p).2⟩
/-- a list of things with their data -/
theorem p_rpL {t : TE} {X : List α × PyData → Prop} (h : P m c Γ t (TLst (TRp T)) fun xs => X (xs.map (·.1), .list (xs.map (·.2)))) : P m c Γ t (TRp (TLst T)) X := .mk fun σ H Q e q => h.run σ H Q e fun v xs H1 e1 f1 ⟨a, vs, hv, s, r, l, p⟩ hx => by
  subst hv
  exact q _ _ H1 e1 f1 ⟨⟨a, vs, rfl, s, r, l, (trp_all p).1⟩, .lst s r (trp_all p).2⟩ hx
theorem rpOk_two {n t : Nat} {a b : PyData} (ha : RpOk n t a) (hb : RpOk n t b) : RpOk (n + 1) (2 * t + 6) (.list [a, b]) := by
  refine ⟨by simp [PyData.showable, PyData.showableAll, ha.sh, hb.sh], ?_, ?_⟩
  · have := tp_listText_le (PyData.shownAll [a, b])
    have h1 := ha.ln
    have h2 := hb.ln
    simp only [PyData.shown, PyData.shownAll, tp_piled_app] at this ⊢
    have : piled ([] : List Str) = 0 := rfl
    omega
  · have h1 := ha.dp
    have h2 := hb.dp
    simp only [PyData.depth, PyData.depthAll]
    omega
/-! ### bools -/
theorem p_isB {ta : TE} {b : Bool} {X : Bool → Prop} (h : P false c Γ ta TBool fun x => X (decide (x = b))) : P m c Γ (tOp (fun x y H Q => ∃ a b, x = .bl a ∧ y = .bl b ∧ Q (.bl (decide (a = b))) H) ta (tC (.bl b))) TBool X := .mk fun σ H Q e k =>
  h.run σ H _ e fun v x H1 e1 f1 r1 hx => ⟨x, b, r1, rfl, k _ _ H1 e1 f1 rfl hx⟩
theorem p_notB {ta : TE} {b : Bool} {X : Bool → Prop} (h : P false c Γ ta TBool fun x => X (!decide (x = b))) : P m c Γ (tOp (fun x y H Q => ∃ a b, x = .bl a ∧ y = .bl b ∧ Q (.bl (!decide (a = b))) H) ta (tC (.bl b))) TBool X := .mk fun σ H Q e k =>
  h.run σ H _ e fun v x H1 e1 f1 r1 hx => ⟨x, b, r1, rfl, k _ _ H1 e1 f1 rfl hx⟩
theorem p_isBool {ta : TE} {X : Bool → Prop} (h : P false c Γ ta TBool fun _ => X true) : P m c Γ (tCB (rIsi Kf) (tCons ta (tCons (tC (.ty "bool")) tNil))) TBool X := .mk fun σ H Q e k =>
  h.run σ H _ e fun v x H1 e1 f1 r1 hx => by
    obtain rfl : v = .bl x := r1
    exact ⟨.bl x, .ty "bool", .type "bool", _, _, rfl, .ty _, .base (.bl _), kit_ty (r := true) (by decide +kernel), k _ _ H1 e1 f1 rfl hx⟩
/-! ### a pair is taken apart -/
theorem run_asgP {t : TE} {j k : Nat} (T : Ty α) (U : Ty β) (h : P true c Γ t (TPair T U) fun x => K.nx ((Γ.set j (.val T x.1)).set k (.val U x.2))) : Run c Γ (tAsg t (gTup Kf 2 (gCons (gName j) (gCons (gName k) gNil)))) K := .mk fun D σ H e q =>
  h.run σ H _ e fun v x H' e' f r hx => tgt2.run c Γ σ H' v x _ e' ((TPair T U).imp r fun _ => fx_t) fun σ' e2 _ _ _ => q.nx _ _ _ e2 hx
/-! ### a part of the script -/
theorem zz_pint {S : Addr → Prop} {H : Hp} : ∀ p : List Int, Paired (TInt.R S H) (p.map V.int) p
  | [] => .nil
  | _ :: p => .cons rfl (zz_pint p)
theorem zz_rep {R : V → α → Prop} {vs : List V} {xs : List α} (p : Paired R vs xs) : ∀ k : Nat, Paired R (List.replicate k vs).flatten (List.replicate k xs).flatten
  | 0 => .nil
  | k + 1 => by
    rw [List.replicate_succ, List.replicate_succ, List.flatten_cons, List.flatten_cons]
    exact p.app (zz_rep p k)
theorem p_slScr {i : Nat} {ns : List Int} {tl th : TO} {X : List Int → Prop} (hi : Γ[i]? = some (.val (TScr Kf) ns)) (h : PO c Γ tl fun lo => PO c Γ th fun hi => X (cutX ns lo hi)) : TP.P m c Γ (tSl (rSlL Kf) (tVar i) tl th) (TLst TInt) X := .mk fun σ H Q e k => by
  obtain ⟨v, hv, r⟩ := e.get hi
  obtain ⟨a, rfl, hs, hl⟩ := TScr.at r
  refine ⟨.ref a, hv, h.run σ H _ e fun lo H2 e2 f2 hc => hc.run σ H2 _ e2 fun hi' H3 e3 f3 hx => ?_⟩
  obtain ⟨v', hv', r'⟩ := e3.get hi
  obtain ⟨a', ha', hs', hl'⟩ := TScr.at r'
  rw [hv] at hv'
  injection hv' with hv'
  injection hv' with hv'
  rw [← hv'] at ha'
  injection ha' with ha'
  subst ha'
  have hlen : (ns.map V.int).length ≤ sizeLine := by rw [List.length_map]; exact Nat.le_trans hl (by decide)
  exact ⟨a, _, rfl, hs'.sqL, fun q hq => k _ _ _ (e3.ex (.new hq)) ((f2.trans f3).exr (.new hq)) ⟨q, _, rfl, (.inl (e3.nw hq)), upd_same, Nat.le_trans (cutV_len _ _ _) hlen, (cut_pair (zz_pint (S := Fxm m c Γ σ) (H := upd H3 q (.lst (cutV (ns.map V.int) lo hi'))) ns) lo hi')⟩ hx⟩
/-! ### numbers as text -/
theorem p_strI {ta : TE} {X : Str → Prop} (h : P false c Γ ta TInt fun i => i.natAbs.log2 < 1920 ∧ X (toString i)) : P m c Γ (tCB (fun xs H Q => ∃ i : Int, xs = [.int i] ∧ i.natAbs.log2 < 1920 ∧ Q (.str (toString i)) H) (tCons ta tNil)) TStr X := .mk fun σ H Q e k =>
  h.run σ H _ e fun v x H1 e1 f1 r1 hx => by
    obtain rfl : v = .int x := r1
    exact ⟨x, rfl, hx.1, k _ _ H1 e1 f1 rfl hx.2⟩
theorem p_addS {ta tb : TE} {X : Str → Prop} (h : P false c Γ ta TStr fun x => P false c Γ tb TStr fun y => x.length + y.length ≤ sizeLine ∧ X (x ++ y)) : P m c Γ (tOp (fun x y H Q => ∃ i j : Str, x = .str i ∧ y = .str j ∧ i.length + j.length ≤ sizeLine ∧ Q (.str (i ++ j)) H) ta tb) TStr X := .mk fun σ H Q e k =>
  h.run σ H _ e fun v x H1 e1 f1 r1 hb => hb.run σ H1 _ e1 fun w y H2 e2 f2 r2 hx => by
    obtain rfl : v = .str x := r1
    obtain rfl : w = .str y := r2
    exact ⟨x, y, rfl, rfl, hx.1, k _ _ H2 e2 (f1.trans f2) rfl hx.2⟩
/-- t * k -/
theorem p_repT {ta tb : TE} {X : List α → Prop} (h : P m c Γ ta (TTup T) fun xs => P false c Γ tb TInt fun k => xs ≠ [] ∧ 2 ≤ k ∧ k ≤ 1000 ∧ xs.length ≤ 10 ∧ X (List.replicate k.toNat xs).flatten) : P m c Γ (tOp (rRepT Kf) ta tb) (TTup T) X := .mk fun σ H Q e q =>
  h.run σ H _ e fun v x H1 e1 f1 r1 hb => hb.run σ H1 _ e1 fun w y H2 e2 f2 r2 hx => by
    obtain ⟨a, vs, rfl, s, ha, l, p⟩ := (TTup T).stp r1 (e1.stp_fx f2)
    obtain rfl : w = .int y := r2
    obtain ⟨h1, h2, h3, h4, h5⟩ := hx
    have hl := p.len
    refine ⟨a, y, vs, rfl, rfl, .inl (.inl ha), fun z => h1 (List.eq_nil_of_length_eq_zero (by rw [← hl, z]; rfl)), h2, h3, by omega, fun b hb => q _ _ _ (e2.ex (.new hb)) ((f1.trans f2).exr (.new hb)) ⟨b, _, rfl, (.inl (e2.nw hb)), upd_same, ?_, (zz_rep p _).imp fun _ _ z => T.stp z (.of_ex (.new hb))⟩ h5⟩
    rw [List.length_flatten, List.map_replicate, List.sum_replicate_nat]
    refine Nat.le_trans (Nat.mul_le_mul (show y.toNat ≤ 1000 by omega) (show vs.length ≤ 10 by omega)) (by decide)
end
end TP

/-! ### an own exception's class called with keywords -/
namespace PySem
namespace HandSPX
open Builtin Builtin.ObjectAttr PySem.W PySem.Calls PyProof.Rows
section
variable {M : Model} {A : Around} {E : Value → Shared → Prop} {h : Heap} {g : Array GenState} {d : Drawn} {t : Nat} {os : OsState}
variable {nm q : Str} {C N : Addr} {bs bm bmB : List Value} {hdct : Bool} {sn : List Str} {sub : List Value} {ab : Bool} {col : Option Bool} {dd : Option Addr} {k0 k1 k2 k3 k5 : Option Value} {B newId initId : String}
theorem check_new_ownK (F : ExcBaseFacts B newId initId bmB) (hT : ∀ X : String, bm.contains (.type X) = bmB.contains (.type X)) {rest : List Value} {kws : List (Str × Value)} {Q : Unit → Shared → Prop}
    (hC : h.get? C = some (excClassObj nm q C N bs bm hdct sn sub ab col dd k0 k1 k2 k3 k5 newId)) (hq : Q () ⟨h, g, d, t, os⟩) : wpAny M A (checkBuiltinCall newId ⟨.ref C :: rest, kws⟩) Q E ⟨h, g, d, t, os⟩ := by
  have hcont : (Value.ref C :: bm).contains (.type B) = true := by rw [List.contains_cons, hT, F.hasB, Bool.or_true]
  have hstar := F.noStar
  simp only [checkBuiltinCall, F.newKind, F.newSplit, F.newRow]
  repeat (first | refine wpAny_loadPart_at hC ?_ | (refine wpAny_isSubtype_exc hC ?_; rw [hcont]) | refine wpAny_staticBase_exc hC ?_ | refine wpAny_madeBy_exc hC ?_ | simp only [bne_self_eq_false, Bool.false_eq_true, if_false] | wp_step)
  exact hq
end
section
variable {prog : Program} {w : World} {A : Around} {E : Value → Shared → Prop} {R : Result → Shared → Prop} {h : Heap} {g : Array GenState} {d : Drawn} {t : Nat} {os : OsState}
variable {nm q : Str} {C N : Addr} {bs bm bmB : List Value} {hdct : Bool} {sn : List Str} {sub : List Value} {ab : Bool} {col : Option Bool} {dd : Option Addr} {k0 k1 k2 k3 k5 : Option Value} {B newId initId : String}
theorem new_ownK (F : ExcBaseFacts B newId initId bmB) (hT : ∀ X : String, bm.contains (.type X) = bmB.contains (.type X)) {rest : List Value} {kws : List (Str × Value)}
    (hC : h.get? C = some (excClassObj nm q C N bs bm hdct sn sub ab col dd k0 k1 k2 k3 k5 newId))
    (hq : R (.ok (.ret (.ref (h.objs.size + 1)))) ⟨(h.push { cls := .type "tuple", data := .seq rest.toArray }).push
      { cls := .ref C, data := .fields #[.ref h.objs.size, .none, .none, .none, .bool false, .none] }, g, d, t, os⟩) (hrest : rest.length ≤ sizeLine) :
    codeAny (model prog w) A (.builtin newId ⟨.ref C :: rest, kws⟩) R ⟨h, g, d, t, os⟩ := by
  have hends := F.ends
  have hcB : (Value.ref C :: bm).contains (.type B) = true := by rw [List.contains_cons, hT, F.hasB, Bool.or_true]
  have hcA : (Value.ref C :: bm).contains (.type "AttributeError") = false := by rw [List.contains_cons, hT, F.noAttr]; rfl
  have hcN : (Value.ref C :: bm).contains (.type "NameError") = false := by rw [List.contains_cons, hT, F.noName]; rfl
  refine codeAny_builtinAt F.entry ?_
  unfold Builtin.«BaseException.__new__»
  refine wpAt_bind ?_
  show wpAt _ _ _ (stack >>= _) _ _ _
  refine wpAt_bind (wpAt_stack fun p below => wpAt_of_wpAny ?_)
  wp_walk
  refine wpAt_of_wpAny ?_
  rw [F.owner]
  repeat (first | with_reducible refine wpAny_madeHere_exc F.canon hC ?_ | with_reducible refine wpAny_loadPart_at hC ?_ | (with_reducible refine wpAny_isSubtype_exc hC ?_; first | rw [hcB] | rw [hcA] | rw [hcN]) | wp_step)
  show R _ _
  rw [Heap.size_push]
  exact hq
theorem type_call_ownK (F : ExcBaseFacts B newId initId bmB) (hT : ∀ X : String, bm.contains (.type X) = bmB.contains (.type X)) {rest : List Value} {kws : List (Str × Value)} {fI : Addr} {Q : Fin → Shared → Prop}
    (hC : h.get? C = some (excClassObj nm q C N bs bm hdct sn sub ab col dd k0 k1 k2 k3 k5 newId))
    (hi : W.Looks (model prog w) h (typeLookup (.ref C) "__init__") (some (.ref fI))) (hb : ∀ self, W.Looks (model prog w) h (bindSpecial (.ref fI) self) (.ref fI, [self])) (hrest : rest.length ≤ sizeLine)
    (hq : codeAny (model prog w) A (.call (.ref fI) ⟨.ref (h.objs.size + 1) :: rest, kws⟩)
      (fun r s' => match r with | .ok (.ret v) => v = .none ∧ Q (.done (.ret (.ref (h.objs.size + 1)))) s' | .ok _ => False | .error e => E e s')
      ⟨(h.push (W.kdv_tup rest)).push (excO C h.objs.size), g, d, t, os⟩) :
    wpAny (model prog w) A (Builtin.«type.__call__» ⟨.ref C :: rest, kws⟩) Q E ⟨h, g, d, t, os⟩ := by
  repeat (first | with_reducible refine wpAny_loadPart_at hC ?_ | with_reducible refine wpAny_madeBy_exc hC ?_ | wp_step)
  refine codeAny_call_builtin_code (Code.quiet_builtin _ F.quiet) (check_new_ownK F hT hC ?_)
  refine new_ownK F hT hC ?_ hrest
  show wpAny _ _ _ _ _ _
  have k : ∀ b o, h.get? b = some o → ((h.push (W.kdv_tup rest)).push (excO C h.objs.size)).get? b = some o := fun b o e => Heap.get?_push_of_some _ (Heap.get?_push_of_some _ e)
  have hC₁ := k _ _ hC
  have hget : ((h.push (W.kdv_tup rest)).push (excO C h.objs.size)).get? (h.objs.size + 1) = some (excO C h.objs.size) := by heap_get
  have hcC : (Value.ref C :: bm).contains (.ref C) = true := by simp
  have i1 := hi.keeps k
  have b1 := (hb (.ref (h.objs.size + 1))).keeps k
  unfold isInstance
  repeat (first | with_reducible refine wpAny_loadPart_at hget ?_ | (with_reducible refine wpAny_isSubtype_exc hC₁ ?_; rw [hcC]) | wp_step)
  show wpAny _ _ (typeLookup (.ref C) _) _ _ _
  refine i1.at ?_
  refine wpAny_holding (wpAny_bind (b1.at ?_))
  refine wpAny_bind (wpAny_call (codeAny_mono hq fun r s' z => ?_))
  rcases r with e | (v | _ | _ | _) <;> first | exact z | exact z.elim | skip
  obtain ⟨rfl, z⟩ := z
  first
    | exact wpAny_pure (wpAny_pure z)
    | (wp_walk; exact z)
theorem call_ownK (F : ExcBaseFacts B newId initId bmB) (hT : ∀ X : String, bm.contains (.type X) = bmB.contains (.type X)) {rest : List Value} {kws : List (Str × Value)} {fI : Addr}
    (hC : h.get? C = some (excClassObj nm q C N bs bm hdct sn sub ab col dd k0 k1 k2 k3 k5 newId))
    (hi : W.Looks (model prog w) h (typeLookup (.ref C) "__init__") (some (.ref fI))) (hb : ∀ self, W.Looks (model prog w) h (bindSpecial (.ref fI) self) (.ref fI, [self])) (hrest : rest.length ≤ sizeLine)
    (hq : codeAny (model prog w) (A.under (.builtin "type.__call__" ⟨.ref C :: rest, kws⟩)) (.call (.ref fI) ⟨.ref (h.objs.size + 1) :: rest, kws⟩) (W.InitBack (h.objs.size + 1) R)
      ⟨(h.push (W.kdv_tup rest)).push (excO C h.objs.size), g, d, t, os⟩) :
    codeAny (model prog w) A (.call (.ref C) ⟨rest, kws⟩) R ⟨h, g, d, t, os⟩ := by
  have f1 := tc_lookup
  have f2 := tc_bind (.ref C)
  have hTy : (⟨h, g, d, t, os⟩ : Shared).TypeIs (.ref C) "type" := ⟨_, hC, rfl⟩
  refine codeAny_of_tree ?_
  show wpAny _ _ (callAny (.ref C) _) _ _ _
  repeat (any_goals (first | assumption | with_reducible refine wpAny_loadPart_at hC ?_ | wp_step))
  refine ⟨rfl, ?_⟩
  refine codeAny_call_builtin_at (Code.quiet_builtin _ (by decide +kernel)) entry_typeCall (wpAny_check_type_call_sub hC (type_call_ownK F hT hC hi hb hrest ?_))
  refine codeAny_mono hq fun r s' z => ?_
  rcases r with e | (v | _ | _ | _) <;> exact z
end
end HandSPX
end PySem

/-! ### own exceptions as values -/
namespace PySem.W
open PySem PySem.Calls PyProof.Rows PySem.Spec
theorem method_excK {prog : Program} {w : World} {A : Around} {E : Value → Shared → Prop} {s : Shared} {K : Frag} {C x : Addr} {ox : Obj} {name : Str} {od : Option Obj} {f : Addr} {pl : Sem Bool} {Q : Value × List Value → Shared → Prop} (X : K.In s.heap) (I : InstAt s.heap x ox C od) (hga : findIn K (.ref C) "__getattribute__" = some (some (.builtin "BaseException.__getattribute__")))
    (hgn : findIn K (.ref C) "__getattr__" = some none) (hf : findIn K (.ref C) name = some (some (.ref f))) (ht : typeIn K (.ref f) = some (.type "function")) (hs : shadowIn od name = some false) (h : Q (.ref f, [.ref x]) s) : wpAny (model prog w) A (getMethod (.ref x) name pl) Q E s := by
  have hcan : Manifest.canonical "BaseException.__getattribute__" = "object.__getattribute__" := by first | kernel_rfl | decide +kernel
  unfold getMethod specialOf
  refine wpAny_bind (wpAny_bind (I.type.here ((looks_findIn X hga).here ?_)))
  dsimp only
  rw [hcan, if_neg (by decide)]
  refine wpAny_bind (wpAny_bind (I.type.here ((looks_findIn X hgn).here ?_)))
  refine wpAny_bind (wpAny_bind (I.type.here ((looks_findIn X hf).here (wpAny_bind ((looks_typeIn X ht).here ?_)))))
  rw [if_neg (by decide +kernel)]
  refine wpAny_bind (wpAny_loadPart I.at_ ?_)
  have hd := I.dict
  cases e : ox.dict with
  | none => exact wpAny_bind (wpAny_rule (wpAny_pure h))
  | some dx =>
    cases od with
    | none => rw [e] at hd; exact hd.elim
    | some o =>
      rw [e] at hd
      obtain ⟨r, a, b⟩ := Option.map_eq_some_iff.mp hs
      refine wpAny_bind (wpAny_bind (wpAny_loadPart hd ?_))
      rw [nsLook_of a]
      refine wpAny_pure ?_
      rw [b]
      exact wpAny_bind (wpAny_rule (wpAny_pure h))
end PySem.W
namespace L2
open PySem PySem.Spec PyProof.Rows
/-- at a: an exception of the class at C with these fields -/
def XAt (H : Hp) (a C : Addr) (fs : List (Str × V)) : Prop := (fs = [] ∧ H a = some (exo a C none)) ∨ ∃ d, H a = some (exo a C (some d)) ∧ H d = some (exd d fs)
theorem XAt.inst {P : Program} {w : World} {H : Hp} {h : Heap} {a C : Addr} {fs : List (Str × V)} (hok : HOk P w H h) (x : XAt H a C fs) :
    ∃ ox od, PySem.W.InstAt h a ox C od ∧ (∀ n, fs.lookup n = none → PySem.W.shadowIn od n = some false) ∧ ∀ n v, fs.lookup n = some v → ∃ o u, od = some o ∧ PySem.W.lookIn n o = some (some u) ∧ RelV v u := by
  rcases x with ⟨rfl, ha⟩ | ⟨d, ha, hd⟩
  · obtain ⟨t1, e⟩ := exo_at hok ha
    exact ⟨_, none, ⟨e, rfl, rfl, trivial⟩, fun n _ => rfl, fun n v z => (by cases z)⟩
  · obtain ⟨t1, e⟩ := exo_at hok ha
    obtain ⟨mA, hns, hr⟩ := exd_at hok hd
    obtain ⟨od, ho, hl⟩ := lookIn_ns hns
    refine ⟨_, some od, ⟨e, rfl, rfl, ho⟩, fun n z => ?_, fun n v z => ?_⟩
    · have hn : mA n = none := RelO.none_of (by rw [← z]; exact hr n)
      show (PySem.W.lookIn n od).map (·.isSome) = some false
      rw [hl, hn]
      rfl
    · obtain ⟨u, hu, ru⟩ := RelO.some_of (v := v) (o := mA n) (by rw [← z]; exact hr n)
      exact ⟨od, u, rfl, by rw [hl, hu], ru⟩
/-- e.n -/
def tXv (K : PySem.W.Frag) (n : Str) (te : TE) : TE := fun σ H Q => te σ H fun x H1 => ∃ (a C : Addr) (fs : List (Str × V)) (v : V), x = .ref a ∧ XfC K C ∧ PySem.W.findIn K (.ref C) n = some none ∧ XAt H1 a C fs ∧ fs.lookup n = some v ∧ Q v H1
theorem pe_xv {X : Cx} {e : Expr} {te : TE} {pos : Pos} {n : Str} (he : PE X e te) (hb : attributeBase e n X.env (eval e X.env) = eval e X.env := by rfl) : PE X (.Attribute e n pos) (tXv X.K n te) := by
  refine ⟨fun pins s σ H Q I h => ?_⟩
  refine attr_of hb (thn (he.run pins s σ H _ I h) fun u s1 hh => ?_)
  obtain ⟨x, H1, I1, rx, a, C, fs, v, ex, T, hno, xa, l, q⟩ := hh
  subst ex
  obtain rfl : u = Value.ref a := rx
  obtain ⟨ox, od, J, _, hs⟩ := xa.inst I1.hok
  obtain ⟨o, u, rfl, hl, ru⟩ := hs n v l
  exact HandSPX.exc_get I1.kIn J T.ga T.gg T.exC (PySem.W.findObj_own T.hdC hno rfl hl) (handed_of ru) ⟨v, H1, I1.tok _, ru, q⟩
/-- isinstance(e, c) -/
def rIsX (K : PySem.W.Frag) : List V → Hp → VK → Prop := fun xs H Q => ∃ (a C : Addr) (fs : List (Str × V)) (c : V) (cv : Value) (b : Bool), xs = [.ref a, c] ∧ XAt H a C fs ∧ ExcC K C ∧ (∀ u, RelV c u → u = cv) ∧ PySem.W.kitOne K (.ref C) cv = some b ∧ Q (.bl b) H
theorem call_isX {X : Cx} : CallR X (.builtin "isinstance") (rIsX X.K) := by
  intro pins s σ H xs us Q I r h
  obtain ⟨a, C, fs, c, cv, b, rfl, xa, Ck, hcv, e, q⟩ := h
  cases r with
  | cons rx rr =>
    cases rr with
    | cons rt rr =>
      cases rr
      cases rx
      have ec := hcv _ rt
      subst ec
      obtain ⟨ox, od, J, _, _⟩ := xa.inst I.hok
      exact PySem.W.kia_one (PySem.W.kitx_exc (by obtain ⟨cd, hc, _⟩ := PySem.W.any_some Ck.hd; rw [hc]; rfl) Ck.hg Ck.hk Ck.hs Ck.ha Ck.hn Ck.ht Ck.hm) I.kIn J e (fun z => nomatch z) fun tk => ⟨.bl b, H, I.kept (t' := tk) fun _ _ z => z, rfl, q⟩
/-- e.m(), whatever the class: Tk tells which -/
structure TkC (K : PySem.W.Frag) (C : Addr) (m : Str) (f : Addr) : Prop where
  xf : XfC K C
  hf : PySem.W.findIn K (.ref C) m = some (some (.ref f))
  tf : PySem.W.typeIn K (.ref f) = some (.type "function")
  kp : PySem.W.keepIn K (.ref f) = true
def tXm (Tk : Addr → Prop) (m : Str) (sp : Addr → Sp) (te : TE) : TE := fun σ H Q => te σ H fun x H1 => ∃ (a C : Addr) (fs : List (Str × V)), x = .ref a ∧ Tk C ∧ XAt H1 a C fs ∧ fs.lookup m = none ∧ sp C [.ref a] H1 Q fun _ _ _ => False
theorem pe_xm0 {X : Cx} {CX : CXT} {k : Nat} {m : Str} {o : Expr} {ta : TE} {apos pos : Pos} {Tk : Addr → Prop} {sp : Addr → Sp} {pl : Sem Bool} (he : PE X o ta) (hT : ∀ C, Tk C → ∃ (f : Addr) (fd : FuncData), TkC X.K C m f ∧ FnOk X.prog X.w X.K X.mg X.base CX k f fd ["self"] (sp C) ∧ Binds X.K fd ["self"] [])
    (hr : Room k X.A) (hx : Passes CX X fun _ _ _ => False)
    (ht : eval (.Call (.Attribute o m apos) [] [] pos) X.env = (do
      let ov ← eval o X.env
      standAt apos.atName
      let (f, first) ← holding [ov] (getMethod ov m pl)
      callWith pos f first (backTo pos (starEach [] X.env)) (backToKw pos (keywordEach [] X.env))) := by rfl) :
    PE X (.Call (.Attribute o m apos) [] [] pos) (tXm Tk m sp ta) := by
  refine ⟨fun pins s σ H Q I h => ?_⟩
  refine PySem.W.methodCall_KW (pl := pl) (thn (he.run pins s σ H _ I h) fun u s1 ⟨x, H1, I1, rx, a, C, fs, ex, tk, xa, l, q⟩ => ?_) ht
  subst ex
  obtain rfl : u = Value.ref a := rx
  obtain ⟨f, fd, M, F, hb⟩ := hT C tk
  obtain ⟨ox, od, J, hs, _⟩ := xa.inst I1.hok
  refine PySem.W.method_excK I1.kIn J M.xf.ga M.xf.gg M.hf M.tf (hs m l) ?_
  exact PySem.W.callWith_K0 (first := [.ref a]) I1.kIn M.kp (run_fn (us := [.ref a]) (vs := [.ref a]) F hr hb .nil hx I1 (.cons rfl .nil) (by rw [List.append_nil]; exact q))
/-- C(e, ..): a new exception -/
def tMkV (C : Addr) (sp : Sp) (ta : TA) : TE := fun σ H Q => ta σ H fun vs H1 => vs.length ≤ 1000 ∧ ∀ a, H1 a = none → sp (.ref a :: vs) (upd H1 a (exo a C none)) (fun v H2 => v = .non ∧ Q (.ref a) H2) (fun _ _ _ => False)
def tMkVK (C : Addr) (m : Nat) (sp : Sp) (gV : List V → List V → List V) (tk : TA) : TE := fun σ H Q => tk σ H fun zs H1 => zs.length = m ∧ ∀ a, H1 a = none → sp (gV [.ref a] zs) (upd H1 a (exo a C none)) (fun v H2 => v = .non ∧ Q (.ref a) H2) (fun _ _ _ => False)
section
variable {X : Cx} {CX : CXT} {x : Str} {C fI : Addr} {k : Nat} {fd : FuncData} {ps ks : List Str} {sp : Sp} {p pos : Pos} {e : Expr} {es : List Expr} {kws : List Keyword} {ta tk : TA} {g : List Value → List Value → List Value} {gV : List V → List V → List V}
theorem pe_mkv (T : OexC X.K C) (iC : PySem.W.findIn X.K (.ref C) "__init__" = some (some (.ref fI))) (tI : PySem.W.typeIn X.K (.ref fI) = some (.type "function"))
    (F1 : FnOk X.prog X.w X.K X.mg X.base CX k fI fd ps sp) (hr : Room (k + 1) X.A) (hb : Binds X.K fd ps []) (hx : Passes CX X (fun _ _ _ => False)) (hg : Gl X x) (hm : X.mg x = some (.ref C)) (ha : PA X (e :: es) ta)
    (hdb : (x == ("__debug__" : Str)) = false := by decide) (he : starEach (e :: es) X.env = (false, eval e X.env) :: starEach es X.env := by rfl) (hpl : (backTo pos (starEach es X.env)).any (·.1) = false := by rfl) :
    PE X (.Call (.Name x p) (e :: es) [] pos) (tMkV C sp ta) := by
  refine ⟨fun pins s σ H Q I h => ?_⟩
  obtain ⟨nm, q, N, bs, bm, sn, sub, ab, col, dd, k0, k1, k2, k3, k5, hC, hbm⟩ := T.cls
  refine wpAny_Call_Name_kw (ld_glob I hg hm ?_ hdb)
  refine PySem.W.callWith_K (h₀ := X.base) I.ok.mod.kin T.kC (thn (ha.run pos pins s σ H _ I h) fun us s1 ⟨vs, H1, I1, r1, hz, q1⟩ => ⟨I1.kIn, ?_⟩) he hpl
  show wpAny _ _ (call (.ref C) us) _ _ _
  obtain ⟨hp, gg, dr, tk, os⟩ := s1
  have hsz : hp.objs.size ≤ hp.objs.size + 1 := Nat.le_succ _
  have hn : H1 (hp.objs.size + 1) = none := I1.hok.fresh hsz
  have hq := q1 (hp.objs.size + 1) hn
  have kk : ∀ b o, hp.get? b = some o → ((hp.push (PySem.W.kdv_tup us)).push (PySem.HandSPX.excO C hp.objs.size)).get? b = some o := fun b o e => Heap.get?_push_of_some _ (Heap.get?_push_of_some _ e)
  have hget : ((hp.push (PySem.W.kdv_tup us)).push (PySem.HandSPX.excO C hp.objs.size)).get? (hp.objs.size + 1) = some (PySem.HandSPX.excO C hp.objs.size) := by heap_get
  have I2 : Inv X pins σ (upd H1 (hp.objs.size + 1) (exo (hp.objs.size + 1) C none)) ⟨(hp.push (PySem.W.kdv_tup us)).push (PySem.HandSPX.excO C hp.objs.size), gg, dr, tk, os⟩ :=
    I1.laid (t' := tk) (a := hp.objs.size + 1) (o := exo (hp.objs.size + 1) C none) (h' := (hp.push (PySem.W.kdv_tup us)).push (PySem.HandSPX.excO C hp.objs.size)) kk hsz (exo_ok hget)
  have r2 : Vals (V.ref (hp.objs.size + 1) :: vs) (Value.ref (hp.objs.size + 1) :: us) := .cons rfl r1
  have hl : (Value.ref (hp.objs.size + 1) :: us).length = ps.length := by
    have e := r2.length
    rw [F1.len _ _ _ _ hq] at e
    exact e.symm
  have hus : us.length ≤ sizeLine := by
    rw [← Paired.length r1, sizeLine_eq]
    omega
  have hb2 := hb _ (Value.ref (hp.objs.size + 1) :: us) I2.kIn (by rw [List.append_nil]; exact hl)
  rw [List.append_nil] at hb2
  refine wpAny_call (PySem.HandSPX.call_own F.excBase_ValueError (fun Y => PySem.HandSPX.refsVE_contains Y bm hbm) (I1.kIn _ _ hC) (PySem.W.looks_findIn I1.kIn iC) (fun self => PySem.W.bind_fn I1.kIn self tI) hus
    (codeAny_mono (F1.run _ X.stack _ _ ⟨Value.ref (hp.objs.size + 1) :: us, []⟩ (Value.ref (hp.objs.size + 1) :: us) _ _ (fun _ _ _ => False) (hr.make C us []) (I2.env0.make C us []) hb2 r2 hq) fun r s' hq' => ?_))
  cases r with
  | error er => exact hx pins σ _ _ er s' I2 hq'
  | ok fl =>
    cases fl with
    | ret u =>
      obtain ⟨v, H2, I3, rv, ev, q2⟩ := I2.after hq'
      subst ev
      exact ⟨rv, ⟨V.ref (hp.objs.size + 1), H2, I3, rfl, q2⟩⟩
    | next => exact False.elim hq'
    | brk => exact False.elim hq'
    | cont => exact False.elim hq'
/-- C(k = v, ..) -/
theorem pe_mkvK (T : OexC X.K C) (iC : PySem.W.findIn X.K (.ref C) "__init__" = some (some (.ref fI))) (tI : PySem.W.typeIn X.K (.ref fI) = some (.type "function"))
    (F1 : FnOk X.prog X.w X.K X.mg X.base CX k fI fd ps sp) (hr : Room (k + 1) X.A) (hb : KBn X.K fd ps 1 ks g gV) (hx : Passes CX X (fun _ _ _ => False)) (hg : Gl X x) (hm : X.mg x = some (.ref C)) (hkw : PK X kws tk)
    (hall : (backToKw pos (keywordEach kws X.env)).all (·.1.isSome) = true := by rfl) (hks : (backToKw pos (keywordEach kws X.env)).filterMap (·.1) = ks := by rfl) (hdb : (x == ("__debug__" : Str)) = false := by decide)
    (hpl : ((backTo pos (starEach [] X.env)).any (·.1) || (backToKw pos (keywordEach kws X.env)).any (·.1.isNone)) = false := by rfl) :
    PE X (.Call (.Name x p) [] kws pos) (tMkVK C ks.length sp gV tk) := by
  refine ⟨fun pins s σ H Q I h => ?_⟩
  obtain ⟨nm, q, N, bs, bm, sn, sub, ab, col, dd, k0, k1, k2, k3, k5, hC, hbm⟩ := T.cls
  refine wpAny_Call_Name_kw (ld_glob I hg hm ?_ hdb)
  refine PySem.W.callWith_KW0 (h₀ := X.base) I.ok.mod.kin T.kC hall ?_ hpl
  refine thn (hkw.run pos pins s σ H _ I h) fun ws s2 ⟨zs, H1, I1, rz, l2, q1⟩ => ⟨I1.kIn, ?_⟩
  rw [hks]
  obtain ⟨hp, gg, dr, tk, os⟩ := s2
  have hsz : hp.objs.size ≤ hp.objs.size + 1 := Nat.le_succ _
  have hn : H1 (hp.objs.size + 1) = none := I1.hok.fresh hsz
  have hq := q1 (hp.objs.size + 1) hn
  have kk : ∀ b o, hp.get? b = some o → ((hp.push (PySem.W.kdv_tup [])).push (PySem.HandSPX.excO C hp.objs.size)).get? b = some o := fun b o e => Heap.get?_push_of_some _ (Heap.get?_push_of_some _ e)
  have hget : ((hp.push (PySem.W.kdv_tup [])).push (PySem.HandSPX.excO C hp.objs.size)).get? (hp.objs.size + 1) = some (PySem.HandSPX.excO C hp.objs.size) := by heap_get
  have I2 : Inv X pins σ (upd H1 (hp.objs.size + 1) (exo (hp.objs.size + 1) C none)) ⟨(hp.push (PySem.W.kdv_tup [])).push (PySem.HandSPX.excO C hp.objs.size), gg, dr, tk, os⟩ :=
    I1.laid (t' := tk) (a := hp.objs.size + 1) (o := exo (hp.objs.size + 1) C none) (h' := (hp.push (PySem.W.kdv_tup [])).push (PySem.HandSPX.excO C hp.objs.size)) kk hsz (exo_ok hget)
  have r1 : Vals [V.ref (hp.objs.size + 1)] [Value.ref (hp.objs.size + 1)] := .cons rfl .nil
  have r2 := hb.rel r1 rz
  refine wpAny_call (PySem.HandSPX.call_ownK (rest := []) F.excBase_ValueError (fun Y => PySem.HandSPX.refsVE_contains Y bm hbm) (I1.kIn _ _ hC) (PySem.W.looks_findIn I1.kIn iC) (fun self => PySem.W.bind_fn I1.kIn self tI) (Nat.zero_le _)
    (codeAny_mono (F1.run _ X.stack _ _ ⟨[Value.ref (hp.objs.size + 1)], ks.zip ws⟩ (g [Value.ref (hp.objs.size + 1)] ws) _ _ (fun _ _ _ => False) (hr.make C [] (ks.zip ws)) (I2.env0.make C [] (ks.zip ws)) (hb.to _ [Value.ref (hp.objs.size + 1)] ws I2.kIn rfl (rz.length.symm.trans l2)) r2 hq) fun r s' hq' => ?_))
  cases r with
  | error er => exact hx pins σ _ _ er s' I2 hq'
  | ok fl =>
    cases fl with
    | ret u =>
      obtain ⟨v, H2, I3, rv, ev, q2⟩ := I2.after hq'
      subst ev
      exact ⟨rv, ⟨V.ref (hp.objs.size + 1), H2, I3, rfl, q2⟩⟩
    | next => exact False.elim hq'
    | brk => exact False.elim hq'
    | cont => exact False.elim hq'
/-- X(), an own exception class without own __init__ -/
theorem pe_mkv0 {bmB : List Value} {B newId initId : String} (F : ExcBaseFacts B newId initId bmB) (q : PySem.W.excIn X.K C bmB newId = true) (gC : X.mg x = some (.ref C)) (kC : PySem.W.keepIn X.K (.ref C) = true) (hg : Gl X x)
    (hdb : (x == ("__debug__" : Str)) = false := by decide) :
    PE X (.Call (.Name x p) [] [] pos) (fun σ H Q => ∀ a, H a = none → Q (.ref a) (upd H a (exo a C none))) := by
  refine ⟨fun pins s σ H Q I h => ?_⟩
  refine wpAny_Call_Name_kw (ld_glob I hg gC ?_ hdb)
  refine PySem.W.callWith_K0 I.kIn kC ?_
  show wpAny _ _ (call (.ref C) []) _ _ _
  obtain ⟨bm, N, nm, qn, bs, hdct, sn, sub, ab, col, dd, k0, k1, k2, k3, k5, mN, hC, hN, hni, T⟩ := exc_obj I.kIn q
  refine wpAny_call_exc_subT F T hC hN hni (fun h' a hm => ?_) (Nat.zero_le _)
  have hn : H a = none := I.hok.gone hm.new
  obtain ⟨t, ht, _, _⟩ := hm.there
  exact ⟨.ref a, upd H a (exo a C none), I.laidN hm.keeps hm.new hn (exo_ok ht), rfl, h a hn⟩
/-- T(e, ..), T built in: some value -/
theorem pe_exbV {T N I : String} (F : ExcB T N I) (hg : Gl X x) (hm : X.mg x = none) (hv : bootBuiltins x = some (.type T)) (ha : PA X (e :: es) ta) (hn : x ≠ "__name__" := by decide) (hdb : (x == ("__debug__" : Str)) = false := by decide)
    (he : starEach (e :: es) X.env = (false, eval e X.env) :: starEach es X.env := by rfl) (hpl : (backTo pos (starEach es X.env)).any (·.1) = false := by rfl) :
    PE X (.Call (.Name x p) (e :: es) [] pos) (fun σ H Q => ta σ H fun vs H1 => vs.length ≤ sizeLine ∧ ∀ a, H1 a = none → Q (.ref a) (upd H1 a (ExO (.type T) a))) := by
  refine ⟨fun pins s σ H Q J h => ?_⟩
  refine wpAny_Call_Name_kw (ld_blt J hg hm hv ?_ hn hdb)
  refine PyProof.Rows.callWith_type1 (thn (ha.run pos pins s σ H _ J h) fun us s1 hh => ?_) he hpl
  obtain ⟨vs, H1, I1, r1, q0, q1⟩ := hh
  obtain ⟨hp1, g1, d1, tk1, os1⟩ := s1
  refine wpAny_call_exc F.call (fun h' a mk => ?_) (Nat.le_trans (Nat.le_of_eq r1.length.symm) q0)
  have hm := PySem.Heap.MadeExc.of mk
  have hn : H1 a = none := I1.hok.gone hm.new
  obtain ⟨t, ht, _, _⟩ := hm.there
  exact ⟨.ref a, upd H1 a (ExO (.type T) a), I1.laidN hm.keeps hm.new hn (exO_ok ht ⟨rfl, rfl⟩ rfl rfl rfl (show 4 < 6 by decide)), rfl, q1 a hn⟩
end
end L2

namespace TP
open PySem PySem.Spec PyProof.Rows L2
/-! ### the program: the errors -/
abbrev sEi0 : Stmt := inClass (topS 2) 0
abbrev nEi0 : List Str := ["self", "path"]
theorem scEi0 : FnScope nEi0 ["self", "path"] (defScope sEi0) := ⟨rfl, rfl, rfl, by decide +kernel, rfl, by decide +kernel, by decide +kernel⟩
abbrev sEi1 : Stmt := inClass (topS 3) 0
abbrev nEi1 : List Str := ["self", "what"]
theorem scEi1 : FnScope nEi1 ["self", "what"] (defScope sEi1) := ⟨rfl, rfl, rfl, by decide +kernel, rfl, by decide +kernel, by decide +kernel⟩
abbrev sEi2 : Stmt := inClass (topS 4) 0
abbrev nEi2 : List Str := ["self", "what", "count"]
theorem scEi2 : FnScope nEi2 ["self", "what", "count"] (defScope sEi2) := ⟨rfl, rfl, rfl, by decide +kernel, rfl, by decide +kernel, by decide +kernel⟩
abbrev sEi3 : Stmt := inClass (topS 5) 0
abbrev nEi3 : List Str := ["self", "path"]
theorem scEi3 : FnScope nEi3 ["self", "path"] (defScope sEi3) := ⟨rfl, rfl, rfl, by decide +kernel, rfl, by decide +kernel, by decide +kernel⟩
abbrev sEi4 : Stmt := inClass (topS 6) 0
abbrev nEi4 : List Str := ["self", "time"]
theorem scEi4 : FnScope nEi4 ["self", "time"] (defScope sEi4) := ⟨rfl, rfl, rfl, by decide +kernel, rfl, by decide +kernel, by decide +kernel⟩
abbrev sEi6 : Stmt := inClass (topS 8) 0
abbrev nEi6 : List Str := ["self", "place"]
theorem scEi6 : FnScope nEi6 ["self", "place"] (defScope sEi6) := ⟨rfl, rfl, rfl, by decide +kernel, rfl, by decide +kernel, by decide +kernel⟩
abbrev sEt0 : Stmt := inClass (topS 2) 1
abbrev nEt0 : List Str := ["self"]
theorem scEt0 : FnScope nEt0 ["self"] (defScope sEt0) := ⟨rfl, rfl, rfl, by decide +kernel, rfl, by decide +kernel, by decide +kernel⟩
abbrev sEt1 : Stmt := inClass (topS 3) 1
abbrev nEt1 : List Str := ["self"]
theorem scEt1 : FnScope nEt1 ["self"] (defScope sEt1) := ⟨rfl, rfl, rfl, by decide +kernel, rfl, by decide +kernel, by decide +kernel⟩
abbrev sEt2 : Stmt := inClass (topS 4) 1
abbrev nEt2 : List Str := ["self"]
theorem scEt2 : FnScope nEt2 ["self"] (defScope sEt2) := ⟨rfl, rfl, rfl, by decide +kernel, rfl, by decide +kernel, by decide +kernel⟩
abbrev sEt3 : Stmt := inClass (topS 5) 1
abbrev nEt3 : List Str := ["self"]
theorem scEt3 : FnScope nEt3 ["self"] (defScope sEt3) := ⟨rfl, rfl, rfl, by decide +kernel, rfl, by decide +kernel, by decide +kernel⟩
abbrev sEt4 : Stmt := inClass (topS 6) 1
abbrev nEt4 : List Str := ["self"]
theorem scEt4 : FnScope nEt4 ["self"] (defScope sEt4) := ⟨rfl, rfl, rfl, by decide +kernel, rfl, by decide +kernel, by decide +kernel⟩
abbrev sEt5 : Stmt := inClass (topS 7) 0
abbrev nEt5 : List Str := ["self"]
theorem scEt5 : FnScope nEt5 ["self"] (defScope sEt5) := ⟨rfl, rfl, rfl, by decide +kernel, rfl, by decide +kernel, by decide +kernel⟩
abbrev sEt6 : Stmt := inClass (topS 8) 1
abbrev nEt6 : List Str := ["self"]
theorem scEt6 : FnScope nEt6 ["self"] (defScope sEt6) := ⟨rfl, rfl, rfl, by decide +kernel, rfl, by decide +kernel, by decide +kernel⟩

def nmX : Nat → Str | 0 => "nodocument" | 1 => "large" | 2 => "badcount" | 3 => "nochange" | 4 => "notime" | 5 => "noback" | _ => "badtext"
def toldX : Nat → Str | 0 => "refused nodocument" | 1 => "refused large" | 2 => "refused badcount" | 3 => "refused nochange" | 4 => "refused notime" | 5 => "refused noback" | _ => "refused badtext"
def spEp (C : Addr) : Sp := fun vs H Q _ => ∃ (a t : Addr) (xs : List V), vs = [.ref a, .ref t] ∧ H t = some (.tup xs) ∧ H a = some (exo a C none) ∧ ∀ dx, H dx = none → dx ≠ a → Q .non (upd (upd H dx (exd dx [("path", .ref t)])) a (exo a C (some dx)))
def spE1 (C : Addr) (fl : Str) : Sp := fun vs H Q _ => ∃ (a : Addr) (v : V), vs = [.ref a, v] ∧ H a = some (exo a C none) ∧ ∀ dx, H dx = none → dx ≠ a → Q .non (upd (upd H dx (exd dx [(fl, v)])) a (exo a C (some dx)))
def spE2 (C : Addr) : Sp := fun vs H Q _ => ∃ (a : Addr) (v u : V), vs = [.ref a, v, u] ∧ H a = some (exo a C none) ∧ ∀ dx, H dx = none → dx ≠ a → Q .non (upd (upd (upd H dx (exd dx [("what", v)])) a (exo a C (some dx))) dx (exd dx [("count", u), ("what", v)]))
def spTold (t : Str) : Sp := fun vs H Q _ => ∃ a : Addr, vs = [.ref a] ∧ Q (.str t) H
section
variable {P : Program} {w : World} {K : PySem.W.Frag} {mg : Str → Option Value} {base : Heap}
theorem ok_ei0 {X f : Addr} {fd : FuncData} (O : OexC K X) (hno : PySem.W.findIn K (.ref X) "path" = some none) (F : Fun K "__init__" "NoDocument.__init__" sEi0 f fd) (T : Bi mg) : FnOk P w K mg base CX0 1 f fd ["self", "path"] (spEp X) := by
  refine F.ok scEi0 (fun vs H Q E h => ?_) (fun cdv A outer s H vs Q E hr h => ?_)
  · obtain ⟨_, _, _, rfl, _⟩ := h
    rfl
  obtain ⟨a, t, xs, rfl, ht, ha, k⟩ := h
  refine ⟨_, pss_one (ps_ost (pv 0) (pe_callTy call_tuple_of (by rfl) (T.of "tuple") (by decide +kernel) (pa_cons (pv 1) pa_nil))), ?_⟩
  exact ⟨.ref t, rfl, t, xs, rfl, .inr ⟨.inl (.inl ht), .ref a, rfl, a, X, rfl, O, hno, .inl ⟨ha, fun dx h1 h2 => k dx h1 h2⟩⟩⟩
theorem ok_ei1 {X f : Addr} {fd : FuncData} (O : OexC K X) (hno : PySem.W.findIn K (.ref X) "what" = some none) (F : Fun K "__init__" "Large.__init__" sEi1 f fd) : FnOk P w K mg base CX0 1 f fd ["self", "what"] (spE1 X "what") := by
  refine F.ok scEi1 (fun vs H Q E h => ?_) (fun cdv A outer s H vs Q E hr h => ?_)
  · obtain ⟨_, _, rfl, _⟩ := h
    rfl
  obtain ⟨a, v, rfl, ha, k⟩ := h
  refine ⟨_, pss_one (ps_ost (pv 0) (pv 1)), ?_⟩
  exact ⟨v, rfl, .ref a, rfl, a, X, rfl, O, hno, .inl ⟨ha, fun dx h1 h2 => k dx h1 h2⟩⟩
theorem ok_ei2 {X f : Addr} {fd : FuncData} (O : OexC K X) (hno : PySem.W.findIn K (.ref X) "what" = some none) (hno2 : PySem.W.findIn K (.ref X) "count" = some none) (F : Fun K "__init__" "BadCount.__init__" sEi2 f fd) : FnOk P w K mg base CX0 1 f fd ["self", "what", "count"] (spE2 X) := by
  refine F.ok scEi2 (fun vs H Q E h => ?_) (fun cdv A outer s H vs Q E hr h => ?_)
  · obtain ⟨_, _, _, rfl, _⟩ := h
    rfl
  obtain ⟨a, v, u, rfl, ha, k⟩ := h
  refine ⟨_, pss_cons (ps_ost (pv 0) (pv 1)) (pss_one (ps_ost (pv 0) (pv 2))), ?_⟩
  refine ⟨v, rfl, .ref a, rfl, a, X, rfl, O, hno, .inl ⟨ha, fun dx h1 h2 => ?_⟩⟩
  exact ⟨u, rfl, .ref a, rfl, a, X, rfl, O, hno2, .inr ⟨dx, _, upd_same, by rw [upd_ne h2]; exact upd_same, (by show 1 ≤ 900; decide), k dx h1 h2⟩⟩
theorem ok_ei3 {X f : Addr} {fd : FuncData} (O : OexC K X) (hno : PySem.W.findIn K (.ref X) "path" = some none) (F : Fun K "__init__" "NoChange.__init__" sEi3 f fd) (T : Bi mg) : FnOk P w K mg base CX0 1 f fd ["self", "path"] (spEp X) := by
  refine F.ok scEi3 (fun vs H Q E h => ?_) (fun cdv A outer s H vs Q E hr h => ?_)
  · obtain ⟨_, _, _, rfl, _⟩ := h
    rfl
  obtain ⟨a, t, xs, rfl, ht, ha, k⟩ := h
  refine ⟨_, pss_one (ps_ost (pv 0) (pe_callTy call_tuple_of (by rfl) (T.of "tuple") (by decide +kernel) (pa_cons (pv 1) pa_nil))), ?_⟩
  exact ⟨.ref t, rfl, t, xs, rfl, .inr ⟨.inl (.inl ht), .ref a, rfl, a, X, rfl, O, hno, .inl ⟨ha, fun dx h1 h2 => k dx h1 h2⟩⟩⟩
theorem ok_ei4 {X f : Addr} {fd : FuncData} (O : OexC K X) (hno : PySem.W.findIn K (.ref X) "time" = some none) (F : Fun K "__init__" "NoTime.__init__" sEi4 f fd) : FnOk P w K mg base CX0 1 f fd ["self", "time"] (spE1 X "time") := by
  refine F.ok scEi4 (fun vs H Q E h => ?_) (fun cdv A outer s H vs Q E hr h => ?_)
  · obtain ⟨_, _, rfl, _⟩ := h
    rfl
  obtain ⟨a, v, rfl, ha, k⟩ := h
  refine ⟨_, pss_one (ps_ost (pv 0) (pv 1)), ?_⟩
  exact ⟨v, rfl, .ref a, rfl, a, X, rfl, O, hno, .inl ⟨ha, fun dx h1 h2 => k dx h1 h2⟩⟩
theorem ok_ei6 {X f : Addr} {fd : FuncData} (O : OexC K X) (hno : PySem.W.findIn K (.ref X) "place" = some none) (F : Fun K "__init__" "BadText.__init__" sEi6 f fd) : FnOk P w K mg base CX0 1 f fd ["self", "place"] (spE1 X "place") := by
  refine F.ok scEi6 (fun vs H Q E h => ?_) (fun cdv A outer s H vs Q E hr h => ?_)
  · obtain ⟨_, _, rfl, _⟩ := h
    rfl
  obtain ⟨a, v, rfl, ha, k⟩ := h
  refine ⟨_, pss_one (ps_ost (pv 0) (pv 1)), ?_⟩
  exact ⟨v, rfl, .ref a, rfl, a, X, rfl, O, hno, .inl ⟨ha, fun dx h1 h2 => k dx h1 h2⟩⟩
theorem ok_et0 {f : Addr} {fd : FuncData} (F : Fun K "told" "NoDocument.told" sEt0 f fd) : FnOk P w K mg base CX0 1 f fd ["self"] (spTold (toldX 0)) := by
  refine F.ok scEt0 (fun vs H Q E h => ?_) (fun cdv A outer s H vs Q E hr h => ?_)
  · obtain ⟨_, rfl, _⟩ := h
    rfl
  obtain ⟨a, rfl, k⟩ := h
  exact ⟨_, pss_one (ps_ret pe_str), k⟩
theorem ok_et1 {f : Addr} {fd : FuncData} (F : Fun K "told" "Large.told" sEt1 f fd) : FnOk P w K mg base CX0 1 f fd ["self"] (spTold (toldX 1)) := by
  refine F.ok scEt1 (fun vs H Q E h => ?_) (fun cdv A outer s H vs Q E hr h => ?_)
  · obtain ⟨_, rfl, _⟩ := h
    rfl
  obtain ⟨a, rfl, k⟩ := h
  exact ⟨_, pss_one (ps_ret pe_str), k⟩
theorem ok_et2 {f : Addr} {fd : FuncData} (F : Fun K "told" "BadCount.told" sEt2 f fd) : FnOk P w K mg base CX0 1 f fd ["self"] (spTold (toldX 2)) := by
  refine F.ok scEt2 (fun vs H Q E h => ?_) (fun cdv A outer s H vs Q E hr h => ?_)
  · obtain ⟨_, rfl, _⟩ := h
    rfl
  obtain ⟨a, rfl, k⟩ := h
  exact ⟨_, pss_one (ps_ret pe_str), k⟩
theorem ok_et3 {f : Addr} {fd : FuncData} (F : Fun K "told" "NoChange.told" sEt3 f fd) : FnOk P w K mg base CX0 1 f fd ["self"] (spTold (toldX 3)) := by
  refine F.ok scEt3 (fun vs H Q E h => ?_) (fun cdv A outer s H vs Q E hr h => ?_)
  · obtain ⟨_, rfl, _⟩ := h
    rfl
  obtain ⟨a, rfl, k⟩ := h
  exact ⟨_, pss_one (ps_ret pe_str), k⟩
theorem ok_et4 {f : Addr} {fd : FuncData} (F : Fun K "told" "NoTime.told" sEt4 f fd) : FnOk P w K mg base CX0 1 f fd ["self"] (spTold (toldX 4)) := by
  refine F.ok scEt4 (fun vs H Q E h => ?_) (fun cdv A outer s H vs Q E hr h => ?_)
  · obtain ⟨_, rfl, _⟩ := h
    rfl
  obtain ⟨a, rfl, k⟩ := h
  exact ⟨_, pss_one (ps_ret pe_str), k⟩
theorem ok_et5 {f : Addr} {fd : FuncData} (F : Fun K "told" "NoBack.told" sEt5 f fd) : FnOk P w K mg base CX0 1 f fd ["self"] (spTold (toldX 5)) := by
  refine F.ok scEt5 (fun vs H Q E h => ?_) (fun cdv A outer s H vs Q E hr h => ?_)
  · obtain ⟨_, rfl, _⟩ := h
    rfl
  obtain ⟨a, rfl, k⟩ := h
  exact ⟨_, pss_one (ps_ret pe_str), k⟩
theorem ok_et6 {f : Addr} {fd : FuncData} (F : Fun K "told" "BadText.told" sEt6 f fd) : FnOk P w K mg base CX0 1 f fd ["self"] (spTold (toldX 6)) := by
  refine F.ok scEt6 (fun vs H Q E h => ?_) (fun cdv A outer s H vs Q E hr h => ?_)
  · obtain ⟨_, rfl, _⟩ := h
    rfl
  obtain ⟨a, rfl, k⟩ := h
  exact ⟨_, pss_one (ps_ret pe_str), k⟩
end
/-- what an error tells -/
inductive Fd
  | way (p : List Str)
  | word (s : Str)
  | cnt (s : Str) (i : Int)
  | num (i : Int)
  | no
section
variable [TabL]
theorem ex_keepX {H H' : Hp} (h : ∀ b, H b ≠ none → H' b = H b) : Ex H H' := by
  refine ⟨fun b o e _ => by rw [h b (by rw [e]; exact fun z => nomatch z)]; exact e, fun b e => by rw [h b e]; exact e, fun b q r t => ?_⟩
  obtain ⟨ps, h1, h2, h3⟩ := t
  refine ⟨ps, by rw [h b (by rw [h1]; exact fun z => nomatch z)]; exact h1, h2, fun pos cv hc => ?_⟩
  obtain ⟨c, e1, e2⟩ := h3 pos cv hc
  exact ⟨c, e1, by rw [h c (by rw [e2]; exact fun z => nomatch z)]; exact e2⟩
inductive FdR (S : Addr → Prop) (H : Hp) : Nat → List (Str × V) → Fd → Prop
  | w0 {w : V} {p : List Str} (r : (TTup TStr).R S H w p) : FdR S H 0 [("path", w)] (.way p)
  | w3 {w : V} {p : List Str} (r : (TTup TStr).R S H w p) : FdR S H 3 [("path", w)] (.way p)
  | wd {s : Str} : FdR S H 1 [("what", .str s)] (.word s)
  | ct {s : Str} {i : Int} : FdR S H 2 [("count", .int i), ("what", .str s)] (.cnt s i)
  | tm {i : Int} : FdR S H 4 [("time", .int i)] (.num i)
  | pl {i : Int} : FdR S H 6 [("place", .int i)] (.num i)
  | no : FdR S H 5 [] .no
theorem FdR.map {S S' : Addr → Prop} {H H' : Hp} (g : ∀ w p, (TTup TStr).R S H w p → (TTup TStr).R S' H' w p) {k : Nat} {fs : List (Str × V)} {x : Fd} (h : FdR S H k fs x) : FdR S' H' k fs x := by
  cases h with
  | w0 r => exact .w0 (g _ _ r)
  | w3 r => exact .w3 (g _ _ r)
  | wd => exact .wd
  | ct => exact .ct
  | tm => exact .tm
  | pl => exact .pl
  | no => exact .no
theorem FdR.lt {S : Addr → Prop} {H : Hp} {k : Nat} {fs : List (Str × V)} {x : Fd} (h : FdR S H k fs x) : k < 7 := by
  cases h <;> decide
theorem FdR.told {S : Addr → Prop} {H : Hp} {k : Nat} {fs : List (Str × V)} {x : Fd} (h : FdR S H k fs x) : fs.lookup ("told" : Str) = none := by
  cases h <;> rfl
def XAtS (S : Addr → Prop) (H : Hp) (a C : Addr) (fs : List (Str × V)) : Prop := (fs = [] ∧ H a = some (exo a C none)) ∨ ∃ d, S d ∧ H a = some (exo a C (some d)) ∧ H d = some (exd d fs)
theorem XAtS.at {S : Addr → Prop} {H : Hp} {a C : Addr} {fs : List (Str × V)} (h : XAtS S H a C fs) : XAt H a C fs := h.imp id fun ⟨d, _, r⟩ => ⟨d, r⟩
/-- an error; cl: the classes -/
def TErr (cl : Nat → Addr) : Ty (Nat × Fd) := ⟨fun S H v x => ∃ a fs, v = .ref a ∧ S a ∧ XAtS S H a (cl x.1) fs ∧ FdR S H x.1 fs x.2,
  fun h st ⟨a, fs, e, s, xa, r⟩ => ⟨a, fs, e, h a s, xa.imp (fun z => ⟨z.1, st.go a _ s rfl z.2⟩) (fun ⟨d, sd, h1, h2⟩ => ⟨d, h d sd, st.go a _ s rfl h1, st.go d _ sd rfl h2⟩), r.map fun w p => (TTup TStr).mono h st⟩,
  fun ⟨a, fs, e, s, xa, r⟩ => ⟨a, fs, e, ⟨s, xa.elim (fun z => by rw [z.2]; exact fun y => nomatch y) fun ⟨d, _, h1, _⟩ => by rw [h1]; exact fun y => nomatch y⟩, xa.imp id (fun ⟨d, sd, h1, h2⟩ => ⟨d, ⟨sd, by rw [h2]; exact fun y => nomatch y⟩, h1, h2⟩), r.map fun w p => (TTup TStr).alloc⟩⟩
/-- the same in a list -/
def TFls : Ty Fd := ⟨fun S H v x => match x with | .way p => (TLst (TTup TStr)).R S H v [p] | .word s => (TLst TStr).R S H v [s] | .cnt s i => (TLst TSc).R S H v [.str s, .int i] | .num i => (TLst TInt).R S H v [i] | .no => (TLst TStr).R S H v [],
  fun {_ _ _ _ _ x} h st r => by
    cases x with
    | way p => exact (TLst (TTup TStr)).mono h st r
    | word p => exact (TLst TStr).mono h st r
    | cnt p i => exact (TLst TSc).mono h st r
    | num p => exact (TLst TInt).mono h st r
    | no => exact (TLst TStr).mono h st r,
  fun {_ _ _ x} r => by
    cases x with
    | way p => exact (TLst (TTup TStr)).alloc r
    | word p => exact (TLst TStr).alloc r
    | cnt p i => exact (TLst TSc).alloc r
    | num p => exact (TLst TInt).alloc r
    | no => exact (TLst TStr).alloc r⟩
theorem eqt_sc {n : Nat} : EqT TSc TSc (n + 1) := fun S S' H v w x y r r' => by
  obtain ⟨rfl, h⟩ := r
  obtain ⟨rfl, h'⟩ := r'
  exact eqd_sc (by omega) h h'
theorem eqt_fls {S S' : Addr → Prop} {H : Hp} {v w : V} {x : Fd} (r : TFls.R S H v x) (r' : TFls.R S' H w x) : ∃ b, EqD H 3 v w b ∧ b = true := by
  have fin : ∀ {α : Type} {T : Ty α} {xs : α}, EqT T T 3 → T.R S H v xs → T.R S' H w xs → ∃ b, EqD H 3 v w b ∧ b = true := fun q r r' => by
    obtain ⟨b, h, i⟩ := q _ _ _ _ _ _ _ r r'
    exact ⟨b, h, i.mpr rfl⟩
  cases x with
  | way p => exact fin (eqt_lst (eqt_tup eqt_str)) r r'
  | word p => exact fin (eqt_lst eqt_str) r r'
  | cnt p i => exact fin (eqt_lst eqt_sc) r r'
  | num p => exact fin (eqt_lst eqt_int) r r'
  | no => exact fin (eqt_lst eqt_str) r r'
variable {m : Bool} {c : WCtx} {Γ Γ' : List WSlot} {α β γ δ : Type} {T : Ty α} {U : Ty β} {W : Ty γ} {K : Ko δ} {Kf : PySem.W.Frag} {cl : Nat → Addr}
theorem p_neFls {ta tb : TE} {X : Bool → Prop} (h : P false c Γ ta TFls fun x => P false c Γ tb TFls fun y => x = y ∧ X false) : P m c Γ (tOp rNeU ta tb) TBool X := .mk fun σ H Q e k =>
  h.run σ H _ e fun v x H1 e1 f1 r1 hb => hb.run σ H1 _ e1 fun w y H2 e2 f2 r2 hx => by
    obtain ⟨rfl, hx⟩ := hx
    obtain ⟨b, d, rfl⟩ := eqt_fls (TFls.stp r1 (e1.stp_fx f2)) r2
    exact ⟨3, true, by decide, d, k _ false H2 e2 (f1.trans f2) rfl hx⟩
theorem p_flsW {t : TE} {X : Fd → Prop} (h : P m c Γ t (TTup TStr) fun p => X (.way p)) : P m c Γ (tLst (tCons t tNil)) TFls X := .mk fun σ H Q e q => h.run σ H _ e fun v x H1 e1 f1 r hx => ⟨(by show 1 ≤ sizeLine; decide), fun p hp => q (.ref p) (.way x) _ (e1.ex (.new hp)) (f1.exr (.new hp)) ⟨p, _, rfl, .inl (e1.nw hp), upd_same, (by show 1 ≤ sizeLine; decide), .cons ((TTup TStr).stp r (.of_ex (.new hp))) .nil⟩ hx⟩
theorem p_flsS {t : TE} {X : Fd → Prop} (h : P m c Γ t TStr fun p => X (.word p)) : P m c Γ (tLst (tCons t tNil)) TFls X := .mk fun σ H Q e q => h.run σ H _ e fun v x H1 e1 f1 r hx => ⟨(by show 1 ≤ sizeLine; decide), fun p hp => q (.ref p) (.word x) _ (e1.ex (.new hp)) (f1.exr (.new hp)) ⟨p, _, rfl, .inl (e1.nw hp), upd_same, (by show 1 ≤ sizeLine; decide), .cons r .nil⟩ hx⟩
theorem p_flsN {t : TE} {X : Fd → Prop} (h : P m c Γ t TInt fun p => X (.num p)) : P m c Γ (tLst (tCons t tNil)) TFls X := .mk fun σ H Q e q => h.run σ H _ e fun v x H1 e1 f1 r hx => ⟨(by show 1 ≤ sizeLine; decide), fun p hp => q (.ref p) (.num x) _ (e1.ex (.new hp)) (f1.exr (.new hp)) ⟨p, _, rfl, .inl (e1.nw hp), upd_same, (by show 1 ≤ sizeLine; decide), .cons r .nil⟩ hx⟩
theorem p_flsC {t u : TE} {X : Fd → Prop} (h : P m c Γ t TStr fun p => P m c Γ u TInt fun i => X (.cnt p i)) : P m c Γ (tLst (tCons t (tCons u tNil))) TFls X := .mk fun σ H Q e q => h.run σ H _ e fun v x H1 e1 f1 r hb => hb.run σ H1 _ e1 fun w i H2 e2 f2 r2 hx => by
  obtain rfl : v = .str x := r
  obtain rfl : w = .int i := r2
  exact ⟨(by show 2 ≤ sizeLine; decide), fun p hp => q (.ref p) (.cnt x i) _ (e2.ex (.new hp)) ((f1.trans f2).exr (.new hp)) ⟨p, _, rfl, .inl (e2.nw hp), upd_same, (by show 2 ≤ sizeLine; decide), .cons ⟨rfl, rfl⟩ (.cons ⟨rfl, rfl⟩ .nil)⟩ hx⟩
theorem p_fls0 {X : Fd → Prop} (h : X .no) : P m c Γ (tLst tNil) TFls X := .mk fun σ H Q e q => ⟨(by show 0 ≤ sizeLine; decide), fun p hp => q (.ref p) .no _ (e.ex (.new hp)) (.of_ex (.new hp)) ⟨p, _, rfl, .inl (e.nw hp), upd_same, (by show 0 ≤ sizeLine; decide), .nil⟩ h⟩
/-! making them -/
theorem ex_mk {H : Hp} {a C dx : Addr} {fs : List (Str × V)} (ha : H a = none) (hd : (upd H a (exo a C none)) dx = none) (ne : dx ≠ a) : Ex H (upd (upd (upd H a (exo a C none)) dx (exd dx fs)) a (exo a C (some dx))) ∧ H dx = none := by
  rw [upd_ne ne] at hd
  refine ⟨ex_keepX fun b hb => ?_, hd⟩
  have n1 : b ≠ a := fun z => hb (by rw [z]; exact ha)
  have n2 : b ≠ dx := fun z => hb (by rw [z]; exact hd)
  rw [upd_ne n1, upd_ne n2, upd_ne n1]
theorem mk_way {σ : L2.St} {H : Hp} {v : V} {p : List Str} {k : Nat} (hk : k = 0 ∨ k = 3) (e : WEnv c Γ σ H) (r : (TTup TStr).R (Fxm m c Γ σ) H v p) {a : Addr} (ha : H a = none) (Q : VK) (q : ∀ H', Ex H H' → (TErr cl).R (Fxm m c Γ σ) H' (.ref a) (k, .way p) → Q (.ref a) H') : spEp (cl k) [.ref a, v] (upd H a (exo a (cl k) none)) (fun v H2 => v = .non ∧ Q (.ref a) H2) fun _ _ _ => False := by
  obtain ⟨t, vs, rfl, s, ht, l, pp⟩ := id r
  refine ⟨a, t, vs, rfl, by rw [upd_ne (ne_of_none ht ha)]; exact ht, upd_same, fun dx h1 h2 => ⟨rfl, ?_⟩⟩
  obtain ⟨x, hd⟩ := ex_mk (C := cl k) (fs := [("path", .ref t)]) ha h1 h2
  refine q _ x ⟨a, [("path", .ref t)], rfl, .inl (e.nw ha), .inr ⟨dx, .inl (e.nw hd), upd_same, by rw [upd_ne h2]; exact upd_same⟩, ?_⟩
  have r' := (TTup TStr).stp r (.of_ex x)
  rcases hk with rfl | rfl
  · exact .w0 r'
  · exact .w3 r'
theorem mk_one {σ : L2.St} {H : Hp} {v : V} {k : Nat} {fl : Str} {y : Fd} (hF : ∀ S H, FdR S H k [(fl, v)] y) (e : WEnv c Γ σ H) {a : Addr} (ha : H a = none) (Q : VK) (q : ∀ H', Ex H H' → (TErr cl).R (Fxm m c Γ σ) H' (.ref a) (k, y) → Q (.ref a) H') : spE1 (cl k) fl [.ref a, v] (upd H a (exo a (cl k) none)) (fun v H2 => v = .non ∧ Q (.ref a) H2) fun _ _ _ => False := by
  refine ⟨a, v, rfl, upd_same, fun dx h1 h2 => ⟨rfl, ?_⟩⟩
  obtain ⟨x, hd⟩ := ex_mk (C := cl k) (fs := [(fl, v)]) ha h1 h2
  exact q _ x ⟨a, [(fl, v)], rfl, .inl (e.nw ha), .inr ⟨dx, .inl (e.nw hd), upd_same, by rw [upd_ne h2]; exact upd_same⟩, hF _ _⟩
theorem mk_cnt {σ : L2.St} {H : Hp} {t : Str} {i : Int} (e : WEnv c Γ σ H) {a : Addr} (ha : H a = none) (Q : VK) (q : ∀ H', Ex H H' → (TErr cl).R (Fxm m c Γ σ) H' (.ref a) (2, .cnt t i) → Q (.ref a) H') : spE2 (cl 2) [.ref a, .str t, .int i] (upd H a (exo a (cl 2) none)) (fun v H2 => v = .non ∧ Q (.ref a) H2) fun _ _ _ => False := by
  refine ⟨a, .str t, .int i, rfl, upd_same, fun dx h1 h2 => ⟨rfl, ?_⟩⟩
  rw [upd_ne h2] at h1
  have x : Ex H (upd (upd (upd (upd H a (exo a (cl 2) none)) dx (exd dx [("what", .str t)])) a (exo a (cl 2) (some dx))) dx (exd dx [("count", .int i), ("what", .str t)])) := ex_keepX fun b hb => by
    have n1 : b ≠ a := fun z => hb (by rw [z]; exact ha)
    have n2 : b ≠ dx := fun z => hb (by rw [z]; exact h1)
    rw [upd_ne n2, upd_ne n1, upd_ne n2, upd_ne n1]
  exact q _ x ⟨a, [("count", .int i), ("what", .str t)], rfl, .inl (e.nw ha), .inr ⟨dx, .inl (e.nw h1), by rw [upd_ne (Ne.symm h2)]; exact upd_same, upd_same⟩, .ct⟩
abbrev gVr : List V → List V → List V := fun vs zs => vs ++ zs.reverse
theorem p_mkWay {k : Nat} (hk : k = 0 ∨ k = 3) {ta : TE} {X : Nat × Fd → Prop} (h : P m c Γ ta (TTup TStr) fun p => X (k, .way p)) : P m c Γ (tMkV (cl k) (spEp (cl k)) (tCons ta tNil)) (TErr cl) X := .mk fun σ H Q e q => h.run σ H _ e fun v p H1 e1 f1 r hx =>
  ⟨(by show 1 ≤ 1000; decide), fun a ha => mk_way hk e1 r ha Q fun H' x r' => q _ _ H' (e1.ex x) (f1.exr x) r' hx⟩
theorem p_mkWayK {k : Nat} (hk : k = 0 ∨ k = 3) {ta : TE} {X : Nat × Fd → Prop} (h : P m c Γ ta (TTup TStr) fun p => X (k, .way p)) : P m c Γ (tMkVK (cl k) 1 (spEp (cl k)) gVr (tCons ta tNil)) (TErr cl) X := .mk fun σ H Q e q => h.run σ H _ e fun v p H1 e1 f1 r hx =>
  ⟨rfl, fun a ha => mk_way hk e1 r ha Q fun H' x r' => q _ _ H' (e1.ex x) (f1.exr x) r' hx⟩
theorem p_mkWord {ta : TE} {X : Nat × Fd → Prop} (h : P m c Γ ta TStr fun p => X (1, .word p)) : P m c Γ (tMkV (cl 1) (spE1 (cl 1) "what") (tCons ta tNil)) (TErr cl) X := .mk fun σ H Q e q => h.run σ H _ e fun v p H1 e1 f1 r hx =>
  ⟨(by show 1 ≤ 1000; decide), fun a ha => mk_one (y := .word p) (fun _ _ => by rw [show v = .str p from r]; exact .wd) e1 ha Q fun H' x r' => q _ _ H' (e1.ex x) (f1.exr x) r' hx⟩
theorem p_mkWordK {ta : TE} {X : Nat × Fd → Prop} (h : P m c Γ ta TStr fun p => X (1, .word p)) : P m c Γ (tMkVK (cl 1) 1 (spE1 (cl 1) "what") gVr (tCons ta tNil)) (TErr cl) X := .mk fun σ H Q e q => h.run σ H _ e fun v p H1 e1 f1 r hx =>
  ⟨rfl, fun a ha => mk_one (y := .word p) (fun _ _ => by rw [show v = .str p from r]; exact .wd) e1 ha Q fun H' x r' => q _ _ H' (e1.ex x) (f1.exr x) r' hx⟩
theorem p_mkNum {k : Nat} {fl : Str} (hk : (k = 4 ∧ fl = "time") ∨ (k = 6 ∧ fl = "place")) {ta : TE} {X : Nat × Fd → Prop} (h : P m c Γ ta TInt fun p => X (k, .num p)) : P m c Γ (tMkV (cl k) (spE1 (cl k) fl) (tCons ta tNil)) (TErr cl) X := .mk fun σ H Q e q => h.run σ H _ e fun v p H1 e1 f1 r hx =>
  ⟨(by show 1 ≤ 1000; decide), fun a ha => mk_one (y := .num p) (fun _ _ => by rw [show v = .int p from r]; rcases hk with ⟨rfl, rfl⟩ | ⟨rfl, rfl⟩ <;> first | exact .tm | exact .pl) e1 ha Q fun H' x r' => q _ _ H' (e1.ex x) (f1.exr x) r' hx⟩
theorem p_mkNumK {k : Nat} {fl : Str} (hk : (k = 4 ∧ fl = "time") ∨ (k = 6 ∧ fl = "place")) {ta : TE} {X : Nat × Fd → Prop} (h : P m c Γ ta TInt fun p => X (k, .num p)) : P m c Γ (tMkVK (cl k) 1 (spE1 (cl k) fl) gVr (tCons ta tNil)) (TErr cl) X := .mk fun σ H Q e q => h.run σ H _ e fun v p H1 e1 f1 r hx =>
  ⟨rfl, fun a ha => mk_one (y := .num p) (fun _ _ => by rw [show v = .int p from r]; rcases hk with ⟨rfl, rfl⟩ | ⟨rfl, rfl⟩ <;> first | exact .tm | exact .pl) e1 ha Q fun H' x r' => q _ _ H' (e1.ex x) (f1.exr x) r' hx⟩
theorem p_mkCnt {ta tb : TE} {X : Nat × Fd → Prop} (h : P m c Γ ta TStr fun p => P m c Γ tb TInt fun i => X (2, .cnt p i)) : P m c Γ (tMkV (cl 2) (spE2 (cl 2)) (tCons ta (tCons tb tNil))) (TErr cl) X := .mk fun σ H Q e q => h.run σ H _ e fun v p H1 e1 f1 r hb => hb.run σ H1 _ e1 fun w i H2 e2 f2 r2 hx => by
  obtain rfl : v = .str p := r
  obtain rfl : w = .int i := r2
  exact ⟨(by show 2 ≤ 1000; decide), fun a ha => mk_cnt e2 ha Q fun H' x r' => q _ _ H' (e2.ex x) ((f1.trans f2).exr x) r' hx⟩
theorem p_mkCntK {ta tb : TE} {X : Nat × Fd → Prop} (h : P m c Γ tb TInt fun i => P m c Γ ta TStr fun p => X (2, .cnt p i)) : P m c Γ (tMkVK (cl 2) 2 (spE2 (cl 2)) gVr (tCons tb (tCons ta tNil))) (TErr cl) X := .mk fun σ H Q e q => h.run σ H _ e fun w i H1 e1 f1 r hb => hb.run σ H1 _ e1 fun v p H2 e2 f2 r2 hx => by
  obtain rfl : w = .int i := r
  obtain rfl : v = .str p := r2
  exact ⟨rfl, fun a ha => mk_cnt e2 ha Q fun H' x r' => q _ _ H' (e2.ex x) ((f1.trans f2).exr x) r' hx⟩
theorem p_mkNo {X : Nat × Fd → Prop} (h : X (5, .no)) : P m c Γ (fun σ H Q => ∀ a, H a = none → Q (.ref a) (upd H a (exo a (cl 5) none))) (TErr cl) X := .mk fun σ H Q e q a ha =>
  q _ (5, .no) _ (e.ex (.new ha)) (.of_ex (.new ha)) ⟨a, [], rfl, .inl (e.nw ha), .inl ⟨rfl, upd_same⟩, .no⟩ h
/-! asking them -/
theorem p_isE {te : TE} {D : V} {cv : Value} {b : Nat → Bool} {X : Bool → Prop} (hec : ∀ k, k < 7 → ExcC Kf (cl k)) (hD : ∀ u, RelV D u → u = cv) (hb : ∀ k, k < 7 → PySem.W.kitOne Kf (.ref (cl k)) cv = some (b k)) (h : P false c Γ te (TErr cl) fun x => X (b x.1)) : P m c Γ (tCB (rIsX Kf) (tCons te (tCons (tC D) tNil))) TBool X := .mk fun σ H Q e q => h.run σ H _ e fun v x H1 e1 f1 ⟨a, fs, hv, s, xa, r⟩ hx => by
  subst hv
  exact ⟨a, cl x.1, fs, D, cv, _, rfl, xa.at, hec _ r.lt, hD, hb _ r.lt, q _ _ H1 e1 f1 rfl hx⟩
theorem p_toldE {te : TE} {X : Str → Prop} (hinj : ∀ k j, k < 7 → j < 7 → cl k = cl j → k = j) (h : P false c Γ te (TErr cl) fun x => X (toldX x.1)) : P m c Γ (tXm (fun C => ∃ k, k < 7 ∧ C = cl k) "told" (fun C vs H Q _ => ∃ a : Addr, vs = [.ref a] ∧ ∀ k, k < 7 → C = cl k → Q (.str (toldX k)) H) te) TStr X := .mk fun σ H Q e q => h.run σ H _ e fun v x H1 e1 f1 ⟨a, fs, hv, s, xa, r⟩ hx => by
  subst hv
  exact ⟨a, cl x.1, fs, rfl, ⟨x.1, r.lt, rfl⟩, xa.at, r.told, a, rfl, fun k hk ek => by
    rw [← hinj _ _ r.lt hk ek]
    exact q _ _ H1 e1 f1 rfl hx⟩
def selPath : Nat × Fd → Option (List Str) | (0, .way p) => some p | (3, .way p) => some p | _ => none
def selWhat : Nat × Fd → Option Str | (1, .word s) => some s | (2, .cnt s _) => some s | _ => none
def selCount : Nat × Fd → Option Int | (2, .cnt _ i) => some i | _ => none
def selTime : Nat × Fd → Option Int | (4, .num i) => some i | _ => none
def selPlace : Nat × Fd → Option Int | (6, .num i) => some i | _ => none
theorem p_xv {n : Str} {te : TE} {sel : Nat × Fd → Option α} {X : α → Prop} (hxf : ∀ k, k < 7 → XfC Kf (cl k)) (hs : ∀ S H k fs fd y, FdR S H k fs fd → sel (k, fd) = some y → PySem.W.findIn Kf (.ref (cl k)) n = some none ∧ ∃ v, fs.lookup n = some v ∧ T.R S H v y) (h : P m c Γ te (TErr cl) fun x => ∃ y, sel x = some y ∧ X y) : P m c Γ (tXv Kf n te) T X := .mk fun σ H Q e q => h.run σ H _ e fun v x H1 e1 f1 ⟨a, fs, hv, s, xa, r⟩ ⟨y, hy, hx⟩ => by
  subst hv
  obtain ⟨k, fd⟩ := x
  obtain ⟨hno, v, l, rv⟩ := hs _ _ _ _ _ _ r hy
  exact ⟨a, cl k, fs, v, rfl, hxf _ r.lt, hno, xa.at, l, q _ _ H1 e1 f1 rv hx⟩
theorem p_xPath {te : TE} {X : List Str → Prop} (hxf : ∀ k, k < 7 → XfC Kf (cl k)) (h0 : PySem.W.findIn Kf (.ref (cl 0)) "path" = some none) (h3 : PySem.W.findIn Kf (.ref (cl 3)) "path" = some none) (h : P m c Γ te (TErr cl) fun x => ∃ y, selPath x = some y ∧ X y) : P m c Γ (tXv Kf "path" te) (TTup TStr) X := p_xv hxf (fun S H k fs fd y r e => by
  unfold selPath at e
  split at e
  · rename_i h; injection h with h1 h2; subst h1 h2; cases e; cases r with | w0 r => exact ⟨h0, _, rfl, r⟩
  · rename_i h; injection h with h1 h2; subst h1 h2; cases e; cases r with | w3 r => exact ⟨h3, _, rfl, r⟩
  · cases e) h
theorem p_xWhat {te : TE} {X : Str → Prop} (hxf : ∀ k, k < 7 → XfC Kf (cl k)) (h0 : PySem.W.findIn Kf (.ref (cl 1)) "what" = some none) (h3 : PySem.W.findIn Kf (.ref (cl 2)) "what" = some none) (h : P m c Γ te (TErr cl) fun x => ∃ y, selWhat x = some y ∧ X y) : P m c Γ (tXv Kf "what" te) TStr X := p_xv hxf (fun S H k fs fd y r e => by
  unfold selWhat at e
  split at e
  · rename_i h; injection h with h1 h2; subst h1 h2; cases e; cases r; exact ⟨h0, _, rfl, rfl⟩
  · rename_i h; injection h with h1 h2; subst h1 h2; cases e; cases r; exact ⟨h3, _, rfl, rfl⟩
  · cases e) h
theorem p_xCount {te : TE} {X : Int → Prop} (hxf : ∀ k, k < 7 → XfC Kf (cl k)) (h0 : PySem.W.findIn Kf (.ref (cl 2)) "count" = some none) (h : P m c Γ te (TErr cl) fun x => ∃ y, selCount x = some y ∧ X y) : P m c Γ (tXv Kf "count" te) TInt X := p_xv hxf (fun S H k fs fd y r e => by
  unfold selCount at e
  split at e
  · rename_i h; injection h with h1 h2; subst h1 h2; cases e; cases r; exact ⟨h0, _, rfl, rfl⟩
  · cases e) h
theorem p_xTime {te : TE} {X : Int → Prop} (hxf : ∀ k, k < 7 → XfC Kf (cl k)) (h0 : PySem.W.findIn Kf (.ref (cl 4)) "time" = some none) (h : P m c Γ te (TErr cl) fun x => ∃ y, selTime x = some y ∧ X y) : P m c Γ (tXv Kf "time" te) TInt X := p_xv hxf (fun S H k fs fd y r e => by
  unfold selTime at e
  split at e
  · rename_i h; injection h with h1 h2; subst h1 h2; cases e; cases r; exact ⟨h0, _, rfl, rfl⟩
  · cases e) h
theorem p_xPlace {te : TE} {X : Int → Prop} (hxf : ∀ k, k < 7 → XfC Kf (cl k)) (h0 : PySem.W.findIn Kf (.ref (cl 6)) "place" = some none) (h : P m c Γ te (TErr cl) fun x => ∃ y, selPlace x = some y ∧ X y) : P m c Γ (tXv Kf "place" te) TInt X := p_xv hxf (fun S H k fs fd y r e => by
  unfold selPlace at e
  split at e
  · rename_i h; injection h with h1 h2; subst h1 h2; cases e; cases r; exact ⟨h0, _, rfl, rfl⟩
  · cases e) h
/-- x in (a, b) -/
theorem p_inSS {a b : Str} {ta : TE} {X : Bool → Prop} (h : P false c Γ ta TStr fun x => X (L2.inV (.str x) [.str a, .str b])) : P m c Γ (tOp (rIn Kf false) ta (tTup (tCons (tC (.str a)) (tCons (tC (.str b)) tNil)))) TBool X := .mk fun σ H Q e q => h.run σ H _ e fun v x H1 e1 f1 r hx => by
  obtain rfl : v = .str x := r
  exact ⟨(by show 2 ≤ sizeLine; decide), fun p hp => ⟨p, [.str a, .str b], rfl, .inr (.inl (.inl upd_same)), rfl, rfl, q _ _ _ (e1.ex (.new hp)) (f1.exr (.new hp)) rfl hx⟩⟩
end
end TP

namespace TP
open PySem PySem.Spec PyProof.Rows L2
section
variable [TabL] {m : Bool} {c : WCtx} {Γ Γ' : List WSlot} {α β γ δ : Type} {T : Ty α} {U : Ty β} {W : Ty γ} {K : Ko δ} {Kf : PySem.W.Frag}
/-- two things that stand -/
def T2at (T : Ty α) (U : Ty β) (a b : V) : Ty (α × β) := ⟨fun S H _ x => T.R S H a x.1 ∧ U.R S H b x.2, fun h st r => ⟨T.mono h st r.1, U.mono h st r.2⟩, fun r => ⟨T.alloc r.1, U.alloc r.2⟩⟩
/-- zip(a, b) -/
theorem pit_zip {ta tb : TE} {X : List (α × β) → Prop} (h : P true c Γ ta (TLst T) fun xs => P true c Γ tb (TLst U) fun ys => xs.length = ys.length ∧ X (xs.zip ys)) : PIt c Γ (iZip Kf (tCons ta (tCons tb tNil))) (TPair T U) X := .mk fun σ H R e q => h.run σ H _ e fun v xs H1 e1 f1 r hb => hb.run σ H1 _ e1 fun w ys H2 e2 f2 r2 hx => by
  obtain ⟨a, vs, rfl, s, ha, l, p⟩ := (TLst T).imp ((TLst T).stp r (e1.stp_fx f2)) fun _ => fx_t
  obtain ⟨b, ws, rfl, s2, hb, l2, p2⟩ := (TLst U).imp r2 fun _ => fx_t
  have el : vs.length = ws.length := p.len.trans (hx.1.trans p2.len.symm)
  refine ⟨a, b, vs, ws, rfl, .inl (.inl ha), .inl (.inl hb), q _ ⟨T2at (TAt .lst a vs T fun _ => rfl) (TAt .lst b ws U fun _ => rfl) (.ref a) (.ref b), (xs, ys), .non⟩ (xs.zip ys) H2 e2 (f1.trans f2) ⟨vs.length, _, _, walk_zip (xs := vs) (ys := ws) (by rw [← el, Nat.min_self]), ?_, fun S H z => ⟨.inl (.inl z.1.2.2.1), .inl (.inl z.2.2.2.1)⟩, ?_, fun S i H v H' z hi y => ?_⟩ ⟨⟨rfl, s, ha, l, p⟩, rfl, s2, hb, l2, p2⟩ hx.2⟩
  · rw [List.length_zip, ← p.len, ← p2.len, ← el, Nat.min_self]
  · rw [List.length_zip, ← p.len, ← p2.len, ← el, Nat.min_self]; exact l
  · obtain ⟨Ta, x, y, rfl, hT, rfl, h1, h2⟩ := y
    obtain ⟨x', hx', rx⟩ := z.1.2.2.2.2.get h1
    obtain ⟨y', hy', ry⟩ := z.2.2.2.2.2.get h2
    refine ⟨.new hT, (x', y'), ?_, Ta, x, y, rfl, .inr hT, upd_same, T.mono (fun _ => .inl) (.of_ex (.new hT)) rx, U.mono (fun _ => .inl) (.of_ex (.new hT)) ry⟩
    rw [List.getElem?_zip_eq_some]
    exact ⟨hx', hy'⟩
/-- x = a + b, an own list -/
theorem pn_cat {ta tb : TE} {X : List α → Prop} (h : P true c Γ ta (TLst T) fun xs => P true c Γ tb (TLst T) fun ys => xs.length + ys.length ≤ sizeLine ∧ X (xs ++ ys)) : PN c Γ (tOp rCat ta tb) (OwLst T) X := .mk fun σ H Q e k =>
  h.run σ H _ e fun v x H1 e1 f1 r1 hb => hb.run σ H1 _ e1 fun w y H2 e2 f2 r2 hx => by
    obtain ⟨a, vs, rfl, _, ha, l, p⟩ := (TLst T).stp r1 (e1.stp_fx f2)
    obtain ⟨b, ws, rfl, _, hb, l', p'⟩ := r2
    have hl : vs.length + ws.length ≤ sizeLine := by rw [p.len, p'.len]; exact hx.1
    exact ⟨a, b, vs, ws, rfl, rfl, ha, hb, hl, fun q hq => k q _ H2 _ e2 (f1.trans f2) hq (fun _ => False.elim) (.new hq) ⟨_, upd_same, by rw [List.length_append]; exact hl, (p.app p').imp fun _ _ z => T.mono (S := fun b => Fxm true c Γ σ b ∧ H2 b ≠ none) (fun b hb => ⟨fx_t hb.1, (fun y => hb.2 (by rw [y]; exact hq)), id⟩) (.of_ex (.new hq)) (T.alloc z)⟩ hx.2⟩
/-- own list + list -/
theorem p_catO1 {i : Nat} {n : Bool} {xs : List α} {tb : TE} {X : List α → Prop} (hi : Γ[i]? = some (.own (OwLst T xs) n)) (h : P m c Γ tb (TLst T) fun ys => xs.length + ys.length ≤ sizeLine ∧ X (xs ++ ys)) : P m c Γ (tOp rCat (tVar i) tb) (TLst T) X := .mk fun σ H Q e k => by
  obtain ⟨a, ha, _, _⟩ := e.own hi
  refine ⟨.ref a, ha, h.run σ H _ e fun w y H2 e2 f2 r2 hx => ?_⟩
  obtain ⟨a', ha', ⟨vs, hv, l, p⟩, _⟩ := e2.own hi
  rw [ha] at ha'
  cases ha'
  obtain ⟨b, ws, rfl, _, hb, l', p'⟩ := r2
  have hl : vs.length + ws.length ≤ sizeLine := by rw [p.len, p'.len]; exact hx.1
  exact ⟨a, b, vs, ws, rfl, rfl, hv, hb, hl, fun q hq => k _ _ _ (e2.ex (.new hq)) (f2.exr (.new hq)) ⟨q, _, rfl, (.inl (e2.nw hq)), upd_same, by rw [List.length_append]; exact hl, ((p.imp fun _ _ z => T.imp z fun _ => .inl).app p').imp fun _ _ z => T.stp z (.of_ex (.new hq))⟩ hx.2⟩
theorem paired_int {S : Addr → Prop} {H : Hp} : ∀ p : List Int, Paired (TInt.R S H) (p.map V.int) p
  | [] => .nil
  | _ :: p => .cons rfl (paired_int p)
theorem p_catScr {i : Nat} {n : Int} {ns : List Int} {X : List Int → Prop} (hi : Γ[i]? = some (.val (TScr Kf) ns)) (h : X (ns ++ [n])) : TP.P m c Γ (tOp (rCatScr Kf) (tVar i) (tLst (tCons (tC (.int n)) tNil))) (TLst TInt) X := .mk fun σ H Q e k => by
  obtain ⟨v, hv, r⟩ := e.get hi
  obtain ⟨a, rfl, ⟨its, h1, h2, h3⟩, hl⟩ := TScr.at r
  refine ⟨.ref a, hv, (by show 1 ≤ sizeLine; decide), fun l hl' => ⟨a, l, _, [.int n], rfl, rfl, ⟨its, h1, h2, h3.imp id fun z => by rw [upd_ne (ne_of_none z hl')]; exact z⟩, upd_same, (by show 1 ≤ 1000; decide), fun p hp => ?_⟩⟩
  have x2 : Ex H (upd (upd H l (.lst [.int n])) p (.lst (ns.map V.int ++ [.int n]))) := (Ex.new hl').trans (Ex.new hp)
  refine k _ _ _ (e.ex x2) (.of_ex x2) ⟨p, _, rfl, .inl (e.nw (fresh_back (Ex.new hl') hp)), upd_same, ?_, ?_⟩ h
  · rw [List.length_append, List.length_map]
    exact Nat.le_trans (show ns.length + 1 ≤ 1001 by omega) (by decide)
  · have := paired_int (S := Fxm m c Γ σ) (H := upd (upd H l (.lst [.int n])) p (.lst (ns.map V.int ++ [.int n]))) (ns ++ [n])
    rwa [List.map_append] at this
/-- isinstance(ValueError(..), c) -/
def rIsVE (K : PySem.W.Frag) : List V → Hp → VK → Prop := fun xs H Q => ∃ (a : Addr) (c : V) (cv : Value) (b : Bool), xs = [.ref a, c] ∧ H a = some (ExO (.type "ValueError") a) ∧ (∀ u, RelV c u → u = cv) ∧ PySem.W.kitOne K (.type "ValueError") cv = some b ∧ Q (.bl b) H
theorem call_isVE {X : Cx} : CallR X (.builtin "isinstance") (rIsVE X.K) := by
  intro pins s σ H xs us Q I r h
  obtain ⟨a, c, cv, b, rfl, ha, hcv, e, q⟩ := h
  cases r with
  | cons rx rr =>
    cases rr with
    | cons rt rr =>
      cases rr
      cases rx
      have ec := hcv _ rt
      subst ec
      have ok : ObjOk X.prog X.w H s.heap a (ExO (.type "ValueError") a) := I.hok a _ ha
      obtain ⟨⟨oe, vs, ho, hz, _⟩, _⟩ := ok
      exact PySem.W.kia_one (PySem.W.kitx_bexc PySem.F.excAttr_ValueError (by kernel_rfl) (by kernel_rfl) (by decide +kernel)) I.kIn ⟨oe, ho, hz.1⟩ e (fun z => nomatch z) fun tk => ⟨.bl b, H, I.kept (t' := tk) fun _ _ z => z, rfl, q⟩
theorem p_isVE {ta : TE} {D : V} {cv : Value} {b : Bool} {α : Type} {T : Ty α} {X : Bool → Prop} (hD : ∀ u, RelV D u → u = cv) (hb : PySem.W.kitOne Kf (.type "ValueError") cv = some b) (h : P false c Γ ta T fun _ => X b) : P m c Γ (tCB (rIsVE Kf) (tCons (fun σ H Q => tCons ta tNil σ H fun vs H1 => vs.length ≤ sizeLine ∧ ∀ a, H1 a = none → Q (.ref a) (upd H1 a (ExO (.type "ValueError") a))) (tCons (tC D) tNil))) TBool X := .mk fun σ H Q e q => h.run σ H _ e fun v x H1 e1 f1 r hx =>
  ⟨(by show 1 ≤ sizeLine; decide), fun a ha => ⟨a, D, cv, b, rfl, upd_same, hD, hb, q _ _ _ (e1.ex (.new ha)) (f1.exr (.new ha)) rfl hx⟩⟩
end
abbrev sXSource : Stmt := topS 10
abbrev sXDraw : Stmt := topS 11
abbrev sXPick : Stmt := topS 12
abbrev nXSource : List Str := ["_law_cell"]
theorem scXSource : FnScope nXSource ["_law_cell"] (defScope sXSource) := ⟨rfl, rfl, rfl, by decide +kernel, rfl, by decide +kernel, by decide +kernel⟩
abbrev nXDraw : List Str := ["_law_source_here", "_law_many", "_law_found", "_law_number"]
theorem scXDraw : FnScope nXDraw ["_law_source_here", "_law_many"] (defScope sXDraw) := ⟨rfl, rfl, rfl, by decide +kernel, rfl, by decide +kernel, by decide +kernel⟩
abbrev nXPick : List Str := ["_law_source_here", "_law_items"]
theorem scXPick : FnScope nXPick ["_law_source_here", "_law_items"] (defScope sXPick) := ⟨rfl, rfl, rfl, by decide +kernel, rfl, by decide +kernel, by decide +kernel⟩

section
variable [TabL] {P : Program} {w : World} {K : PySem.W.Frag} {mg : Str → Option Value} {base : Heap}
def spDrawX : Sp := pg1 OwRng TInt TInt (fun b => 0 < b ∧ b ≤ 1000000000) fun b d => 0 ≤ d ∧ d < b
theorem ok_xsource {f : Addr} {fd : FuncData} (T : Bi mg) (Dd : Df K mg "_law_source" sXSource ["_law_cell"] f fd) : FnOk P w K mg base CX0 1 f fd ["_law_cell"] spState := by
  refine Dd.F.ok scXSource (fun vs H Q E h => ?_) (fun cdv A outer s H vs Q E hr h => ?_)
  · obtain ⟨n, rfl, _⟩ := h
    rfl
  obtain ⟨n, rfl, k⟩ := h
  refine ⟨_, (pss_one (ps_ret (pe_lst (pa_cons (pe_callB call_abs (by rfl) (T.of "abs") (by decide +kernel) (pa_cons (pv 0) pa_nil)) (pa_cons (pe_op op_mod (pv 0) pe_int) (pa_cons pe_int pa_nil)))))), ?_⟩
  refine ⟨_, rfl, n, rfl, ?_⟩
  have h0 : 0 ≤ (if n < 0 then -n else n) := by split <;> omega
  generalize (if n < 0 then -n else n) = m at h0
  first
    | refine ⟨_, rfl, .inl ⟨_, rfl, _, _, rfl, rfl, (by show (0 : Int) < 2147483629; decide), (by show 3 ≤ sizeLine; decide), fun p hp => ?_⟩⟩
    | refine ⟨_, rfl, _, _, rfl, rfl, (by show (0 : Int) < 2147483629; decide), (by show 3 ≤ sizeLine; decide), fun p hp => ?_⟩
  refine k p _ hp (Ex.new hp) ⟨_, _, _, upd_same, h0, Int.emod_nonneg n (by decide), ?_, by decide⟩ fun b nb hb => by rw [upd_ne nb]; exact hb
  have := Int.emod_lt_of_pos n (show (0 : Int) < 2147483629 by decide)
  omega
theorem ok_xdraw {f : Addr} {fd : FuncData} (T : Bi mg) (Dd : Df K mg "_law_draw" sXDraw ["_law_source_here", "_law_many"] f fd) : FnOk P w K mg base CX0 1 f fd ["_law_source_here", "_law_many"] spDrawX := by
  refine Dd.F.ok scXDraw (fun vs H Q E h => leng1 h) (fun cdv A outer s H vs Q E hr h => ?_)
  refine ⟨_, (pss_cons (ps_if (pt_cmpR op_ge (pe_ix ix_list (pv 0) pe_int (fun _ _ => rfl)) (pe_op op_pow pe_int pe_int) (nomark _)) (pss_cons (ps_set (i := 2) scXDraw.nd rfl (Or.inl rfl) (pe_op op_mod (pe_ix ix_list (pv 0) pe_int (fun _ _ => rfl)) (pv 1)))
      (pss_cons (ps_asg (pe_op op_fdiv (pe_ix ix_list (pv 0) pe_int (fun _ _ => rfl)) (pv 1)) (pg_sub (pv 0) pe_int set_list))
      (pss_one (ps_ret (pv 2))))) pss_nil)
    (pss_cons (ps_asg (pe_op op_add (pe_ix ix_list (pv 0) pe_int (fun _ _ => rfl)) pe_int) (pg_sub (pv 0) pe_int set_list))
    (pss_cons (ps_set (i := 3) scXDraw.nd rfl (Or.inl rfl) (pe_op op_mod (pe_op op_mul (pe_op op_add (pe_op op_add (pe_ix ix_list (pv 0) pe_int (fun _ _ => rfl)) (pe_op op_mul pe_int (pe_ix ix_list (pv 0) pe_int (fun _ _ => rfl)))) pe_int) pe_int) pe_int))
    (pss_cons (ps_set (i := 3) scXDraw.nd rfl (Or.inl rfl) (pe_op op_mod (pe_op op_mul (pv 3) (pe_op op_add (pe_op op_fdiv (pv 3) pe_int) pe_int)) pe_int))
    (pss_one (ps_ret (pe_op op_mod (pe_op op_mod (pe_op op_add (pe_op op_fdiv (pv 3) pe_int) (pe_op op_mul (pe_op op_mod (pv 3) pe_int) pe_int)) pe_int) (pv 1)))))))), ?_⟩
  refine enterg1 h (Γ0 := [.un, .un]) rfl fun c s b hlim => ?_
  refine run_own (i := 0) (ι := Int × Int × Int) (fun y => (OwLst TInt [y.1, y.2.1, y.2.2]).pin s) (fun y => 0 ≤ y.1 ∧ 0 ≤ y.2.1 ∧ y.2.1 < 2147483640 ∧ 0 ≤ y.2.2) rfl (fun _ _ => id) (fun S H a r => ?_) fun y hy => ?_
  · obtain ⟨rs, x, y, z, ha, h0⟩ := r
    exact ⟨(x, y, z), ⟨rs, _, ha, (by show 3 ≤ sizeLine; decide), .cons rfl (.cons rfl (.cons rfl .nil))⟩, h0⟩
  obtain ⟨x, y, z⟩ := y
  simp only at hy
  obtain ⟨x0, y0, y1, z0⟩ := hy
  repeat' (first | refine p_ixO owPin rfl ?_ | refine run_setO rfl ?_ | with_reducible (first | apply run_seq | apply run_cut' | apply run_if | apply run_ret | apply run_nx | apply run_brk | apply run_cont | apply run_asg | apply run_par | apply pb_or | apply pb_and | apply pb_not | apply pb_val | apply pb_test | apply pb_yes | apply p_not | apply p_and | apply p_or | apply P.sca (fun _ _ _ _ _ h => h) (p_not ?_) | apply P.sca (fun _ _ _ _ _ h => h) (p_and ?_) | apply P.sca (fun _ _ _ _ _ h => h) (p_or ?_) | apply p_if | apply p_isD | apply p_isL | apply p_isLst | apply p_dnotin | apply p_din | apply p_dgetL | apply p_int | apply p_str | apply p_bl | apply p_non | apply p_pair | apply p_tri | apply p_fst | apply p_snd | apply p_t0 | apply p_t1 | apply p_t2 | apply p_I0b | apply p_I0i | apply p_I | apply p_neg | apply p_f0 | apply p_f1 | apply p_f2 | apply p_f3 | apply p_isN nonT_doc | apply p_notN nonT_doc | apply p_isN nonT_opt | apply p_notN nonT_opt | apply p_len | apply p_lenT | apply p_cat | apply p_slL | apply po_no | apply po_so | apply p_listof | apply p_listofT | apply p_tupof | apply pl_cons | apply pl_nil | apply p_intI | apply p_intB | apply p_abs | apply p_max2 | apply p_min2 | apply p_sum | apply run_drop | apply p_docUn | apply p_docOp | apply p_docL | apply p_lst) | refine p_var rfl ?_ | refine p_varX rfl ?_ | refine p_docC (by decide +kernel) ?_ | refine p_sc rfl ?_ | exact ownIs_self | refine ⟨_, (rfl : atI _ _ = some _), ?_⟩ | refine ⟨_, (rfl : ixN _ _ = some _), ?_⟩ | refine ⟨_, (rfl : _ = D.ob _), ?_⟩ | refine PX.p (px_g0 rfl ?_) | refine PX.p (px_g1 rfl ?_) | refine PX.p (px_f1 ?_) | refine p_lift (n := 1) (by omega) (PX.p (px_g0 rfl ?_)) | refine p_g0 rfl ?_ | refine p_g1 rfl ?_ | refine p_g2 rfl ?_ | refine p_g3 rfl ?_ | refine ⟨fun (hb : _ = true) => ?_, fun (hb : _ = false) => ?_⟩ | exact ownIs_self | with_reducible refine And.intro ?_ ?_ | (exact Bool.noConfusion ‹true = false›) | (exact Bool.noConfusion ‹false = true›) | ((with_reducible apply p_eqI); (first | refine p_ixO owPin rfl ?_ | refine run_setO rfl ?_ | refine p_var rfl ?_ | refine p_varX rfl ?_ | with_reducible (first | apply run_seq | apply run_cut' | apply run_if | apply run_ret | apply run_nx | apply run_brk | apply run_cont | apply run_asg | apply run_par | apply pb_or | apply pb_and | apply pb_not | apply pb_val | apply pb_test | apply pb_yes | apply p_not | apply p_and | apply p_or | apply P.sca (fun _ _ _ _ _ h => h) (p_not ?_) | apply P.sca (fun _ _ _ _ _ h => h) (p_and ?_) | apply P.sca (fun _ _ _ _ _ h => h) (p_or ?_) | apply p_if | apply p_isD | apply p_isL | apply p_isLst | apply p_dnotin | apply p_din | apply p_dgetL | apply p_int | apply p_str | apply p_bl | apply p_non | apply p_pair | apply p_tri | apply p_fst | apply p_snd | apply p_t0 | apply p_t1 | apply p_t2 | apply p_I0b | apply p_I0i | apply p_I | apply p_neg | apply p_f0 | apply p_f1 | apply p_f2 | apply p_f3 | apply p_isN nonT_doc | apply p_notN nonT_doc | apply p_isN nonT_opt | apply p_notN nonT_opt | apply p_len | apply p_lenT | apply p_cat | apply p_slL | apply po_no | apply po_so | apply p_listof | apply p_listofT | apply p_tupof | apply pl_cons | apply pl_nil | apply p_intI | apply p_intB | apply p_abs | apply p_max2 | apply p_min2 | apply p_sum | apply run_drop | apply p_docUn | apply p_docOp | apply p_docL | apply p_lst) | refine p_g0 rfl ?_ | refine p_g1 rfl ?_ | refine p_g2 rfl ?_)) | ((with_reducible apply p_neI); (first | refine p_ixO owPin rfl ?_ | refine run_setO rfl ?_ | refine p_var rfl ?_ | refine p_varX rfl ?_ | with_reducible (first | apply run_seq | apply run_cut' | apply run_if | apply run_ret | apply run_nx | apply run_brk | apply run_cont | apply run_asg | apply run_par | apply pb_or | apply pb_and | apply pb_not | apply pb_val | apply pb_test | apply pb_yes | apply p_not | apply p_and | apply p_or | apply P.sca (fun _ _ _ _ _ h => h) (p_not ?_) | apply P.sca (fun _ _ _ _ _ h => h) (p_and ?_) | apply P.sca (fun _ _ _ _ _ h => h) (p_or ?_) | apply p_if | apply p_isD | apply p_isL | apply p_isLst | apply p_dnotin | apply p_din | apply p_dgetL | apply p_int | apply p_str | apply p_bl | apply p_non | apply p_pair | apply p_tri | apply p_fst | apply p_snd | apply p_t0 | apply p_t1 | apply p_t2 | apply p_I0b | apply p_I0i | apply p_I | apply p_neg | apply p_f0 | apply p_f1 | apply p_f2 | apply p_f3 | apply p_isN nonT_doc | apply p_notN nonT_doc | apply p_isN nonT_opt | apply p_notN nonT_opt | apply p_len | apply p_lenT | apply p_cat | apply p_slL | apply po_no | apply po_so | apply p_listof | apply p_listofT | apply p_tupof | apply pl_cons | apply pl_nil | apply p_intI | apply p_intB | apply p_abs | apply p_max2 | apply p_min2 | apply p_sum | apply run_drop | apply p_docUn | apply p_docOp | apply p_docL | apply p_lst) | refine p_g0 rfl ?_ | refine p_g1 rfl ?_ | refine p_g2 rfl ?_)) | ((with_reducible apply p_eqS); (first | refine p_ixO owPin rfl ?_ | refine run_setO rfl ?_ | refine p_var rfl ?_ | refine p_varX rfl ?_ | with_reducible (first | apply run_seq | apply run_cut' | apply run_if | apply run_ret | apply run_nx | apply run_brk | apply run_cont | apply run_asg | apply run_par | apply pb_or | apply pb_and | apply pb_not | apply pb_val | apply pb_test | apply pb_yes | apply p_not | apply p_and | apply p_or | apply P.sca (fun _ _ _ _ _ h => h) (p_not ?_) | apply P.sca (fun _ _ _ _ _ h => h) (p_and ?_) | apply P.sca (fun _ _ _ _ _ h => h) (p_or ?_) | apply p_if | apply p_isD | apply p_isL | apply p_isLst | apply p_dnotin | apply p_din | apply p_dgetL | apply p_int | apply p_str | apply p_bl | apply p_non | apply p_pair | apply p_tri | apply p_fst | apply p_snd | apply p_t0 | apply p_t1 | apply p_t2 | apply p_I0b | apply p_I0i | apply p_I | apply p_neg | apply p_f0 | apply p_f1 | apply p_f2 | apply p_f3 | apply p_isN nonT_doc | apply p_notN nonT_doc | apply p_isN nonT_opt | apply p_notN nonT_opt | apply p_len | apply p_lenT | apply p_cat | apply p_slL | apply po_no | apply po_so | apply p_listof | apply p_listofT | apply p_tupof | apply pl_cons | apply pl_nil | apply p_intI | apply p_intB | apply p_abs | apply p_max2 | apply p_min2 | apply p_sum | apply run_drop | apply p_docUn | apply p_docOp | apply p_docL | apply p_lst) | refine p_g0 rfl ?_ | refine p_g1 rfl ?_ | refine p_g2 rfl ?_)) | ((with_reducible apply p_neS); (first | refine p_ixO owPin rfl ?_ | refine run_setO rfl ?_ | refine p_var rfl ?_ | refine p_varX rfl ?_ | with_reducible (first | apply run_seq | apply run_cut' | apply run_if | apply run_ret | apply run_nx | apply run_brk | apply run_cont | apply run_asg | apply run_par | apply pb_or | apply pb_and | apply pb_not | apply pb_val | apply pb_test | apply pb_yes | apply p_not | apply p_and | apply p_or | apply P.sca (fun _ _ _ _ _ h => h) (p_not ?_) | apply P.sca (fun _ _ _ _ _ h => h) (p_and ?_) | apply P.sca (fun _ _ _ _ _ h => h) (p_or ?_) | apply p_if | apply p_isD | apply p_isL | apply p_isLst | apply p_dnotin | apply p_din | apply p_dgetL | apply p_int | apply p_str | apply p_bl | apply p_non | apply p_pair | apply p_tri | apply p_fst | apply p_snd | apply p_t0 | apply p_t1 | apply p_t2 | apply p_I0b | apply p_I0i | apply p_I | apply p_neg | apply p_f0 | apply p_f1 | apply p_f2 | apply p_f3 | apply p_isN nonT_doc | apply p_notN nonT_doc | apply p_isN nonT_opt | apply p_notN nonT_opt | apply p_len | apply p_lenT | apply p_cat | apply p_slL | apply po_no | apply po_so | apply p_listof | apply p_listofT | apply p_tupof | apply pl_cons | apply pl_nil | apply p_intI | apply p_intB | apply p_abs | apply p_max2 | apply p_min2 | apply p_sum | apply run_drop | apply p_docUn | apply p_docOp | apply p_docL | apply p_lst) | refine p_g0 rfl ?_ | refine p_g1 rfl ?_ | refine p_g2 rfl ?_)) | ((with_reducible apply p_eqB); (first | refine p_ixO owPin rfl ?_ | refine run_setO rfl ?_ | refine p_var rfl ?_ | refine p_varX rfl ?_ | with_reducible (first | apply run_seq | apply run_cut' | apply run_if | apply run_ret | apply run_nx | apply run_brk | apply run_cont | apply run_asg | apply run_par | apply pb_or | apply pb_and | apply pb_not | apply pb_val | apply pb_test | apply pb_yes | apply p_not | apply p_and | apply p_or | apply P.sca (fun _ _ _ _ _ h => h) (p_not ?_) | apply P.sca (fun _ _ _ _ _ h => h) (p_and ?_) | apply P.sca (fun _ _ _ _ _ h => h) (p_or ?_) | apply p_if | apply p_isD | apply p_isL | apply p_isLst | apply p_dnotin | apply p_din | apply p_dgetL | apply p_int | apply p_str | apply p_bl | apply p_non | apply p_pair | apply p_tri | apply p_fst | apply p_snd | apply p_t0 | apply p_t1 | apply p_t2 | apply p_I0b | apply p_I0i | apply p_I | apply p_neg | apply p_f0 | apply p_f1 | apply p_f2 | apply p_f3 | apply p_isN nonT_doc | apply p_notN nonT_doc | apply p_isN nonT_opt | apply p_notN nonT_opt | apply p_len | apply p_lenT | apply p_cat | apply p_slL | apply po_no | apply po_so | apply p_listof | apply p_listofT | apply p_tupof | apply pl_cons | apply pl_nil | apply p_intI | apply p_intB | apply p_abs | apply p_max2 | apply p_min2 | apply p_sum | apply run_drop | apply p_docUn | apply p_docOp | apply p_docL | apply p_lst) | refine p_g0 rfl ?_ | refine p_g1 rfl ?_ | refine p_g2 rfl ?_)) | ((with_reducible apply p_neB); (first | refine p_ixO owPin rfl ?_ | refine run_setO rfl ?_ | refine p_var rfl ?_ | refine p_varX rfl ?_ | with_reducible (first | apply run_seq | apply run_cut' | apply run_if | apply run_ret | apply run_nx | apply run_brk | apply run_cont | apply run_asg | apply run_par | apply pb_or | apply pb_and | apply pb_not | apply pb_val | apply pb_test | apply pb_yes | apply p_not | apply p_and | apply p_or | apply P.sca (fun _ _ _ _ _ h => h) (p_not ?_) | apply P.sca (fun _ _ _ _ _ h => h) (p_and ?_) | apply P.sca (fun _ _ _ _ _ h => h) (p_or ?_) | apply p_if | apply p_isD | apply p_isL | apply p_isLst | apply p_dnotin | apply p_din | apply p_dgetL | apply p_int | apply p_str | apply p_bl | apply p_non | apply p_pair | apply p_tri | apply p_fst | apply p_snd | apply p_t0 | apply p_t1 | apply p_t2 | apply p_I0b | apply p_I0i | apply p_I | apply p_neg | apply p_f0 | apply p_f1 | apply p_f2 | apply p_f3 | apply p_isN nonT_doc | apply p_notN nonT_doc | apply p_isN nonT_opt | apply p_notN nonT_opt | apply p_len | apply p_lenT | apply p_cat | apply p_slL | apply po_no | apply po_so | apply p_listof | apply p_listofT | apply p_tupof | apply pl_cons | apply pl_nil | apply p_intI | apply p_intB | apply p_abs | apply p_max2 | apply p_min2 | apply p_sum | apply run_drop | apply p_docUn | apply p_docOp | apply p_docL | apply p_lst) | refine p_g0 rfl ?_ | refine p_g1 rfl ?_ | refine p_g2 rfl ?_)) | dsimp only [List.set, kf, kg] | refine fun (z : Int) hz => ?_ | refine fun (z : D) hz => ?_ | refine fun (z : Str) hz => ?_ | refine fun (z : Bool) hz => ?_ | refine fun (z : Unit) hz => ?_)
  all_goals (try (first | omega | decide +kernel | (unfold CMul; first | (refine .inl ⟨?_, ?_⟩ <;> (first | decide | omega)) | (refine .inr ⟨?_, ?_⟩ <;> (first | decide | omega))) | (unfold CDiv; refine ⟨?_, ?_⟩ <;> (first | decide | omega)) | (unfold CPow; refine ⟨?_, ?_, ?_⟩ <;> (first | decide | omega))))
  all_goals first
    | exact Int.emod_nonneg _ (by omega)
    | exact Int.emod_lt_of_pos _ hlim.1
    | (refine ⟨_, rfl, ?_⟩
       intro S H q
       obtain ⟨vs, hv, _, p⟩ := q
       rw [paired_ints p] at hv
       exact ⟨_, _, _, hv, by first | exact Int.ediv_nonneg x0 (by omega) | omega, by omega, by omega, by omega⟩)
theorem ok_xpick {k : Nat} {α : Type} (U : Ty α) {f fg : Addr} {fd dg : FuncData} (T : Bi mg) (Dd : Df K mg "_law_pick" sXPick ["_law_source_here", "_law_items"] f fd) (Dw : Df K mg "_law_draw" sXDraw ["_law_source_here", "_law_many"] fg dg) (gD : FnOk P w K mg base CX0 k fg dg ["_law_source_here", "_law_many"] spDrawX) : FnOk P w K mg base CX0 (k + 1) f fd ["_law_source_here", "_law_items"] (spChoice U) := by
  refine Dd.F.ok scXPick (fun vs H Q E h => leng1 h) (fun cdv A outer s H vs Q E hr h => ?_)
  refine ⟨_, (pss_one (ps_ret (pe_ix ix_list (pv 1) (pe_call gD hr rfl Dw.m Dw.F.kp Dw.b .nil pass0 (pa_cons (pv 0) (pa_cons (pe_callB call_len_seq (by rfl) (T.of "len") (by decide +kernel) (pa_cons (pv 1) pa_nil)) pa_nil))) (fun _ _ => rfl)))), ?_⟩
  refine enterg1 h (Γ0 := []) rfl fun c s xs hx => ?_
  repeat' (first | apply p_ix | with_reducible (first | apply run_seq | apply run_cut' | apply run_if | apply run_ret | apply run_nx | apply run_brk | apply run_cont | apply run_asg | apply run_par | apply pb_or | apply pb_and | apply pb_not | apply pb_val | apply pb_test | apply pb_yes | apply p_not | apply p_and | apply p_or | apply P.sca (fun _ _ _ _ _ h => h) (p_not ?_) | apply P.sca (fun _ _ _ _ _ h => h) (p_and ?_) | apply P.sca (fun _ _ _ _ _ h => h) (p_or ?_) | apply p_if | apply p_isD | apply p_isL | apply p_isLst | apply p_dnotin | apply p_din | apply p_dgetL | apply p_int | apply p_str | apply p_bl | apply p_non | apply p_pair | apply p_tri | apply p_fst | apply p_snd | apply p_t0 | apply p_t1 | apply p_t2 | apply p_I0b | apply p_I0i | apply p_I | apply p_neg | apply p_f0 | apply p_f1 | apply p_f2 | apply p_f3 | apply p_isN nonT_doc | apply p_notN nonT_doc | apply p_isN nonT_opt | apply p_notN nonT_opt | apply p_len | apply p_lenT | apply p_cat | apply p_slL | apply po_no | apply po_so | apply p_listof | apply p_listofT | apply p_tupof | apply pl_cons | apply pl_nil | apply p_intI | apply p_intB | apply p_abs | apply p_max2 | apply p_min2 | apply p_sum | apply run_drop | apply p_docUn | apply p_docOp | apply p_docL | apply p_lst) | refine p_var rfl ?_ | refine p_varX rfl ?_ | refine p_docC (by decide +kernel) ?_ | refine p_sc rfl ?_ | exact ownIs_self | refine ⟨_, (rfl : atI _ _ = some _), ?_⟩ | refine ⟨_, (rfl : ixN _ _ = some _), ?_⟩ | refine ⟨_, (rfl : _ = D.ob _), ?_⟩ | refine PX.p (px_g0 rfl ?_) | refine PX.p (px_g1 rfl ?_) | refine PX.p (px_f1 ?_) | refine p_lift (n := 1) (by omega) (PX.p (px_g0 rfl ?_)) | refine p_g0 rfl ?_ | refine p_g1 rfl ?_ | refine p_g2 rfl ?_ | refine p_g3 rfl ?_ | refine ⟨fun (hb : _ = true) => ?_, fun (hb : _ = false) => ?_⟩ | exact ownIs_self | with_reducible refine And.intro ?_ ?_ | (exact Bool.noConfusion ‹true = false›) | (exact Bool.noConfusion ‹false = true›) | ((with_reducible apply p_eqI); (first | apply p_ix | refine p_var rfl ?_ | refine p_varX rfl ?_ | with_reducible (first | apply run_seq | apply run_cut' | apply run_if | apply run_ret | apply run_nx | apply run_brk | apply run_cont | apply run_asg | apply run_par | apply pb_or | apply pb_and | apply pb_not | apply pb_val | apply pb_test | apply pb_yes | apply p_not | apply p_and | apply p_or | apply P.sca (fun _ _ _ _ _ h => h) (p_not ?_) | apply P.sca (fun _ _ _ _ _ h => h) (p_and ?_) | apply P.sca (fun _ _ _ _ _ h => h) (p_or ?_) | apply p_if | apply p_isD | apply p_isL | apply p_isLst | apply p_dnotin | apply p_din | apply p_dgetL | apply p_int | apply p_str | apply p_bl | apply p_non | apply p_pair | apply p_tri | apply p_fst | apply p_snd | apply p_t0 | apply p_t1 | apply p_t2 | apply p_I0b | apply p_I0i | apply p_I | apply p_neg | apply p_f0 | apply p_f1 | apply p_f2 | apply p_f3 | apply p_isN nonT_doc | apply p_notN nonT_doc | apply p_isN nonT_opt | apply p_notN nonT_opt | apply p_len | apply p_lenT | apply p_cat | apply p_slL | apply po_no | apply po_so | apply p_listof | apply p_listofT | apply p_tupof | apply pl_cons | apply pl_nil | apply p_intI | apply p_intB | apply p_abs | apply p_max2 | apply p_min2 | apply p_sum | apply run_drop | apply p_docUn | apply p_docOp | apply p_docL | apply p_lst) | refine p_g0 rfl ?_ | refine p_g1 rfl ?_ | refine p_g2 rfl ?_)) | ((with_reducible apply p_neI); (first | apply p_ix | refine p_var rfl ?_ | refine p_varX rfl ?_ | with_reducible (first | apply run_seq | apply run_cut' | apply run_if | apply run_ret | apply run_nx | apply run_brk | apply run_cont | apply run_asg | apply run_par | apply pb_or | apply pb_and | apply pb_not | apply pb_val | apply pb_test | apply pb_yes | apply p_not | apply p_and | apply p_or | apply P.sca (fun _ _ _ _ _ h => h) (p_not ?_) | apply P.sca (fun _ _ _ _ _ h => h) (p_and ?_) | apply P.sca (fun _ _ _ _ _ h => h) (p_or ?_) | apply p_if | apply p_isD | apply p_isL | apply p_isLst | apply p_dnotin | apply p_din | apply p_dgetL | apply p_int | apply p_str | apply p_bl | apply p_non | apply p_pair | apply p_tri | apply p_fst | apply p_snd | apply p_t0 | apply p_t1 | apply p_t2 | apply p_I0b | apply p_I0i | apply p_I | apply p_neg | apply p_f0 | apply p_f1 | apply p_f2 | apply p_f3 | apply p_isN nonT_doc | apply p_notN nonT_doc | apply p_isN nonT_opt | apply p_notN nonT_opt | apply p_len | apply p_lenT | apply p_cat | apply p_slL | apply po_no | apply po_so | apply p_listof | apply p_listofT | apply p_tupof | apply pl_cons | apply pl_nil | apply p_intI | apply p_intB | apply p_abs | apply p_max2 | apply p_min2 | apply p_sum | apply run_drop | apply p_docUn | apply p_docOp | apply p_docL | apply p_lst) | refine p_g0 rfl ?_ | refine p_g1 rfl ?_ | refine p_g2 rfl ?_)) | ((with_reducible apply p_eqS); (first | apply p_ix | refine p_var rfl ?_ | refine p_varX rfl ?_ | with_reducible (first | apply run_seq | apply run_cut' | apply run_if | apply run_ret | apply run_nx | apply run_brk | apply run_cont | apply run_asg | apply run_par | apply pb_or | apply pb_and | apply pb_not | apply pb_val | apply pb_test | apply pb_yes | apply p_not | apply p_and | apply p_or | apply P.sca (fun _ _ _ _ _ h => h) (p_not ?_) | apply P.sca (fun _ _ _ _ _ h => h) (p_and ?_) | apply P.sca (fun _ _ _ _ _ h => h) (p_or ?_) | apply p_if | apply p_isD | apply p_isL | apply p_isLst | apply p_dnotin | apply p_din | apply p_dgetL | apply p_int | apply p_str | apply p_bl | apply p_non | apply p_pair | apply p_tri | apply p_fst | apply p_snd | apply p_t0 | apply p_t1 | apply p_t2 | apply p_I0b | apply p_I0i | apply p_I | apply p_neg | apply p_f0 | apply p_f1 | apply p_f2 | apply p_f3 | apply p_isN nonT_doc | apply p_notN nonT_doc | apply p_isN nonT_opt | apply p_notN nonT_opt | apply p_len | apply p_lenT | apply p_cat | apply p_slL | apply po_no | apply po_so | apply p_listof | apply p_listofT | apply p_tupof | apply pl_cons | apply pl_nil | apply p_intI | apply p_intB | apply p_abs | apply p_max2 | apply p_min2 | apply p_sum | apply run_drop | apply p_docUn | apply p_docOp | apply p_docL | apply p_lst) | refine p_g0 rfl ?_ | refine p_g1 rfl ?_ | refine p_g2 rfl ?_)) | ((with_reducible apply p_neS); (first | apply p_ix | refine p_var rfl ?_ | refine p_varX rfl ?_ | with_reducible (first | apply run_seq | apply run_cut' | apply run_if | apply run_ret | apply run_nx | apply run_brk | apply run_cont | apply run_asg | apply run_par | apply pb_or | apply pb_and | apply pb_not | apply pb_val | apply pb_test | apply pb_yes | apply p_not | apply p_and | apply p_or | apply P.sca (fun _ _ _ _ _ h => h) (p_not ?_) | apply P.sca (fun _ _ _ _ _ h => h) (p_and ?_) | apply P.sca (fun _ _ _ _ _ h => h) (p_or ?_) | apply p_if | apply p_isD | apply p_isL | apply p_isLst | apply p_dnotin | apply p_din | apply p_dgetL | apply p_int | apply p_str | apply p_bl | apply p_non | apply p_pair | apply p_tri | apply p_fst | apply p_snd | apply p_t0 | apply p_t1 | apply p_t2 | apply p_I0b | apply p_I0i | apply p_I | apply p_neg | apply p_f0 | apply p_f1 | apply p_f2 | apply p_f3 | apply p_isN nonT_doc | apply p_notN nonT_doc | apply p_isN nonT_opt | apply p_notN nonT_opt | apply p_len | apply p_lenT | apply p_cat | apply p_slL | apply po_no | apply po_so | apply p_listof | apply p_listofT | apply p_tupof | apply pl_cons | apply pl_nil | apply p_intI | apply p_intB | apply p_abs | apply p_max2 | apply p_min2 | apply p_sum | apply run_drop | apply p_docUn | apply p_docOp | apply p_docL | apply p_lst) | refine p_g0 rfl ?_ | refine p_g1 rfl ?_ | refine p_g2 rfl ?_)) | ((with_reducible apply p_eqB); (first | apply p_ix | refine p_var rfl ?_ | refine p_varX rfl ?_ | with_reducible (first | apply run_seq | apply run_cut' | apply run_if | apply run_ret | apply run_nx | apply run_brk | apply run_cont | apply run_asg | apply run_par | apply pb_or | apply pb_and | apply pb_not | apply pb_val | apply pb_test | apply pb_yes | apply p_not | apply p_and | apply p_or | apply P.sca (fun _ _ _ _ _ h => h) (p_not ?_) | apply P.sca (fun _ _ _ _ _ h => h) (p_and ?_) | apply P.sca (fun _ _ _ _ _ h => h) (p_or ?_) | apply p_if | apply p_isD | apply p_isL | apply p_isLst | apply p_dnotin | apply p_din | apply p_dgetL | apply p_int | apply p_str | apply p_bl | apply p_non | apply p_pair | apply p_tri | apply p_fst | apply p_snd | apply p_t0 | apply p_t1 | apply p_t2 | apply p_I0b | apply p_I0i | apply p_I | apply p_neg | apply p_f0 | apply p_f1 | apply p_f2 | apply p_f3 | apply p_isN nonT_doc | apply p_notN nonT_doc | apply p_isN nonT_opt | apply p_notN nonT_opt | apply p_len | apply p_lenT | apply p_cat | apply p_slL | apply po_no | apply po_so | apply p_listof | apply p_listofT | apply p_tupof | apply pl_cons | apply pl_nil | apply p_intI | apply p_intB | apply p_abs | apply p_max2 | apply p_min2 | apply p_sum | apply run_drop | apply p_docUn | apply p_docOp | apply p_docL | apply p_lst) | refine p_g0 rfl ?_ | refine p_g1 rfl ?_ | refine p_g2 rfl ?_)) | ((with_reducible apply p_neB); (first | apply p_ix | refine p_var rfl ?_ | refine p_varX rfl ?_ | with_reducible (first | apply run_seq | apply run_cut' | apply run_if | apply run_ret | apply run_nx | apply run_brk | apply run_cont | apply run_asg | apply run_par | apply pb_or | apply pb_and | apply pb_not | apply pb_val | apply pb_test | apply pb_yes | apply p_not | apply p_and | apply p_or | apply P.sca (fun _ _ _ _ _ h => h) (p_not ?_) | apply P.sca (fun _ _ _ _ _ h => h) (p_and ?_) | apply P.sca (fun _ _ _ _ _ h => h) (p_or ?_) | apply p_if | apply p_isD | apply p_isL | apply p_isLst | apply p_dnotin | apply p_din | apply p_dgetL | apply p_int | apply p_str | apply p_bl | apply p_non | apply p_pair | apply p_tri | apply p_fst | apply p_snd | apply p_t0 | apply p_t1 | apply p_t2 | apply p_I0b | apply p_I0i | apply p_I | apply p_neg | apply p_f0 | apply p_f1 | apply p_f2 | apply p_f3 | apply p_isN nonT_doc | apply p_notN nonT_doc | apply p_isN nonT_opt | apply p_notN nonT_opt | apply p_len | apply p_lenT | apply p_cat | apply p_slL | apply po_no | apply po_so | apply p_listof | apply p_listofT | apply p_tupof | apply pl_cons | apply pl_nil | apply p_intI | apply p_intB | apply p_abs | apply p_max2 | apply p_min2 | apply p_sum | apply run_drop | apply p_docUn | apply p_docOp | apply p_docL | apply p_lst) | refine p_g0 rfl ?_ | refine p_g1 rfl ?_ | refine p_g2 rfl ?_)) | dsimp only [List.set, kf, kg] | refine fun (z : Int) hz => ?_ | refine fun (z : D) hz => ?_ | refine fun (z : Str) hz => ?_ | refine fun (z : Bool) hz => ?_ | refine fun (z : Unit) hz => ?_)
  · have := hx.1; omega
  · have := hx.2; omega
  · rename_i z hz
    have hj : z.toNat < xs.length := by omega
    have := atI_nat (j := z.toNat) (v := xs[z.toNat]) (xs := xs) (List.getElem?_eq_getElem hj)
    rw [show ((z.toNat : Nat) : Int) = z by omega] at this
    exact ⟨_, this, ownIs_self, List.getElem_mem hj⟩
end
end TP

namespace TP
open PySem PySem.Spec PyProof.Rows L2
abbrev sXErrors : Stmt := topS 13
abbrev sXFields : Stmt := topS 14
abbrev sXClasses : Stmt := topS 15
abbrev nXErrors : List Str := ["_law_way", "_law_word", "_law_number", "_law_result"]
theorem scXErrors : FnScope nXErrors ["_law_way", "_law_word", "_law_number"] (defScope sXErrors) := ⟨rfl, rfl, rfl, by decide +kernel, rfl, by decide +kernel, by decide +kernel⟩
abbrev nXFields : List Str := ["_law_e", "_law_name_so"]
theorem scXFields : FnScope nXFields ["_law_e", "_law_name_so"] (defScope sXFields) := ⟨rfl, rfl, rfl, by decide +kernel, rfl, by decide +kernel, by decide +kernel⟩
abbrev nXClasses : List Str := ["_law_e", "_law_marks", "_law_names_so", "_law_name_so", "_law_mark"]
theorem scXClasses : FnScope nXClasses ["_law_e"] (defScope sXClasses) := ⟨rfl, rfl, rfl, by decide +kernel, rfl, by decide +kernel, by decide +kernel⟩

def cnX : Nat → Str | 0 => "NoDocument" | 1 => "Large" | 2 => "BadCount" | 3 => "NoChange" | 4 => "NoTime" | 5 => "NoBack" | _ => "BadText"
/-- the classes of the program's errors -/
structure XCs (K : PySem.W.Frag) (mg : Str → Option Value) (cl fi : Nat → Addr) : Prop where
  m : ∀ k, k < 7 → mg (cnX k) = some (.ref (cl k))
  ox : ∀ k, k < 7 → k ≠ 5 → OexC K (cl k)
  iC : ∀ k, k < 7 → k ≠ 5 → PySem.W.findIn K (.ref (cl k)) "__init__" = some (some (.ref (fi k)))
  tI : ∀ k, k < 7 → k ≠ 5 → PySem.W.typeIn K (.ref (fi k)) = some (.type "function")
  xf : ∀ k, k < 7 → XfC K (cl k)
  ec : ∀ k, k < 7 → ExcC K (cl k)
  p0 : PySem.W.findIn K (.ref (cl 0)) "path" = some none
  p3 : PySem.W.findIn K (.ref (cl 3)) "path" = some none
  w1 : PySem.W.findIn K (.ref (cl 1)) "what" = some none
  w2 : PySem.W.findIn K (.ref (cl 2)) "what" = some none
  c2 : PySem.W.findIn K (.ref (cl 2)) "count" = some none
  t4 : PySem.W.findIn K (.ref (cl 4)) "time" = some none
  q6 : PySem.W.findIn K (.ref (cl 6)) "place" = some none
  is' : ∀ k j, k < 7 → j < 7 → PySem.W.kitOne K (.ref (cl k)) (.ref (cl j)) = some (decide (k = j))
section
variable [TabL] {P : Program} {w : World} {K : PySem.W.Frag} {mg : Str → Option Value} {base : Heap} {cl fi : Nat → Addr}
abbrev tE (cl : Nat → Addr) : Ty ((Nat × Fd) × Str × Fd) := TTri (TErr cl) TStr TFls
def GoodE (t : (Nat × Fd) × Str × Fd) : Prop := t.2.1 = nmX t.1.1 ∧ t.2.2 = t.1.2
abbrev spXErrors (cl : Nat → Addr) : Sp := pf3 (TTup TStr) TStr TInt (TLst (tE cl)) (fun _ _ _ => True) fun _ _ _ ts => ∀ t ∈ ts, GoodE t
set_option maxHeartbeats 0 in
theorem ok_xerrors {f : Addr} {fd d0 d1 d2 d3 d4 d6 : FuncData} (T : Bi mg) (Dd : Df K mg "_law_errors" sXErrors ["_law_way", "_law_word", "_law_number"] f fd) (XX : XCs K mg cl fi)
    (xN : PySem.W.excIn K (cl 5) [.type "ValueError", .type "Exception", .type "BaseException", .type "object"] "ValueError.__new__" = true) (kN : PySem.W.keepIn K (.ref (cl 5)) = true)
    (gi0 : FnOk P w K mg base CX0 1 (fi 0) d0 ["self", "path"] (spEp (cl 0))) (gi1 : FnOk P w K mg base CX0 1 (fi 1) d1 ["self", "what"] (spE1 (cl 1) "what")) (gi2 : FnOk P w K mg base CX0 1 (fi 2) d2 ["self", "what", "count"] (spE2 (cl 2))) (gi3 : FnOk P w K mg base CX0 1 (fi 3) d3 ["self", "path"] (spEp (cl 3))) (gi4 : FnOk P w K mg base CX0 1 (fi 4) d4 ["self", "time"] (spE1 (cl 4) "time")) (gi6 : FnOk P w K mg base CX0 1 (fi 6) d6 ["self", "place"] (spE1 (cl 6) "place"))
    (bi0 : Binds K d0 ["self", "path"] []) (bi1 : Binds K d1 ["self", "what"] []) (bi2 : Binds K d2 ["self", "what", "count"] []) (bi3 : Binds K d3 ["self", "path"] []) (bi4 : Binds K d4 ["self", "time"] []) (bi6 : Binds K d6 ["self", "place"] [])
    (kb0 : KBn K d0 ["self", "path"] 1 ["path"] (fun us ws => us ++ ws.reverse) gVr) (kb1 : KBn K d1 ["self", "what"] 1 ["what"] (fun us ws => us ++ ws.reverse) gVr) (kb2 : KBn K d2 ["self", "what", "count"] 1 ["count", "what"] (fun us ws => us ++ ws.reverse) gVr) (kb3 : KBn K d3 ["self", "path"] 1 ["path"] (fun us ws => us ++ ws.reverse) gVr) (kb4 : KBn K d4 ["self", "time"] 1 ["time"] (fun us ws => us ++ ws.reverse) gVr) (kb6 : KBn K d6 ["self", "place"] 1 ["place"] (fun us ws => us ++ ws.reverse) gVr) :
    FnOk P w K mg base CX0 3 f fd ["_law_way", "_law_word", "_law_number"] (spXErrors cl) := by
  refine Dd.F.ok scXErrors (fun vs H Q E h => len3 h) (fun cdv A outer s H vs Q E hr h => ?_)
  refine ⟨_, (pss_cons (ps_set (i := 3) scXErrors.nd rfl (Or.inl rfl) (pe_lst (pa_cons (pe_tup (pa_cons (pe_mkv (XX.ox 0 (by decide) (by decide)) (XX.iC 0 (by decide) (by decide)) (XX.tI 0 (by decide) (by decide)) gi0 hr bi0 pass0 rfl (XX.m 0 (by decide)) (pa_cons (pv 0) pa_nil)) (pa_cons pe_str (pa_cons (pe_lst (pa_cons (pv 0) pa_nil)) pa_nil)))) (pa_cons (pe_tup (pa_cons (pe_mkv (XX.ox 1 (by decide) (by decide)) (XX.iC 1 (by decide) (by decide)) (XX.tI 1 (by decide) (by decide)) gi1 hr bi1 pass0 rfl (XX.m 1 (by decide)) (pa_cons (pv 1) pa_nil)) (pa_cons pe_str (pa_cons (pe_lst (pa_cons (pv 1) pa_nil)) pa_nil)))) pa_nil))))
    (pss_cons (ps_set (i := 3) scXErrors.nd rfl (Or.inl rfl) (pe_op op_cat (pv 3) (pe_lst (pa_cons (pe_tup (pa_cons (pe_mkv (XX.ox 2 (by decide) (by decide)) (XX.iC 2 (by decide) (by decide)) (XX.tI 2 (by decide) (by decide)) gi2 hr bi2 pass0 rfl (XX.m 2 (by decide)) (pa_cons (pv 1) (pa_cons (pv 2) pa_nil))) (pa_cons pe_str (pa_cons (pe_lst (pa_cons (pv 1) (pa_cons (pv 2) pa_nil))) pa_nil)))) (pa_cons (pe_tup (pa_cons (pe_mkv (XX.ox 3 (by decide) (by decide)) (XX.iC 3 (by decide) (by decide)) (XX.tI 3 (by decide) (by decide)) gi3 hr bi3 pass0 rfl (XX.m 3 (by decide)) (pa_cons (pv 0) pa_nil)) (pa_cons pe_str (pa_cons (pe_lst (pa_cons (pv 0) pa_nil)) pa_nil)))) pa_nil)))))
    (pss_cons (ps_set (i := 3) scXErrors.nd rfl (Or.inl rfl) (pe_op op_cat (pv 3) (pe_lst (pa_cons (pe_tup (pa_cons (pe_mkv (XX.ox 4 (by decide) (by decide)) (XX.iC 4 (by decide) (by decide)) (XX.tI 4 (by decide) (by decide)) gi4 hr bi4 pass0 rfl (XX.m 4 (by decide)) (pa_cons (pv 2) pa_nil)) (pa_cons pe_str (pa_cons (pe_lst (pa_cons (pv 2) pa_nil)) pa_nil)))) (pa_cons (pe_tup (pa_cons (pe_mkv0 PySem.F.excBase_ValueError xN (XX.m 5 (by decide)) kN rfl) (pa_cons pe_str (pa_cons (pe_lst pa_nil) pa_nil)))) pa_nil)))))
    (pss_cons (ps_set (i := 3) scXErrors.nd rfl (Or.inl rfl) (pe_op op_cat (pv 3) (pe_lst (pa_cons (pe_tup (pa_cons (pe_mkv (XX.ox 6 (by decide) (by decide)) (XX.iC 6 (by decide) (by decide)) (XX.tI 6 (by decide) (by decide)) gi6 hr bi6 pass0 rfl (XX.m 6 (by decide)) (pa_cons (pv 2) pa_nil)) (pa_cons pe_str (pa_cons (pe_lst (pa_cons (pv 2) pa_nil)) pa_nil)))) (pa_cons (pe_tup (pa_cons (pe_mkvK (XX.ox 0 (by decide) (by decide)) (XX.iC 0 (by decide) (by decide)) (XX.tI 0 (by decide) (by decide)) gi0 hr kb0 pass0 rfl (XX.m 0 (by decide)) (pk_cons (pv 0) pk_nil)) (pa_cons pe_str (pa_cons (pe_lst (pa_cons (pv 0) pa_nil)) pa_nil)))) pa_nil)))))
    (pss_cons (ps_set (i := 3) scXErrors.nd rfl (Or.inl rfl) (pe_op op_cat (pv 3) (pe_lst (pa_cons (pe_tup (pa_cons (pe_mkvK (XX.ox 1 (by decide) (by decide)) (XX.iC 1 (by decide) (by decide)) (XX.tI 1 (by decide) (by decide)) gi1 hr kb1 pass0 rfl (XX.m 1 (by decide)) (pk_cons (pv 1) pk_nil)) (pa_cons pe_str (pa_cons (pe_lst (pa_cons (pv 1) pa_nil)) pa_nil)))) (pa_cons (pe_tup (pa_cons (pe_mkvK (XX.ox 3 (by decide) (by decide)) (XX.iC 3 (by decide) (by decide)) (XX.tI 3 (by decide) (by decide)) gi3 hr kb3 pass0 rfl (XX.m 3 (by decide)) (pk_cons (pv 0) pk_nil)) (pa_cons pe_str (pa_cons (pe_lst (pa_cons (pv 0) pa_nil)) pa_nil)))) pa_nil)))))
    (pss_cons (ps_expr (pe_bm PySem.F.plainAttrs_list PySem.F.slot_list_append PySem.F.type_list_append mt_append (pv 3) (pa_cons (pe_tup (pa_cons (pe_mkvK (XX.ox 2 (by decide) (by decide)) (XX.iC 2 (by decide) (by decide)) (XX.tI 2 (by decide) (by decide)) gi2 hr kb2 pass0 rfl (XX.m 2 (by decide)) (pk_cons (pv 2) (pk_cons (pv 1) pk_nil))) (pa_cons pe_str (pa_cons (pe_lst (pa_cons (pv 1) (pa_cons (pv 2) pa_nil))) pa_nil)))) pa_nil)))
    (pss_one (ps_ret (pe_op op_cat (pv 3) (pe_lst (pa_cons (pe_tup (pa_cons (pe_mkvK (XX.ox 4 (by decide) (by decide)) (XX.iC 4 (by decide) (by decide)) (XX.tI 4 (by decide) (by decide)) gi4 hr kb4 pass0 rfl (XX.m 4 (by decide)) (pk_cons (pv 2) pk_nil)) (pa_cons pe_str (pa_cons (pe_lst (pa_cons (pv 2) pa_nil)) pa_nil)))) (pa_cons (pe_tup (pa_cons (pe_mkvK (XX.ox 6 (by decide) (by decide)) (XX.iC 6 (by decide) (by decide)) (XX.tI 6 (by decide) (by decide)) gi6 hr kb6 pass0 rfl (XX.m 6 (by decide)) (pk_cons (pv 2) pk_nil)) (pa_cons pe_str (pa_cons (pe_lst (pa_cons (pv 2) pa_nil)) pa_nil)))) pa_nil)))))))))))), ?_⟩
  refine enter3 h (Γ0 := [.un]) rfl fun c p t i _ => ?_
  refine run_seq (run_asg (TLst (tE cl)) (p_lst (pl_cons (p_tri (p_mkWay (.inl rfl) (p_var rfl (p_str (p_flsW (p_var rfl ?_)))))))))
  refine pl_cons (p_tri (p_mkWord (p_var rfl (p_str (p_flsS (p_var rfl (pl_nil ⟨(by show 2 ≤ sizeLine; decide), ?_⟩)))))))
  dsimp only [List.set]
  refine run_seq (run_asg (TLst (tE cl)) (p_cat (p_var rfl (p_lst (pl_cons (p_tri (p_mkCnt (p_var rfl (p_var rfl (p_str (p_flsC (p_var rfl (p_var rfl ?_)))))))))))))
  refine pl_cons (p_tri (p_mkWay (.inr rfl) (p_var rfl (p_str (p_flsW (p_var rfl (pl_nil ⟨(by show 2 ≤ sizeLine; decide), (by show 2 + 2 ≤ sizeLine; decide), ?_⟩)))))))
  dsimp only [List.set]
  refine run_seq (run_asg (TLst (tE cl)) (p_cat (p_var rfl (p_lst (pl_cons (p_tri (p_mkNum (.inl ⟨rfl, rfl⟩) (p_var rfl (p_str (p_flsN (p_var rfl ?_)))))))))))
  refine pl_cons (p_tri (p_mkNo (p_str (p_fls0 (pl_nil ⟨(by show 2 ≤ sizeLine; decide), (by show 4 + 2 ≤ sizeLine; decide), ?_⟩)))))
  dsimp only [List.set]
  refine run_seq (run_asg (TLst (tE cl)) (p_cat (p_var rfl (p_lst (pl_cons (p_tri (p_mkNum (.inr ⟨rfl, rfl⟩) (p_var rfl (p_str (p_flsN (p_var rfl ?_)))))))))))
  refine pl_cons (p_tri (p_mkWayK (.inl rfl) (p_var rfl (p_str (p_flsW (p_var rfl (pl_nil ⟨(by show 2 ≤ sizeLine; decide), (by show 6 + 2 ≤ sizeLine; decide), ?_⟩)))))))
  dsimp only [List.set]
  refine run_seq (run_asgN (pn_cat (T := tE cl) (p_var rfl (p_lst (pl_cons (p_tri (p_mkWordK (p_var rfl (p_str (p_flsS (p_var rfl ?_)))))))))))
  refine pl_cons (p_tri (p_mkWayK (.inr rfl) (p_var rfl (p_str (p_flsW (p_var rfl (pl_nil ⟨(by show 2 ≤ sizeLine; decide), (by show 8 + 2 ≤ sizeLine; decide), ?_⟩)))))))
  dsimp only [List.set]
  refine run_seq (run_append rfl (p_tri (p_mkCntK (p_var rfl (p_var rfl (p_str (p_flsC (p_var rfl (p_var rfl ⟨(by show 10 < sizeLine; decide), ?_⟩)))))))))
  dsimp only [List.set]
  refine run_ret (p_catO1 rfl (p_lst (pl_cons (p_tri (p_mkNumK (.inl ⟨rfl, rfl⟩) (p_var rfl (p_str (p_flsN (p_var rfl ?_)))))))))
  refine pl_cons (p_tri (p_mkNumK (.inr ⟨rfl, rfl⟩) (p_var rfl (p_str (p_flsN (p_var rfl (pl_nil ⟨(by show 2 ≤ sizeLine; decide), (by show 11 + 2 ≤ sizeLine; decide), fun t ht => ?_⟩)))))))
  simp only [List.mem_append, List.mem_cons, List.not_mem_nil, or_false] at ht
  have good : ∀ {a : (Nat × Fd) × Str × Fd}, t = a → GoodE a → GoodE t := fun e h => by rw [e]; exact h
  rcases ht with (((((((ht | ht) | ht | ht) | ht | ht) | ht | ht) | ht | ht) | ht) | ht | ht) <;> exact good ht ⟨rfl, rfl⟩
abbrev spXFields (cl : Nat → Addr) : Sp := pf2 (TErr cl) TStr TFls (fun x n => n = nmX x.1) fun x _ z => z = x.2
theorem ok_xfields {f : Addr} {fd : FuncData} (T : Bi mg) (Dd : Df K mg "_law_fields" sXFields ["_law_e", "_law_name_so"] f fd) (XX : XCs K mg cl fi) : FnOk P w K mg base CX0 1 f fd ["_law_e", "_law_name_so"] (spXFields cl) := by
  refine Dd.F.ok scXFields (fun vs H Q E h => len2 h) (fun cdv A outer s H vs Q E hr h => ?_)
  have hu := hu_of hr
  refine ⟨_, (pss_cons (ps_if (pt_cmpR op_in_seq (pv 1) (pe_tup (pa_cons pe_str (pa_cons pe_str pa_nil))) (by rfl)) (pss_one (ps_ret (pe_lst (pa_cons (pe_xv (pv 0)) pa_nil)))) pss_nil)
    (pss_cons (ps_if (pt_cmpR (op_eqU hr.units) (pv 1) pe_str (nomark _)) (pss_one (ps_ret (pe_lst (pa_cons (pe_xv (pv 0)) pa_nil)))) pss_nil)
    (pss_cons (ps_if (pt_cmpR (op_eqU hr.units) (pv 1) pe_str (nomark _)) (pss_one (ps_ret (pe_lst (pa_cons (pe_xv (pv 0)) (pa_cons (pe_xv (pv 0)) pa_nil))))) pss_nil)
    (pss_cons (ps_if (pt_cmpR (op_eqU hr.units) (pv 1) pe_str (nomark _)) (pss_one (ps_ret (pe_lst (pa_cons (pe_xv (pv 0)) pa_nil)))) pss_nil)
    (pss_one (ps_ret (pe_ifExp (pt_cmpR (op_eqU hr.units) (pv 1) pe_str (nomark _)) (pe_lst (pa_cons (pe_xv (pv 0)) pa_nil)) (pe_lst pa_nil)))))))), ?_⟩
  refine enter2 h (Γ0 := []) rfl fun c x n hn => ?_
  subst hn
  refine run_asV (i := 0) (U := TErr cl) (fun y => y = x ∧ ∃ S H fs, FdR S H x.1 fs x.2) rfl (fun S H v r => ⟨x, r, rfl, ?_⟩) fun y hy => ?_
  · obtain ⟨a, fs, _, _, _, r⟩ := r
    exact ⟨_, _, _, r⟩
  obtain ⟨rfl, S', H', fs, r⟩ := hy
  obtain ⟨k, fd⟩ := y
  dsimp only at r ⊢
  dsimp only [List.set]
  cases r with
  | w0 r =>
    refine run_seq (run_if (pb_test (p_inSS (p_var rfl ⟨fun _ => ?_, fun z => absurd z (by decide +kernel)⟩))))
    exact run_ret (p_flsW (p_xPath XX.xf XX.p0 XX.p3 (p_var rfl ⟨_, rfl, rfl⟩)))
  | w3 r =>
    refine run_seq (run_if (pb_test (p_inSS (p_var rfl ⟨fun _ => ?_, fun z => absurd z (by decide +kernel)⟩))))
    exact run_ret (p_flsW (p_xPath XX.xf XX.p0 XX.p3 (p_var rfl ⟨_, rfl, rfl⟩)))
  | wd =>
    refine run_seq (run_if (pb_test (p_inSS (p_var rfl ⟨fun z => absurd z (by decide +kernel), fun _ => run_nx ?_⟩))))
    refine run_seq (run_if (pb_test (p_eqS (p_var rfl (p_str fun b hb => ⟨fun _ => ?_, fun z => absurd (hb.mpr (by decide +kernel)) (by rw [z]; decide)⟩)))))
    exact run_ret (p_flsS (p_xWhat XX.xf XX.w1 XX.w2 (p_var rfl ⟨_, rfl, rfl⟩)))
  | ct =>
    refine run_seq (run_if (pb_test (p_inSS (p_var rfl ⟨fun z => absurd z (by decide +kernel), fun _ => run_nx ?_⟩))))
    refine run_seq (run_if (pb_test (p_eqS (p_var rfl (p_str fun b hb => ⟨fun z => absurd (hb.mp z) (by decide +kernel), fun _ => run_nx ?_⟩)))))
    refine run_seq (run_if (pb_test (p_eqS (p_var rfl (p_str fun b hb => ⟨fun _ => ?_, fun z => absurd (hb.mpr (by decide +kernel)) (by rw [z]; decide)⟩)))))
    exact run_ret (p_flsC (p_xWhat XX.xf XX.w1 XX.w2 (p_var rfl ⟨_, rfl, p_xCount XX.xf XX.c2 (p_var rfl ⟨_, rfl, rfl⟩)⟩)))
  | tm =>
    refine run_seq (run_if (pb_test (p_inSS (p_var rfl ⟨fun z => absurd z (by decide +kernel), fun _ => run_nx ?_⟩))))
    refine run_seq (run_if (pb_test (p_eqS (p_var rfl (p_str fun b hb => ⟨fun z => absurd (hb.mp z) (by decide +kernel), fun _ => run_nx ?_⟩)))))
    refine run_seq (run_if (pb_test (p_eqS (p_var rfl (p_str fun b hb => ⟨fun z => absurd (hb.mp z) (by decide +kernel), fun _ => run_nx ?_⟩)))))
    refine run_seq (run_if (pb_test (p_eqS (p_var rfl (p_str fun b hb => ⟨fun _ => ?_, fun z => absurd (hb.mpr (by decide +kernel)) (by rw [z]; decide)⟩)))))
    exact run_ret (p_flsN (p_xTime XX.xf XX.t4 (p_var rfl ⟨_, rfl, rfl⟩)))
  | pl =>
    refine run_seq (run_if (pb_test (p_inSS (p_var rfl ⟨fun z => absurd z (by decide +kernel), fun _ => run_nx ?_⟩))))
    refine run_seq (run_if (pb_test (p_eqS (p_var rfl (p_str fun b hb => ⟨fun z => absurd (hb.mp z) (by decide +kernel), fun _ => run_nx ?_⟩)))))
    refine run_seq (run_if (pb_test (p_eqS (p_var rfl (p_str fun b hb => ⟨fun z => absurd (hb.mp z) (by decide +kernel), fun _ => run_nx ?_⟩)))))
    refine run_seq (run_if (pb_test (p_eqS (p_var rfl (p_str fun b hb => ⟨fun z => absurd (hb.mp z) (by decide +kernel), fun _ => run_nx ?_⟩)))))
    exact run_ret (p_if (pb_test (p_eqS (p_var rfl (p_str fun b hb => ⟨fun _ => p_flsN (p_xPlace XX.xf XX.q6 (p_var rfl ⟨_, rfl, rfl⟩)), fun z => absurd (hb.mpr (by decide +kernel)) (by rw [z]; decide)⟩)))))
  | no =>
    refine run_seq (run_if (pb_test (p_inSS (p_var rfl ⟨fun z => absurd z (by decide +kernel), fun _ => run_nx ?_⟩))))
    refine run_seq (run_if (pb_test (p_eqS (p_var rfl (p_str fun b hb => ⟨fun z => absurd (hb.mp z) (by decide +kernel), fun _ => run_nx ?_⟩)))))
    refine run_seq (run_if (pb_test (p_eqS (p_var rfl (p_str fun b hb => ⟨fun z => absurd (hb.mp z) (by decide +kernel), fun _ => run_nx ?_⟩)))))
    refine run_seq (run_if (pb_test (p_eqS (p_var rfl (p_str fun b hb => ⟨fun z => absurd (hb.mp z) (by decide +kernel), fun _ => run_nx ?_⟩)))))
    exact run_ret (p_if (pb_test (p_eqS (p_var rfl (p_str fun b hb => ⟨fun z => absurd (hb.mp z) (by decide +kernel), fun _ => p_fls0 rfl⟩)))))
abbrev spXClasses (cl : Nat → Addr) : Sp := pf1 (TErr cl) (TLst TStr) (fun _ => True) fun x z => z = [nmX x.1]
theorem ok_xclasses {f : Addr} {fd : FuncData} (T : Bi mg) (hZip : mg "zip" = none) (Dd : Df K mg "_law_classes" sXClasses ["_law_e"] f fd) (XX : XCs K mg cl fi) : FnOk P w K mg base CX0 1 f fd ["_law_e"] (spXClasses cl) := by
  refine Dd.F.ok scXClasses (fun vs H Q E h => len1 h) (fun cdv A outer s H vs Q E hr h => ?_)
  refine ⟨_, (pss_cons (ps_set (i := 1) scXClasses.nd rfl (Or.inl rfl) (pe_lst (pa_cons (pe_callB call_isX (by rfl) (T.of "isinstance") (by decide +kernel) (pa_cons (pv 0) (pa_cons (pe_glob (v := .ref (cl 0)) rfl (XX.m 0 (by decide)) rfl) pa_nil))) (pa_cons (pe_callB call_isX (by rfl) (T.of "isinstance") (by decide +kernel) (pa_cons (pv 0) (pa_cons (pe_glob (v := .ref (cl 1)) rfl (XX.m 1 (by decide)) rfl) pa_nil))) (pa_cons (pe_callB call_isX (by rfl) (T.of "isinstance") (by decide +kernel) (pa_cons (pv 0) (pa_cons (pe_glob (v := .ref (cl 2)) rfl (XX.m 2 (by decide)) rfl) pa_nil))) (pa_cons (pe_callB call_isX (by rfl) (T.of "isinstance") (by decide +kernel) (pa_cons (pv 0) (pa_cons (pe_glob (v := .ref (cl 3)) rfl (XX.m 3 (by decide)) rfl) pa_nil))) pa_nil))))))
    (pss_cons (ps_set (i := 1) scXClasses.nd rfl (Or.inl rfl) (pe_op op_cat (pv 1) (pe_lst (pa_cons (pe_callB call_isX (by rfl) (T.of "isinstance") (by decide +kernel) (pa_cons (pv 0) (pa_cons (pe_glob (v := .ref (cl 4)) rfl (XX.m 4 (by decide)) rfl) pa_nil))) (pa_cons (pe_callB call_isX (by rfl) (T.of "isinstance") (by decide +kernel) (pa_cons (pv 0) (pa_cons (pe_glob (v := .ref (cl 5)) rfl (XX.m 5 (by decide)) rfl) pa_nil))) (pa_cons (pe_callB call_isX (by rfl) (T.of "isinstance") (by decide +kernel) (pa_cons (pv 0) (pa_cons (pe_glob (v := .ref (cl 6)) rfl (XX.m 6 (by decide)) rfl) pa_nil))) pa_nil))))))
    (pss_cons (ps_set (i := 2) scXClasses.nd rfl (Or.inl rfl) (pe_lst (pa_cons pe_str (pa_cons pe_str (pa_cons pe_str (pa_cons pe_str (pa_cons pe_str (pa_cons pe_str (pa_cons pe_str pa_nil)))))))))
    (pss_one (ps_ret (pe_lc (own := [("_law_name_so", 3), ("_law_mark", 4)]) (g := gTup K 2 (gCons (gName 3) (gCons (gName 4) gNil))) (tt := _) rfl scXClasses.nd (pi_zip rfl hZip (pa_cons (pv 2) (pa_cons (pv 1) pa_nil))) (blkOk_by (N := nXClasses) (sc := defScope sXClasses) (by decide +kernel)) (fun _ _ _ _ _ => pg_tup rfl (pgs_cons (pg_name (i := 3) scXClasses.nd rfl (Or.inl rfl) (Or.inr rfl)) (pgs_cons (pg_name (i := 4) scXClasses.nd rfl (Or.inl rfl) (Or.inr rfl)) pgs_nil))) (fun _ _ _ _ _ => pts_one (pt_val (pv 4))) (fun _ _ _ _ _ => (pv 3)))))))), ?_⟩
  refine enter1 h (Γ0 := [.un, .un, .un, .un]) rfl fun c x _ => ?_
  have isE : ∀ {j : Nat} {m : Bool} {c : WCtx} {Γ : List WSlot} {X : Bool → Prop}, j < 7 → Γ[0]? = some (.val (TErr cl) x) → X (decide (x.1 = j)) → TP.P m c Γ (tCB (rIsX K) (tCons (tVar 0) (tCons (tC (.ref (cl j))) tNil))) TBool X := fun {j m c Γ X} hj h0 hx => p_isE (b := fun k => decide (k = j)) XX.ec (fun u r => r) (fun k hk => XX.is' k j hk hj) (p_var h0 hx)
  refine run_seq (run_asg (TLst TBool) (p_lst (pl_cons (isE (j := 0) (by decide) rfl (pl_cons (isE (j := 1) (by decide) rfl (pl_cons (isE (j := 2) (by decide) rfl (pl_cons (isE (j := 3) (by decide) rfl (pl_nil ⟨(by show 4 ≤ sizeLine; decide), ?_⟩)))))))))))
  dsimp only [List.set]
  refine run_seq (run_asg (TLst TBool) (p_cat (p_var rfl (p_lst (pl_cons (isE (j := 4) (by decide) rfl (pl_cons (isE (j := 5) (by decide) rfl (pl_cons (isE (j := 6) (by decide) rfl (pl_nil ⟨(by show 3 ≤ sizeLine; decide), (by show 4 + 3 ≤ sizeLine; decide), ?_⟩)))))))))))
  dsimp only [List.set]
  refine run_seq (run_asg (TLst TStr) (p_lst (pl_cons (p_str (pl_cons (p_str (pl_cons (p_str (pl_cons (p_str (pl_cons (p_str (pl_cons (p_str (pl_cons (p_str (pl_nil ⟨(by show 7 ≤ sizeLine; decide), ?_⟩)))))))))))))))))
  dsimp only [List.set]
  refine run_asV (i := 0) (U := TErr cl) (fun y => y = x ∧ x.1 < 7) rfl (fun S H v r => ⟨x, r, rfl, ?_⟩) fun y hy => ?_
  · obtain ⟨a, fs, _, _, _, r⟩ := r
    exact r.lt
  obtain ⟨rfl, hlt⟩ := hy
  dsimp only [List.set]
  refine run_ret (p_lc (T := TPair TStr TBool) (U := TStr) tgt2 rfl (by decide) (pit_zip (p_var rfl (p_var rfl ⟨rfl, fun _ q o => o = (if q.2 then some q.1 else none), fun c' i q hq => ?_, fun os ho => ?_⟩))))
  · refine pb_val (p_var rfl ⟨fun z => p_var rfl ?_, fun z => ?_⟩)
    · show some q.1 = _
      rw [if_pos z]
    · show none = if q.2 = true then some q.1 else none
      rw [z]; rfl
  · have e : os.filterMap id = [nmX y.1] := by
      obtain ⟨k, fd⟩ := y
      dsimp only at hlt ho ⊢
      have hmap : ∀ (xs : List (Str × Bool)) (os : List (Option Str)), LcRel (fun _ q o => o = (if q.2 then some q.1 else none)) xs os → os.filterMap id = xs.filterMap fun q => if q.2 then some q.1 else none := fun xs os h => by
        obtain ⟨h1, h2⟩ := h
        have e : os = xs.map fun q => if q.2 then some q.1 else none := List.ext_getElem (by rw [h1, List.length_map]) fun i a b => by
          have hx : i < xs.length := by rw [← h1]; exact a
          have z := h2 i _ _ (List.getElem?_eq_getElem hx) (List.getElem?_eq_getElem a)
          rw [List.getElem_map]
          exact z
        rw [e, List.filterMap_map]
        rfl
      rw [hmap _ _ ho]
      match k, hlt with
      | 0, _ => rfl
      | 1, _ => rfl
      | 2, _ => rfl
      | 3, _ => rfl
      | 4, _ => rfl
      | 5, _ => rfl
      | 6, _ => rfl
    exact e
end
end TP

namespace TP
open PySem PySem.Spec PyProof.Rows L2
abbrev sXRight : Stmt := topS 16
abbrev sLaw : Stmt := topS 17
abbrev nXRight : List Str := ["_law_source_here", "_law_way", "_law_word", "_law_number", "_law_e", "_law_name_so", "_law_fields_here"]
theorem scXRight : FnScope nXRight ["_law_source_here"] (defScope sXRight) := ⟨rfl, rfl, rfl, by decide +kernel, rfl, by decide +kernel, by decide +kernel⟩
abbrev nLaw : List Str := ["_law_script", "_law_cell", "_law_source_here"]
theorem scLaw : FnScope nLaw ["_law_script"] (defScope sLaw) := ⟨rfl, rfl, rfl, by decide +kernel, rfl, by decide +kernel, by decide +kernel⟩
theorem told_eq : ∀ k : Nat, toldX k = ("refused " : Str) ++ nmX k
  | 0 => by decide +kernel
  | 1 => by decide +kernel
  | 2 => by decide +kernel
  | 3 => by decide +kernel
  | 4 => by decide +kernel
  | 5 => by decide +kernel
  | n + 6 => by
    show ("refused badtext" : Str) = ("refused " : Str) ++ ("badtext" : Str)
    decide +kernel
theorem nm_len : ∀ k : Nat, (nmX k).length ≤ 12
  | 0 => by decide +kernel
  | 1 => by decide +kernel
  | 2 => by decide +kernel
  | 3 => by decide +kernel
  | 4 => by decide +kernel
  | 5 => by decide +kernel
  | n + 6 => by
    show ("badtext" : Str).length ≤ 12
    decide +kernel
def spLaw (K : PySem.W.Frag) : Sp := fun vs H Q _ => ∃ (a : Addr) (ns : List Int), vs = [.ref a] ∧ ScrAt K H a (ns.map V.int) ∧ ns.length ≤ 63 ∧ ∀ H', Q (.bl true) H'
section
variable [TabL] {P : Program} {w : World} {K : PySem.W.Frag} {mg : Str → Option Value} {base : Heap} {cl fi : Nat → Addr}
abbrev spXRight : Sp := pg0 OwRng TBool fun z => z = true
theorem ok_xright {CP : Addr} {f fp fw f1 f2 f3 : Addr} {fd dp dw d1 d2 d3 : FuncData} (T : Bi mg) (hVE : mg "ValueError" = none) (mP : mg "PatchError" = some (.ref CP)) (Dd : Df K mg "_law_right" sXRight ["_law_source_here"] f fd) (Dp : Df K mg "_law_pick" sXPick ["_law_source_here", "_law_items"] fp dp) (Dw : Df K mg "_law_draw" sXDraw ["_law_source_here", "_law_many"] fw dw) (D1 : Df K mg "_law_errors" sXErrors ["_law_way", "_law_word", "_law_number"] f1 d1) (D2 : Df K mg "_law_fields" sXFields ["_law_e", "_law_name_so"] f2 d2) (D3 : Df K mg "_law_classes" sXClasses ["_law_e"] f3 d3) (XX : XCs K mg cl fi)
    (hT : ∀ C, (∃ k, k < 7 ∧ C = cl k) → ∃ (f : Addr) (fd : FuncData), TkC K C "told" f ∧ FnOk P w K mg base CX0 1 f fd ["self"] ((fun C vs H Q _ => ∃ a : Addr, vs = [.ref a] ∧ ∀ k, k < 7 → C = cl k → Q (.str (toldX k)) H) C) ∧ Binds K fd ["self"] [])
    (hP : ∀ k, k < 7 → PySem.W.kitOne K (.ref (cl k)) (.ref CP) = some true) (hV : ∀ k, k < 7 → PySem.W.kitOne K (.ref (cl k)) (.type "ValueError") = some true) (hVP : PySem.W.kitOne K (.type "ValueError") (.ref CP) = some false)
    (gD : FnOk P w K mg base CX0 5 fw dw ["_law_source_here", "_law_many"] spDrawX) (gP : ∀ {α : Type} (U : Ty α), FnOk P w K mg base CX0 5 fp dp ["_law_source_here", "_law_items"] (spChoice U)) (g1 : FnOk P w K mg base CX0 5 f1 d1 ["_law_way", "_law_word", "_law_number"] (spXErrors cl)) (g2 : FnOk P w K mg base CX0 5 f2 d2 ["_law_e", "_law_name_so"] (spXFields cl)) (g3 : FnOk P w K mg base CX0 5 f3 d3 ["_law_e"] (spXClasses cl)) : FnOk P w K mg base CX0 6 f fd ["_law_source_here"] spXRight := by
  have hinj : ∀ k j, k < 7 → j < 7 → cl k = cl j → k = j := fun k j hk hj e => by
    have z := XX.is' k j hk hj
    have y := XX.is' k k hk hk
    rw [← e] at z
    rw [y] at z
    have := Option.some.inj z
    rw [decide_eq_true rfl] at this
    exact of_decide_eq_true this.symm
  refine Dd.F.ok scXRight (fun vs H Q E h => leng0 h) (fun cdv A outer s0 H vs Q E hr h => ?_)
  refine ⟨_, (pss_cons (ps_set (i := 1) scXRight.nd rfl (Or.inl rfl) (pe_call (gP (TTup TStr)) hr rfl Dp.m Dp.F.kp Dp.b .nil pass0 (pa_cons (pv 0) (pa_cons (pe_lst (pa_cons (pe_tup pa_nil) (pa_cons (pe_tup (pa_cons pe_str pa_nil)) (pa_cons (pe_tup (pa_cons pe_str (pa_cons pe_str pa_nil))) (pa_cons (pe_op op_repT (pe_tup (pa_cons pe_str (pa_cons pe_str (pa_cons pe_str pa_nil)))) pe_int) pa_nil))))) pa_nil))))
    (pss_cons (ps_set (i := 2) scXRight.nd rfl (Or.inl rfl) (pe_call (gP TStr) hr rfl Dp.m Dp.F.kp Dp.b .nil pass0 (pa_cons (pv 0) (pa_cons (pe_lst (pa_cons pe_str (pa_cons pe_str (pa_cons pe_str (pa_cons pe_str pa_nil))))) pa_nil))))
    (pss_cons (ps_set (i := 3) scXRight.nd rfl (Or.inl rfl) (pe_call (gP TInt) hr rfl Dp.m Dp.F.kp Dp.b .nil pass0 (pa_cons (pv 0) (pa_cons (pe_lst (pa_cons pe_int (pa_cons pe_int (pa_cons (pe_un un_neg pe_int) (pa_cons (pe_op op_pow pe_int pe_int) (pa_cons (pe_call gD hr rfl Dw.m Dw.F.kp Dw.b .nil pass0 (pa_cons (pv 0) (pa_cons (pe_op op_pow pe_int pe_int) pa_nil))) pa_nil)))))) pa_nil))))
    (pss_cons (ps_for PassesOwn.never rfl (pi_list (pe_call g1 hr rfl D1.m D1.F.kp D1.b .nil pass0 (pa_cons (pv 1) (pa_cons (pv 2) (pa_cons (pv 3) pa_nil))))) (pg_tup rfl (pgs_cons (pg_name (i := 4) scXRight.nd rfl (Or.inl rfl) (Or.inr rfl)) (pgs_cons (pg_name (i := 5) scXRight.nd rfl (Or.inl rfl) (Or.inr rfl)) (pgs_cons (pg_name (i := 6) scXRight.nd rfl (Or.inl rfl) (Or.inr rfl)) pgs_nil)))) (pss_cons (ps_if (PW.pt (pw_or (pt_cmpR (op_neU hr.units) (pe_call g3 hr rfl D3.m D3.F.kp D3.b .nil pass0 (pa_cons (pv 4) pa_nil)) (pe_lst (pa_cons (pv 5) pa_nil)) (nomark _)) (pw_or (pt_not (pt_val (pe_callB call_isX (by rfl) (T.of "isinstance") (by decide +kernel) (pa_cons (pv 4) (pa_cons (pe_glob (v := .ref CP) rfl mP rfl) pa_nil))))) (pw_or1 (pt_not (pt_val (pe_callB call_isX (by rfl) (T.of "isinstance") (by decide +kernel) (pa_cons (pv 4) (pa_cons (pe_bltn (v := .ty "ValueError") (by rfl) hVE (by decide +kernel) rfl) pa_nil))))))))) (pss_one (ps_ret pe_bl)) pss_nil)
      (pss_one (ps_if (PW.pt (pw_or (pt_cmpR (op_neU hr.units) (pe_call g2 hr rfl D2.m D2.F.kp D2.b .nil pass0 (pa_cons (pv 4) (pa_cons (pv 5) pa_nil))) (pv 6) (nomark _)) (pw_or1 (pt_cmpR (op_neU hr.units) (pe_xm0 (pv 4) hT (hr.mono (by decide)) pass0) (pe_op op_add_str pe_str (pv 5)) (nomark _))))) (pss_one (ps_ret pe_bl)) pss_nil))))
    (pss_one (ps_ret (pe_not (pe_callB call_isVE (by rfl) (T.of "isinstance") (by decide +kernel) (pa_cons (pe_exbV exb_ValueError rfl hVE (by decide +kernel) (pa_cons pe_str pa_nil)) (pa_cons (pe_glob (v := .ref CP) rfl mP rfl) pa_nil)))))))))), ?_⟩
  refine enterg0 h (Γ0 := [.un, .un, .un, .un, .un, .un]) rfl fun c s => ?_
  refine run_seq (run_asg (TTup TStr) (p_g1 rfl (p_lst (pl_cons (p_tup (pl_nil ⟨(by show 0 ≤ sizeLine; decide), ?_⟩))))))
  refine pl_cons (p_tup (pl_cons (p_str (pl_nil ⟨(by show 1 ≤ sizeLine; decide), ?_⟩))))
  refine pl_cons (p_tup (pl_cons (p_str (pl_cons (p_str (pl_nil ⟨(by show 2 ≤ sizeLine; decide), ?_⟩))))))
  refine pl_cons (p_repT (p_tup (pl_cons (p_str (pl_cons (p_str (pl_cons (p_str (pl_nil ⟨(by show 3 ≤ sizeLine; decide), p_int ⟨(fun z => by cases z), by decide, by decide, (by show 3 ≤ 10; decide), ?_⟩⟩))))))))) 
  refine pl_nil ⟨(by show 4 ≤ sizeLine; decide), ⟨(by show 0 < 4; decide), (by show 4 < 1000; decide)⟩, fun p _ => ?_⟩
  dsimp only [List.set]
  refine run_seq (run_asg TStr (p_g1 rfl (p_lst (pl_cons (p_str (pl_cons (p_str (pl_cons (p_str (pl_cons (p_str (pl_nil ⟨(by show 4 ≤ sizeLine; decide), ⟨(by show 0 < 4; decide), (by show 4 < 1000; decide)⟩, fun t _ => ?_⟩))))))))))))
  dsimp only [List.set]
  refine run_seq (run_asg TInt (p_g1 rfl (p_lst (pl_cons (p_int (pl_cons (p_int (pl_cons (p_neg (p_int (pl_cons (p_I (p_int (p_int ⟨?_, ?_⟩))))))))))))))
  · exact ⟨by decide, by decide, by decide⟩
  refine pl_cons (p_g1 rfl (p_I (p_int (p_int ⟨⟨by decide, by decide, by decide⟩, ⟨⟨by decide, by decide⟩, fun y hy => ?_⟩⟩))))
  refine pl_nil ⟨(by show 5 ≤ sizeLine; decide), ⟨(by show 0 < 5; decide), (by show 5 < 1000; decide)⟩, fun i _ => ?_⟩
  dsimp only [List.set]
  refine run_seq (run_for (T := tE cl) tgt3 (pit_list (p_f3 (p_var rfl (p_var rfl (p_var rfl ⟨trivial, fun ts hts => ?_⟩))))))
  refine ⟨fun j Γ => ∃ s4 s5 s6, Γ = [.own (OwRng.pin s) false, .val (TTup TStr) p, .val TStr t, .val TInt i, s4, s5, s6], ⟨_, _, _, rfl⟩, ?_, ?_⟩
  · rintro c1 j x Γ' hx ⟨s4, s5, s6, rfl⟩
    have hg := hts x (List.mem_of_getElem? hx)
    obtain ⟨⟨k, fd'⟩, nm, fl⟩ := x
    obtain ⟨rfl, rfl⟩ := (show nm = nmX k ∧ fl = fd' from hg)
    dsimp only [List.set]
    refine run_seq (run_if (pb_or (pb_test (p_ne (T := TLst TStr) (U := TLst TStr) (n := 2) (eqt_lst eqt_str) (by decide) (p_f1 (p_var rfl ⟨trivial, fun z hz => p_lst (pl_cons (p_var rfl (pl_nil ⟨(by show 1 ≤ sizeLine; decide), fun b hb => ⟨fun hb2 => absurd hz (hb.mp hb2), fun _ => ?_⟩⟩)))⟩))))))
    refine pb_or (pb_not (pb_val (p_isE (b := fun _ => true) XX.ec (fun u r => r) hP (p_var rfl ⟨(fun z => by cases z), fun _ => ?_⟩))))
    refine pb_not (pb_val (p_isE (b := fun _ => true) XX.ec (fun u r => r) hV (p_var rfl ⟨(fun z => by cases z), fun _ => run_nx ?_⟩)))
    refine run_if (pb_or (pb_test (p_neFls (p_f2 (p_var rfl (p_var rfl ⟨rfl, fun z hz => p_var rfl ⟨hz, ⟨(fun z => by cases z), fun _ => ?_⟩⟩⟩))))))
    refine pb_test (p_neS (p_toldE hinj (p_var rfl (p_addS (p_str (p_var rfl ⟨?_, fun b hb => ⟨fun hb2 => absurd (told_eq k) (hb.mp hb2), fun _ => run_nx ⟨_, _, _, rfl⟩⟩⟩))))))
    have := nm_len k
    exact Nat.le_trans (show 8 + (nmX k).length ≤ 20 by omega) (by decide)
  · rintro Γ' ⟨s4, s5, s6, rfl⟩
    exact run_ret (p_notM (p_isVE (fun u r => r) hVP (p_str ⟨ownIs_self, rfl⟩)))
theorem ok_law {f f1 f2 : Addr} {fd d1 d2 : FuncData} (T : Bi mg) (hTab : ∀ b q, ¬ TabL.R b q) (Dlw : Df K mg "law" sLaw ["_law_script"] f fd) (D1 : Df K mg "_law_source" sXSource ["_law_cell"] f1 d1) (D2 : Df K mg "_law_right" sXRight ["_law_source_here"] f2 d2)
    (g1 : FnOk P w K mg base CX0 6 f1 d1 ["_law_cell"] spState) (g2 : FnOk P w K mg base CX0 6 f2 d2 ["_law_source_here"] spXRight) : FnOkG P w K mg base CX0 7 f fd ["_law_script"] (spLaw K) := by
  refine okG Dlw.F scLaw (fun vs H Q E h => ?_) (fun cdv A outer s0 H vs Q E hg hr h => ?_)
  · obtain ⟨a, ns, rfl, _⟩ := h
    rfl
  have h : pf1 (TScr K) TBool (fun ns => ns.length ≤ 63) (fun _ z => z = true) vs H Q E := by
    obtain ⟨a, ns, rfl, ⟨its, r, l, z⟩, hlen, k⟩ := h
    exact ⟨fun _ => True, .ref a, ns, rfl, fun b q hb => absurd hb (hTab b q), ⟨a, its, rfl, r, l, z.imp id fun z => ⟨trivial, z⟩⟩, hlen, fun r z H' x w hz => by
      subst hz
      rw [show r = .bl true from w]
      exact k H'⟩
  refine ⟨_, (pss_cons (ps_for PassesOwn.never rfl (pi_list (pe_slice sl_list (pe_op op_catScr (pv 0) (pe_lst (pa_cons pe_int pa_nil))) po_none (po_some pe_int))) (pg_name (i := 1) scLaw.nd rfl (Or.inl rfl)) (pss_cons (ps_set (i := 2) scLaw.nd rfl (Or.inl rfl) (pe_call g1 hr rfl D1.m D1.F.kp D1.b .nil pass0 (pa_cons (pv 1) pa_nil)))
      (pss_one (ps_if (pt_not (pt_val (pe_call g2 hr rfl D2.m D2.F.kp D2.b .nil pass0 (pa_cons (pv 2) pa_nil)))) (pss_one (ps_ret pe_bl)) pss_nil))))
    (pss_one (ps_ret pe_bl))), ?_⟩
  refine enter1 h (Γ0 := [.un, .un]) rfl fun c ns hlen => ?_
  refine run_seq (run_for (T := TInt) tgt1 (pit_list (p_slL (p_catScr rfl (po_no (po_so (p_int ?_)))))))
  refine ⟨fun j Γ => ∃ s1 s2, Γ = [.val (TScr K) ns, s1, s2], ⟨_, _, rfl⟩, ?_, ?_⟩
  · rintro c1 j x Γ' hx ⟨s1, s2, rfl⟩
    dsimp only [List.set]
    refine run_seq (run_asgN (pn_state (p_var rfl fun p => ?_)))
    dsimp only [List.set]
    exact run_if (pb_not (pb_val (p_g0 rfl fun z hz => by subst hz; exact ⟨(fun z => by cases z), fun _ => run_nx ⟨_, _, rfl⟩⟩)))
  · rintro Γ' ⟨s1, s2, rfl⟩
    exact run_ret (p_bl rfl)
end
end TP

namespace TP
open PySem PySem.Spec PyProof.Rows L2
def clOf (a0 a1 a2 a3 a4 a5 a6 : Addr) : Nat → Addr | 0 => a0 | 1 => a1 | 2 => a2 | 3 => a3 | 4 => a4 | 5 => a5 | _ => a6
theorem all7 {p : Nat → Prop} (h0 : p 0) (h1 : p 1) (h2 : p 2) (h3 : p 3) (h4 : p 4) (h5 : p 5) (h6 : p 6) : ∀ k, k < 7 → p k
  | 0, _ => h0
  | 1, _ => h1
  | 2, _ => h2
  | 3, _ => h3
  | 4, _ => h4
  | 5, _ => h5
  | 6, _ => h6
  | n + 7, h => absurd h (by omega)
theorem all6 {p : Nat → Prop} (h0 : p 0) (h1 : p 1) (h2 : p 2) (h3 : p 3) (h4 : p 4) (h6 : p 6) : ∀ k, k < 7 → k ≠ 5 → p k
  | 0, _, _ => h0
  | 1, _, _ => h1
  | 2, _, _ => h2
  | 3, _, _ => h3
  | 4, _, _ => h4
  | 5, _, n => absurd rfl n
  | 6, _, _ => h6
  | n + 7, h, _ => absurd h (by omega)
theorem kbx1 {fd : FuncData} {ps : List Str} {K : PySem.W.Frag} {k1 : Str} (h : ∀ (s : Shared) (u a : Value), K.In s.heap → BindsTo s fd ⟨[u], [(k1, a)]⟩ (ps.zip [u, a])) : KBn K fd ps 1 [k1] (fun us ws => us ++ ws.reverse) gVr where
  to := fun s us ws X l1 l2 => match us, ws, l1, l2 with
    | [u], [a], _, _ => h s u a X
  rel := fun r rz => r.append rz.reverse
theorem kbx2 {fd : FuncData} {ps : List Str} {K : PySem.W.Frag} {k1 k2 : Str} (h : ∀ (s : Shared) (u a b : Value), K.In s.heap → BindsTo s fd ⟨[u], [(k1, a), (k2, b)]⟩ (ps.zip [u, b, a])) : KBn K fd ps 1 [k1, k2] (fun us ws => us ++ ws.reverse) gVr where
  to := fun s us ws X l1 l2 => match us, ws, l1, l2 with
    | [u], [a, b], _, _ => h s u a b X
  rel := fun r rz => r.append rz.reverse
theorem told_imp {P : Program} {w : World} {K : PySem.W.Frag} {mg : Str → Option Value} {base : Heap} {cl : Nat → Addr} {f : Addr} {fd : FuncData} {k : Nat} (hk : k < 7) (F : FnOk P w K mg base CX0 1 f fd ["self"] (spTold (toldX k))) : FnOk P w K mg base CX0 1 f fd ["self"] ((fun C vs H Q _ => ∃ a : Addr, vs = [.ref a] ∧ ∀ j, j < 7 → C = cl j → Q (.str (toldX j)) H) (cl k)) := F.imp fun vs H Q E h => by
  obtain ⟨a, rfl, q⟩ := h
  exact ⟨a, rfl, q k hk rfl⟩
end TP

namespace TP
open PySem PySem.Spec PyProof.Rows L2
instance : TabL := ⟨fun _ _ => False, fun _ _ _ h _ => h.elim⟩
theorem all_mk {l : PySem.W.OpenLaw} {w : World} {K : PySem.W.Frag} {h : Heap} {mg : Str → Option Value} {fa f0 f1 f2 f3 f4 f5 f6 f7 : Addr} (X : K.In h) (G : h.Ns mainGlobals mg) (hfa : mg "law" = some (.ref fa))
    {od0 an0 od1 an1 od2 an2 od3 an3 od4 an4 od5 an5 od6 an6 od7 an7 : Option Addr} {sl0 sl1 sl2 sl3 sl4 sl5 sl6 sl7 : Array (Option Value)} {oc0 kV0 dc0 pm0 cd0 ct0 oc1 kV1 dc1 pm1 cd1 ct1 oc2 kV2 dc2 pm2 cd2 ct2 oc3 kV3 dc3 pm3 cd3 ct3 oc4 kV4 dc4 pm4 cd4 ct4 oc5 kV5 dc5 pm5 cd5 ct5 oc6 kV6 dc6 pm6 cd6 ct6 oc7 kV7 dc7 pm7 cd7 ct7 : Value}
    (a0 : PySem.W.nsIn K mainGlobals "_law_source" = some (some (.ref f0))) (l0 : K.lookup f0 = some ⟨oc0, od0, .func (PySem.W.fnOf "_law_source" "_law_source" (defArgs sXSource) (defBody sXSource) (defScope sXSource) .none kV0 dc0 pm0 an0 cd0 ct0), sl0⟩) (c0 : PySem.W.codeIn K cd0 "_law_source" = true) (k0 : PySem.W.keepIn K (.ref f0) = true)
    (a1 : PySem.W.nsIn K mainGlobals "_law_draw" = some (some (.ref f1))) (l1 : K.lookup f1 = some ⟨oc1, od1, .func (PySem.W.fnOf "_law_draw" "_law_draw" (defArgs sXDraw) (defBody sXDraw) (defScope sXDraw) .none kV1 dc1 pm1 an1 cd1 ct1), sl1⟩) (c1 : PySem.W.codeIn K cd1 "_law_draw" = true) (k1 : PySem.W.keepIn K (.ref f1) = true)
    (a2 : PySem.W.nsIn K mainGlobals "_law_pick" = some (some (.ref f2))) (l2 : K.lookup f2 = some ⟨oc2, od2, .func (PySem.W.fnOf "_law_pick" "_law_pick" (defArgs sXPick) (defBody sXPick) (defScope sXPick) .none kV2 dc2 pm2 an2 cd2 ct2), sl2⟩) (c2 : PySem.W.codeIn K cd2 "_law_pick" = true) (k2 : PySem.W.keepIn K (.ref f2) = true)
    (a3 : PySem.W.nsIn K mainGlobals "_law_errors" = some (some (.ref f3))) (l3 : K.lookup f3 = some ⟨oc3, od3, .func (PySem.W.fnOf "_law_errors" "_law_errors" (defArgs sXErrors) (defBody sXErrors) (defScope sXErrors) .none kV3 dc3 pm3 an3 cd3 ct3), sl3⟩) (c3 : PySem.W.codeIn K cd3 "_law_errors" = true) (k3 : PySem.W.keepIn K (.ref f3) = true)
    (a4 : PySem.W.nsIn K mainGlobals "_law_fields" = some (some (.ref f4))) (l4 : K.lookup f4 = some ⟨oc4, od4, .func (PySem.W.fnOf "_law_fields" "_law_fields" (defArgs sXFields) (defBody sXFields) (defScope sXFields) .none kV4 dc4 pm4 an4 cd4 ct4), sl4⟩) (c4 : PySem.W.codeIn K cd4 "_law_fields" = true) (k4 : PySem.W.keepIn K (.ref f4) = true)
    (a5 : PySem.W.nsIn K mainGlobals "_law_classes" = some (some (.ref f5))) (l5 : K.lookup f5 = some ⟨oc5, od5, .func (PySem.W.fnOf "_law_classes" "_law_classes" (defArgs sXClasses) (defBody sXClasses) (defScope sXClasses) .none kV5 dc5 pm5 an5 cd5 ct5), sl5⟩) (c5 : PySem.W.codeIn K cd5 "_law_classes" = true) (k5 : PySem.W.keepIn K (.ref f5) = true)
    (a6 : PySem.W.nsIn K mainGlobals "_law_right" = some (some (.ref f6))) (l6 : K.lookup f6 = some ⟨oc6, od6, .func (PySem.W.fnOf "_law_right" "_law_right" (defArgs sXRight) (defBody sXRight) (defScope sXRight) .none kV6 dc6 pm6 an6 cd6 ct6), sl6⟩) (c6 : PySem.W.codeIn K cd6 "_law_right" = true) (k6 : PySem.W.keepIn K (.ref f6) = true)
    (a7 : PySem.W.nsIn K mainGlobals "law" = some (some (.ref f7))) (l7 : K.lookup f7 = some ⟨oc7, od7, .func (PySem.W.fnOf "law" "law" (defArgs sLaw) (defBody sLaw) (defScope sLaw) .none kV7 dc7 pm7 an7 cd7 ct7), sl7⟩) (c7 : PySem.W.codeIn K cd7 "law" = true) (k7 : PySem.W.keepIn K (.ref f7) = true)
    (z0 : PySem.W.nsIn K mainGlobals "isinstance" = some none)
    (z1 : PySem.W.nsIn K mainGlobals "dict" = some none)
    (z2 : PySem.W.nsIn K mainGlobals "list" = some none)
    (z3 : PySem.W.nsIn K mainGlobals "int" = some none)
    (z4 : PySem.W.nsIn K mainGlobals "str" = some none)
    (z5 : PySem.W.nsIn K mainGlobals "bool" = some none)
    (z6 : PySem.W.nsIn K mainGlobals "sorted" = some none)
    (z7 : PySem.W.nsIn K mainGlobals "sum" = some none)
    (z8 : PySem.W.nsIn K mainGlobals "max" = some none)
    (z9 : PySem.W.nsIn K mainGlobals "all" = some none)
    (z10 : PySem.W.nsIn K mainGlobals "len" = some none)
    (z11 : PySem.W.nsIn K mainGlobals "range" = some none)
    (z12 : PySem.W.nsIn K mainGlobals "abs" = some none)
    (z13 : PySem.W.nsIn K mainGlobals "repr" = some none)
    (z14 : PySem.W.nsIn K mainGlobals "tuple" = some none)
    (z15 : PySem.W.nsIn K mainGlobals "zip" = some none)
    (z16 : PySem.W.nsIn K mainGlobals "ValueError" = some none)
    {CP C0 f0t f0i C1 f1t f1i C2 f2t f2i C3 f3t f3i C4 f4t f4i C5 f5t  C6 f6t f6i : Addr}
    {od0t an0t : Option Addr} {sl0t : Array (Option Value)} {oc0t kV0t dc0t pm0t cd0t ct0t : Value}
    {N0x : Addr} {nm0x q0x : Str} {bs0x bm0x su0x : List Value} {sn0x : List Str} {ab0x : Bool} {co0x : Option Bool} {dd0x : Option Addr} {k00x k10x k20x k30x k50x : Option Value}
    {od0i an0i : Option Addr} {sl0i : Array (Option Value)} {oc0i kV0i dc0i pm0i cd0i ct0i : Value}
    {od1t an1t : Option Addr} {sl1t : Array (Option Value)} {oc1t kV1t dc1t pm1t cd1t ct1t : Value}
    {N1x : Addr} {nm1x q1x : Str} {bs1x bm1x su1x : List Value} {sn1x : List Str} {ab1x : Bool} {co1x : Option Bool} {dd1x : Option Addr} {k01x k11x k21x k31x k51x : Option Value}
    {od1i an1i : Option Addr} {sl1i : Array (Option Value)} {oc1i kV1i dc1i pm1i cd1i ct1i : Value}
    {od2t an2t : Option Addr} {sl2t : Array (Option Value)} {oc2t kV2t dc2t pm2t cd2t ct2t : Value}
    {N2x : Addr} {nm2x q2x : Str} {bs2x bm2x su2x : List Value} {sn2x : List Str} {ab2x : Bool} {co2x : Option Bool} {dd2x : Option Addr} {k02x k12x k22x k32x k52x : Option Value}
    {od2i an2i : Option Addr} {sl2i : Array (Option Value)} {oc2i kV2i dc2i pm2i cd2i ct2i : Value}
    {od3t an3t : Option Addr} {sl3t : Array (Option Value)} {oc3t kV3t dc3t pm3t cd3t ct3t : Value}
    {N3x : Addr} {nm3x q3x : Str} {bs3x bm3x su3x : List Value} {sn3x : List Str} {ab3x : Bool} {co3x : Option Bool} {dd3x : Option Addr} {k03x k13x k23x k33x k53x : Option Value}
    {od3i an3i : Option Addr} {sl3i : Array (Option Value)} {oc3i kV3i dc3i pm3i cd3i ct3i : Value}
    {od4t an4t : Option Addr} {sl4t : Array (Option Value)} {oc4t kV4t dc4t pm4t cd4t ct4t : Value}
    {N4x : Addr} {nm4x q4x : Str} {bs4x bm4x su4x : List Value} {sn4x : List Str} {ab4x : Bool} {co4x : Option Bool} {dd4x : Option Addr} {k04x k14x k24x k34x k54x : Option Value}
    {od4i an4i : Option Addr} {sl4i : Array (Option Value)} {oc4i kV4i dc4i pm4i cd4i ct4i : Value}
    {od5t an5t : Option Addr} {sl5t : Array (Option Value)} {oc5t kV5t dc5t pm5t cd5t ct5t : Value}
    {od6t an6t : Option Addr} {sl6t : Array (Option Value)} {oc6t kV6t dc6t pm6t cd6t ct6t : Value}
    {N6x : Addr} {nm6x q6x : Str} {bs6x bm6x su6x : List Value} {sn6x : List Str} {ab6x : Bool} {co6x : Option Bool} {dd6x : Option Addr} {k06x k16x k26x k36x k56x : Option Value}
    {od6i an6i : Option Addr} {sl6i : Array (Option Value)} {oc6i kV6i dc6i pm6i cd6i ct6i : Value}
    (aP : PySem.W.nsIn K mainGlobals "PatchError" = some (some (.ref CP)))
    (a0x : PySem.W.nsIn K mainGlobals "NoDocument" = some (some (.ref C0)))
    (a1x : PySem.W.nsIn K mainGlobals "Large" = some (some (.ref C1)))
    (a2x : PySem.W.nsIn K mainGlobals "BadCount" = some (some (.ref C2)))
    (a3x : PySem.W.nsIn K mainGlobals "NoChange" = some (some (.ref C3)))
    (a4x : PySem.W.nsIn K mainGlobals "NoTime" = some (some (.ref C4)))
    (a5x : PySem.W.nsIn K mainGlobals "NoBack" = some (some (.ref C5)))
    (a6x : PySem.W.nsIn K mainGlobals "BadText" = some (some (.ref C6)))
    (icN : PySem.W.specialIn K (.builtin "object.__class__") "__get__" = some (some (.builtin "getset_descriptor.__get__")))
    (icT : PySem.W.takesIn K (.builtin "object.__class__") = some true)
    (ex0x : PySem.W.subIn K (.ref C0) (.type "BaseException") = some true)
    (kp0x : PySem.W.keepIn K (.ref C0) = true)
    (ga0x : PySem.W.findIn K (.ref C0) "__getattribute__" = some (some (.builtin "BaseException.__getattribute__")))
    (gg0x : PySem.W.findIn K (.ref C0) "__getattr__" = some none)
    (hd0x : PySem.W.hasDictIn K C0 = true)
    (icA0x : PySem.W.findIn K (.ref C0) "__class__" = some (some (.builtin "object.__class__")))
    (icM0x : PySem.W.mroIn K C0 (.type "object") = some true)
    (tf0x : PySem.W.findIn K (.ref C0) "told" = some (some (.ref f0t)))
    (tt0x : PySem.W.typeIn K (.ref f0t) = some (.type "function"))
    (l0t : K.lookup f0t = some ⟨oc0t, od0t, .func (PySem.W.fnOf "told" "NoDocument.told" (defArgs sEt0) (defBody sEt0) (defScope sEt0) .none kV0t dc0t pm0t an0t cd0t ct0t), sl0t⟩)
    (c0t : PySem.W.codeIn K cd0t "NoDocument.told" = true)
    (k0t : PySem.W.keepIn K (.ref f0t) = true)
    (sa0x : PySem.W.findIn K (.ref C0) "__setattr__" = some (some (.builtin "object.__setattr__")))
    (ty0x : PySem.W.typeIn K (.ref C0) = some (.type "type"))
    (in0x : PySem.W.findIn K (.ref C0) "__init__" = some (some (.ref f0i)))
    (ti0x : PySem.W.typeIn K (.ref f0i) = some (.type "function"))
    (no0x_path : PySem.W.findIn K (.ref C0) "path" = some none)
    (lk0x : K.lookup C0 = some (excClassObj nm0x q0x C0 N0x bs0x bm0x true sn0x su0x ab0x co0x dd0x k00x k10x k20x k30x k50x "ValueError.__new__"))
    (rv0x : PySem.HandSPX.refsVE bm0x = true)
    (l0i : K.lookup f0i = some ⟨oc0i, od0i, .func (PySem.W.fnOf "__init__" "NoDocument.__init__" (defArgs sEi0) (defBody sEi0) (defScope sEi0) .none kV0i dc0i pm0i an0i cd0i ct0i), sl0i⟩)
    (c0i : PySem.W.codeIn K cd0i "NoDocument.__init__" = true)
    (k0i : PySem.W.keepIn K (.ref f0i) = true)
    (ex1x : PySem.W.subIn K (.ref C1) (.type "BaseException") = some true)
    (kp1x : PySem.W.keepIn K (.ref C1) = true)
    (ga1x : PySem.W.findIn K (.ref C1) "__getattribute__" = some (some (.builtin "BaseException.__getattribute__")))
    (gg1x : PySem.W.findIn K (.ref C1) "__getattr__" = some none)
    (hd1x : PySem.W.hasDictIn K C1 = true)
    (icA1x : PySem.W.findIn K (.ref C1) "__class__" = some (some (.builtin "object.__class__")))
    (icM1x : PySem.W.mroIn K C1 (.type "object") = some true)
    (tf1x : PySem.W.findIn K (.ref C1) "told" = some (some (.ref f1t)))
    (tt1x : PySem.W.typeIn K (.ref f1t) = some (.type "function"))
    (l1t : K.lookup f1t = some ⟨oc1t, od1t, .func (PySem.W.fnOf "told" "Large.told" (defArgs sEt1) (defBody sEt1) (defScope sEt1) .none kV1t dc1t pm1t an1t cd1t ct1t), sl1t⟩)
    (c1t : PySem.W.codeIn K cd1t "Large.told" = true)
    (k1t : PySem.W.keepIn K (.ref f1t) = true)
    (sa1x : PySem.W.findIn K (.ref C1) "__setattr__" = some (some (.builtin "object.__setattr__")))
    (ty1x : PySem.W.typeIn K (.ref C1) = some (.type "type"))
    (in1x : PySem.W.findIn K (.ref C1) "__init__" = some (some (.ref f1i)))
    (ti1x : PySem.W.typeIn K (.ref f1i) = some (.type "function"))
    (no1x_what : PySem.W.findIn K (.ref C1) "what" = some none)
    (lk1x : K.lookup C1 = some (excClassObj nm1x q1x C1 N1x bs1x bm1x true sn1x su1x ab1x co1x dd1x k01x k11x k21x k31x k51x "ValueError.__new__"))
    (rv1x : PySem.HandSPX.refsVE bm1x = true)
    (l1i : K.lookup f1i = some ⟨oc1i, od1i, .func (PySem.W.fnOf "__init__" "Large.__init__" (defArgs sEi1) (defBody sEi1) (defScope sEi1) .none kV1i dc1i pm1i an1i cd1i ct1i), sl1i⟩)
    (c1i : PySem.W.codeIn K cd1i "Large.__init__" = true)
    (k1i : PySem.W.keepIn K (.ref f1i) = true)
    (ex2x : PySem.W.subIn K (.ref C2) (.type "BaseException") = some true)
    (kp2x : PySem.W.keepIn K (.ref C2) = true)
    (ga2x : PySem.W.findIn K (.ref C2) "__getattribute__" = some (some (.builtin "BaseException.__getattribute__")))
    (gg2x : PySem.W.findIn K (.ref C2) "__getattr__" = some none)
    (hd2x : PySem.W.hasDictIn K C2 = true)
    (icA2x : PySem.W.findIn K (.ref C2) "__class__" = some (some (.builtin "object.__class__")))
    (icM2x : PySem.W.mroIn K C2 (.type "object") = some true)
    (tf2x : PySem.W.findIn K (.ref C2) "told" = some (some (.ref f2t)))
    (tt2x : PySem.W.typeIn K (.ref f2t) = some (.type "function"))
    (l2t : K.lookup f2t = some ⟨oc2t, od2t, .func (PySem.W.fnOf "told" "BadCount.told" (defArgs sEt2) (defBody sEt2) (defScope sEt2) .none kV2t dc2t pm2t an2t cd2t ct2t), sl2t⟩)
    (c2t : PySem.W.codeIn K cd2t "BadCount.told" = true)
    (k2t : PySem.W.keepIn K (.ref f2t) = true)
    (sa2x : PySem.W.findIn K (.ref C2) "__setattr__" = some (some (.builtin "object.__setattr__")))
    (ty2x : PySem.W.typeIn K (.ref C2) = some (.type "type"))
    (in2x : PySem.W.findIn K (.ref C2) "__init__" = some (some (.ref f2i)))
    (ti2x : PySem.W.typeIn K (.ref f2i) = some (.type "function"))
    (no2x_what : PySem.W.findIn K (.ref C2) "what" = some none)
    (no2x_count : PySem.W.findIn K (.ref C2) "count" = some none)
    (lk2x : K.lookup C2 = some (excClassObj nm2x q2x C2 N2x bs2x bm2x true sn2x su2x ab2x co2x dd2x k02x k12x k22x k32x k52x "ValueError.__new__"))
    (rv2x : PySem.HandSPX.refsVE bm2x = true)
    (l2i : K.lookup f2i = some ⟨oc2i, od2i, .func (PySem.W.fnOf "__init__" "BadCount.__init__" (defArgs sEi2) (defBody sEi2) (defScope sEi2) .none kV2i dc2i pm2i an2i cd2i ct2i), sl2i⟩)
    (c2i : PySem.W.codeIn K cd2i "BadCount.__init__" = true)
    (k2i : PySem.W.keepIn K (.ref f2i) = true)
    (ex3x : PySem.W.subIn K (.ref C3) (.type "BaseException") = some true)
    (kp3x : PySem.W.keepIn K (.ref C3) = true)
    (ga3x : PySem.W.findIn K (.ref C3) "__getattribute__" = some (some (.builtin "BaseException.__getattribute__")))
    (gg3x : PySem.W.findIn K (.ref C3) "__getattr__" = some none)
    (hd3x : PySem.W.hasDictIn K C3 = true)
    (icA3x : PySem.W.findIn K (.ref C3) "__class__" = some (some (.builtin "object.__class__")))
    (icM3x : PySem.W.mroIn K C3 (.type "object") = some true)
    (tf3x : PySem.W.findIn K (.ref C3) "told" = some (some (.ref f3t)))
    (tt3x : PySem.W.typeIn K (.ref f3t) = some (.type "function"))
    (l3t : K.lookup f3t = some ⟨oc3t, od3t, .func (PySem.W.fnOf "told" "NoChange.told" (defArgs sEt3) (defBody sEt3) (defScope sEt3) .none kV3t dc3t pm3t an3t cd3t ct3t), sl3t⟩)
    (c3t : PySem.W.codeIn K cd3t "NoChange.told" = true)
    (k3t : PySem.W.keepIn K (.ref f3t) = true)
    (sa3x : PySem.W.findIn K (.ref C3) "__setattr__" = some (some (.builtin "object.__setattr__")))
    (ty3x : PySem.W.typeIn K (.ref C3) = some (.type "type"))
    (in3x : PySem.W.findIn K (.ref C3) "__init__" = some (some (.ref f3i)))
    (ti3x : PySem.W.typeIn K (.ref f3i) = some (.type "function"))
    (no3x_path : PySem.W.findIn K (.ref C3) "path" = some none)
    (lk3x : K.lookup C3 = some (excClassObj nm3x q3x C3 N3x bs3x bm3x true sn3x su3x ab3x co3x dd3x k03x k13x k23x k33x k53x "ValueError.__new__"))
    (rv3x : PySem.HandSPX.refsVE bm3x = true)
    (l3i : K.lookup f3i = some ⟨oc3i, od3i, .func (PySem.W.fnOf "__init__" "NoChange.__init__" (defArgs sEi3) (defBody sEi3) (defScope sEi3) .none kV3i dc3i pm3i an3i cd3i ct3i), sl3i⟩)
    (c3i : PySem.W.codeIn K cd3i "NoChange.__init__" = true)
    (k3i : PySem.W.keepIn K (.ref f3i) = true)
    (ex4x : PySem.W.subIn K (.ref C4) (.type "BaseException") = some true)
    (kp4x : PySem.W.keepIn K (.ref C4) = true)
    (ga4x : PySem.W.findIn K (.ref C4) "__getattribute__" = some (some (.builtin "BaseException.__getattribute__")))
    (gg4x : PySem.W.findIn K (.ref C4) "__getattr__" = some none)
    (hd4x : PySem.W.hasDictIn K C4 = true)
    (icA4x : PySem.W.findIn K (.ref C4) "__class__" = some (some (.builtin "object.__class__")))
    (icM4x : PySem.W.mroIn K C4 (.type "object") = some true)
    (tf4x : PySem.W.findIn K (.ref C4) "told" = some (some (.ref f4t)))
    (tt4x : PySem.W.typeIn K (.ref f4t) = some (.type "function"))
    (l4t : K.lookup f4t = some ⟨oc4t, od4t, .func (PySem.W.fnOf "told" "NoTime.told" (defArgs sEt4) (defBody sEt4) (defScope sEt4) .none kV4t dc4t pm4t an4t cd4t ct4t), sl4t⟩)
    (c4t : PySem.W.codeIn K cd4t "NoTime.told" = true)
    (k4t : PySem.W.keepIn K (.ref f4t) = true)
    (sa4x : PySem.W.findIn K (.ref C4) "__setattr__" = some (some (.builtin "object.__setattr__")))
    (ty4x : PySem.W.typeIn K (.ref C4) = some (.type "type"))
    (in4x : PySem.W.findIn K (.ref C4) "__init__" = some (some (.ref f4i)))
    (ti4x : PySem.W.typeIn K (.ref f4i) = some (.type "function"))
    (no4x_time : PySem.W.findIn K (.ref C4) "time" = some none)
    (lk4x : K.lookup C4 = some (excClassObj nm4x q4x C4 N4x bs4x bm4x true sn4x su4x ab4x co4x dd4x k04x k14x k24x k34x k54x "ValueError.__new__"))
    (rv4x : PySem.HandSPX.refsVE bm4x = true)
    (l4i : K.lookup f4i = some ⟨oc4i, od4i, .func (PySem.W.fnOf "__init__" "NoTime.__init__" (defArgs sEi4) (defBody sEi4) (defScope sEi4) .none kV4i dc4i pm4i an4i cd4i ct4i), sl4i⟩)
    (c4i : PySem.W.codeIn K cd4i "NoTime.__init__" = true)
    (k4i : PySem.W.keepIn K (.ref f4i) = true)
    (ex5x : PySem.W.subIn K (.ref C5) (.type "BaseException") = some true)
    (kp5x : PySem.W.keepIn K (.ref C5) = true)
    (ga5x : PySem.W.findIn K (.ref C5) "__getattribute__" = some (some (.builtin "BaseException.__getattribute__")))
    (gg5x : PySem.W.findIn K (.ref C5) "__getattr__" = some none)
    (hd5x : PySem.W.hasDictIn K C5 = true)
    (icA5x : PySem.W.findIn K (.ref C5) "__class__" = some (some (.builtin "object.__class__")))
    (icM5x : PySem.W.mroIn K C5 (.type "object") = some true)
    (tf5x : PySem.W.findIn K (.ref C5) "told" = some (some (.ref f5t)))
    (tt5x : PySem.W.typeIn K (.ref f5t) = some (.type "function"))
    (l5t : K.lookup f5t = some ⟨oc5t, od5t, .func (PySem.W.fnOf "told" "NoBack.told" (defArgs sEt5) (defBody sEt5) (defScope sEt5) .none kV5t dc5t pm5t an5t cd5t ct5t), sl5t⟩)
    (c5t : PySem.W.codeIn K cd5t "NoBack.told" = true)
    (k5t : PySem.W.keepIn K (.ref f5t) = true)
    (xN : PySem.W.excIn K C5 [.type "ValueError", .type "Exception", .type "BaseException", .type "object"] "ValueError.__new__" = true)
    (ex6x : PySem.W.subIn K (.ref C6) (.type "BaseException") = some true)
    (kp6x : PySem.W.keepIn K (.ref C6) = true)
    (ga6x : PySem.W.findIn K (.ref C6) "__getattribute__" = some (some (.builtin "BaseException.__getattribute__")))
    (gg6x : PySem.W.findIn K (.ref C6) "__getattr__" = some none)
    (hd6x : PySem.W.hasDictIn K C6 = true)
    (icA6x : PySem.W.findIn K (.ref C6) "__class__" = some (some (.builtin "object.__class__")))
    (icM6x : PySem.W.mroIn K C6 (.type "object") = some true)
    (tf6x : PySem.W.findIn K (.ref C6) "told" = some (some (.ref f6t)))
    (tt6x : PySem.W.typeIn K (.ref f6t) = some (.type "function"))
    (l6t : K.lookup f6t = some ⟨oc6t, od6t, .func (PySem.W.fnOf "told" "BadText.told" (defArgs sEt6) (defBody sEt6) (defScope sEt6) .none kV6t dc6t pm6t an6t cd6t ct6t), sl6t⟩)
    (c6t : PySem.W.codeIn K cd6t "BadText.told" = true)
    (k6t : PySem.W.keepIn K (.ref f6t) = true)
    (sa6x : PySem.W.findIn K (.ref C6) "__setattr__" = some (some (.builtin "object.__setattr__")))
    (ty6x : PySem.W.typeIn K (.ref C6) = some (.type "type"))
    (in6x : PySem.W.findIn K (.ref C6) "__init__" = some (some (.ref f6i)))
    (ti6x : PySem.W.typeIn K (.ref f6i) = some (.type "function"))
    (no6x_place : PySem.W.findIn K (.ref C6) "place" = some none)
    (lk6x : K.lookup C6 = some (excClassObj nm6x q6x C6 N6x bs6x bm6x true sn6x su6x ab6x co6x dd6x k06x k16x k26x k36x k56x "ValueError.__new__"))
    (rv6x : PySem.HandSPX.refsVE bm6x = true)
    (l6i : K.lookup f6i = some ⟨oc6i, od6i, .func (PySem.W.fnOf "__init__" "BadText.__init__" (defArgs sEi6) (defBody sEi6) (defScope sEi6) .none kV6i dc6i pm6i an6i cd6i ct6i), sl6i⟩)
    (c6i : PySem.W.codeIn K cd6i "BadText.__init__" = true)
    (k6i : PySem.W.keepIn K (.ref f6i) = true)
    (kk00 : PySem.W.kitOne K (.ref C0) (.ref C0) = some true)
    (kk01 : PySem.W.kitOne K (.ref C0) (.ref C1) = some false)
    (kk02 : PySem.W.kitOne K (.ref C0) (.ref C2) = some false)
    (kk03 : PySem.W.kitOne K (.ref C0) (.ref C3) = some false)
    (kk04 : PySem.W.kitOne K (.ref C0) (.ref C4) = some false)
    (kk05 : PySem.W.kitOne K (.ref C0) (.ref C5) = some false)
    (kk06 : PySem.W.kitOne K (.ref C0) (.ref C6) = some false)
    (kP0 : PySem.W.kitOne K (.ref C0) (.ref CP) = some true)
    (kV0v : PySem.W.kitOne K (.ref C0) (.type "ValueError") = some true)
    (kk10 : PySem.W.kitOne K (.ref C1) (.ref C0) = some false)
    (kk11 : PySem.W.kitOne K (.ref C1) (.ref C1) = some true)
    (kk12 : PySem.W.kitOne K (.ref C1) (.ref C2) = some false)
    (kk13 : PySem.W.kitOne K (.ref C1) (.ref C3) = some false)
    (kk14 : PySem.W.kitOne K (.ref C1) (.ref C4) = some false)
    (kk15 : PySem.W.kitOne K (.ref C1) (.ref C5) = some false)
    (kk16 : PySem.W.kitOne K (.ref C1) (.ref C6) = some false)
    (kP1 : PySem.W.kitOne K (.ref C1) (.ref CP) = some true)
    (kV1v : PySem.W.kitOne K (.ref C1) (.type "ValueError") = some true)
    (kk20 : PySem.W.kitOne K (.ref C2) (.ref C0) = some false)
    (kk21 : PySem.W.kitOne K (.ref C2) (.ref C1) = some false)
    (kk22 : PySem.W.kitOne K (.ref C2) (.ref C2) = some true)
    (kk23 : PySem.W.kitOne K (.ref C2) (.ref C3) = some false)
    (kk24 : PySem.W.kitOne K (.ref C2) (.ref C4) = some false)
    (kk25 : PySem.W.kitOne K (.ref C2) (.ref C5) = some false)
    (kk26 : PySem.W.kitOne K (.ref C2) (.ref C6) = some false)
    (kP2 : PySem.W.kitOne K (.ref C2) (.ref CP) = some true)
    (kV2v : PySem.W.kitOne K (.ref C2) (.type "ValueError") = some true)
    (kk30 : PySem.W.kitOne K (.ref C3) (.ref C0) = some false)
    (kk31 : PySem.W.kitOne K (.ref C3) (.ref C1) = some false)
    (kk32 : PySem.W.kitOne K (.ref C3) (.ref C2) = some false)
    (kk33 : PySem.W.kitOne K (.ref C3) (.ref C3) = some true)
    (kk34 : PySem.W.kitOne K (.ref C3) (.ref C4) = some false)
    (kk35 : PySem.W.kitOne K (.ref C3) (.ref C5) = some false)
    (kk36 : PySem.W.kitOne K (.ref C3) (.ref C6) = some false)
    (kP3 : PySem.W.kitOne K (.ref C3) (.ref CP) = some true)
    (kV3v : PySem.W.kitOne K (.ref C3) (.type "ValueError") = some true)
    (kk40 : PySem.W.kitOne K (.ref C4) (.ref C0) = some false)
    (kk41 : PySem.W.kitOne K (.ref C4) (.ref C1) = some false)
    (kk42 : PySem.W.kitOne K (.ref C4) (.ref C2) = some false)
    (kk43 : PySem.W.kitOne K (.ref C4) (.ref C3) = some false)
    (kk44 : PySem.W.kitOne K (.ref C4) (.ref C4) = some true)
    (kk45 : PySem.W.kitOne K (.ref C4) (.ref C5) = some false)
    (kk46 : PySem.W.kitOne K (.ref C4) (.ref C6) = some false)
    (kP4 : PySem.W.kitOne K (.ref C4) (.ref CP) = some true)
    (kV4v : PySem.W.kitOne K (.ref C4) (.type "ValueError") = some true)
    (kk50 : PySem.W.kitOne K (.ref C5) (.ref C0) = some false)
    (kk51 : PySem.W.kitOne K (.ref C5) (.ref C1) = some false)
    (kk52 : PySem.W.kitOne K (.ref C5) (.ref C2) = some false)
    (kk53 : PySem.W.kitOne K (.ref C5) (.ref C3) = some false)
    (kk54 : PySem.W.kitOne K (.ref C5) (.ref C4) = some false)
    (kk55 : PySem.W.kitOne K (.ref C5) (.ref C5) = some true)
    (kk56 : PySem.W.kitOne K (.ref C5) (.ref C6) = some false)
    (kP5 : PySem.W.kitOne K (.ref C5) (.ref CP) = some true)
    (kV5v : PySem.W.kitOne K (.ref C5) (.type "ValueError") = some true)
    (kk60 : PySem.W.kitOne K (.ref C6) (.ref C0) = some false)
    (kk61 : PySem.W.kitOne K (.ref C6) (.ref C1) = some false)
    (kk62 : PySem.W.kitOne K (.ref C6) (.ref C2) = some false)
    (kk63 : PySem.W.kitOne K (.ref C6) (.ref C3) = some false)
    (kk64 : PySem.W.kitOne K (.ref C6) (.ref C4) = some false)
    (kk65 : PySem.W.kitOne K (.ref C6) (.ref C5) = some false)
    (kk66 : PySem.W.kitOne K (.ref C6) (.ref C6) = some true)
    (kP6 : PySem.W.kitOne K (.ref C6) (.ref CP) = some true)
    (kV6v : PySem.W.kitOne K (.ref C6) (.type "ValueError") = some true)
    (kVP : PySem.W.kitOne K (.type "ValueError") (.ref CP) = some false)
    : ∃ fd : FuncData, (∀ (s : Shared) (v : Value), BindsTo s fd ⟨[v], []⟩ [("_law_script", v)]) ∧ ∀ base : Heap, K.In base → base.Ns mainGlobals mg → FnOkG l.prog w K mg base CX0 7 fa fd ["_law_script"] (spLaw K) := by
  have e := hfa.symm.trans (PySem.W.mg_of X G a7)
  cases e
  have B : Bi mg := fun x hx => by
    simp only [List.mem_cons, List.not_mem_nil, or_false] at hx
    rcases hx with rfl | rfl | rfl | rfl | rfl | rfl | rfl | rfl | rfl | rfl | rfl | rfl | rfl | rfl | rfl
    · exact PySem.W.mg_none_of X G z0
    · exact PySem.W.mg_none_of X G z1
    · exact PySem.W.mg_none_of X G z2
    · exact PySem.W.mg_none_of X G z3
    · exact PySem.W.mg_none_of X G z4
    · exact PySem.W.mg_none_of X G z5
    · exact PySem.W.mg_none_of X G z6
    · exact PySem.W.mg_none_of X G z7
    · exact PySem.W.mg_none_of X G z8
    · exact PySem.W.mg_none_of X G z9
    · exact PySem.W.mg_none_of X G z10
    · exact PySem.W.mg_none_of X G z11
    · exact PySem.W.mg_none_of X G z12
    · exact PySem.W.mg_none_of X G z13
    · exact PySem.W.mg_none_of X G z14
  have h_zip : mg "zip" = none := PySem.W.mg_none_of X G z15
  have h_ValueError : mg "ValueError" = none := PySem.W.mg_none_of X G z16
  have F0 := fun_mk (st := sXSource) l0 c0 k0
  have D0 : Df K mg "_law_source" sXSource ["_law_cell"] _ _ := ⟨F0, PySem.W.mg_of X G a0, F0.binds (ps := ["_law_cell"]) fun _ _ _ _ _ _ us hl => match us, hl with | [_], _ => rfl⟩
  have F1 := fun_mk (st := sXDraw) l1 c1 k1
  have D1 : Df K mg "_law_draw" sXDraw ["_law_source_here", "_law_many"] _ _ := ⟨F1, PySem.W.mg_of X G a1, F1.binds (ps := ["_law_source_here", "_law_many"]) fun _ _ _ _ _ _ us hl => match us, hl with | [_, _], _ => rfl⟩
  have F2 := fun_mk (st := sXPick) l2 c2 k2
  have D2 : Df K mg "_law_pick" sXPick ["_law_source_here", "_law_items"] _ _ := ⟨F2, PySem.W.mg_of X G a2, F2.binds (ps := ["_law_source_here", "_law_items"]) fun _ _ _ _ _ _ us hl => match us, hl with | [_, _], _ => rfl⟩
  have F3 := fun_mk (st := sXErrors) l3 c3 k3
  have D3 : Df K mg "_law_errors" sXErrors ["_law_way", "_law_word", "_law_number"] _ _ := ⟨F3, PySem.W.mg_of X G a3, F3.binds (ps := ["_law_way", "_law_word", "_law_number"]) fun _ _ _ _ _ _ us hl => match us, hl with | [_, _, _], _ => rfl⟩
  have F4 := fun_mk (st := sXFields) l4 c4 k4
  have D4 : Df K mg "_law_fields" sXFields ["_law_e", "_law_name_so"] _ _ := ⟨F4, PySem.W.mg_of X G a4, F4.binds (ps := ["_law_e", "_law_name_so"]) fun _ _ _ _ _ _ us hl => match us, hl with | [_, _], _ => rfl⟩
  have F5 := fun_mk (st := sXClasses) l5 c5 k5
  have D5 : Df K mg "_law_classes" sXClasses ["_law_e"] _ _ := ⟨F5, PySem.W.mg_of X G a5, F5.binds (ps := ["_law_e"]) fun _ _ _ _ _ _ us hl => match us, hl with | [_], _ => rfl⟩
  have F6 := fun_mk (st := sXRight) l6 c6 k6
  have D6 : Df K mg "_law_right" sXRight ["_law_source_here"] _ _ := ⟨F6, PySem.W.mg_of X G a6, F6.binds (ps := ["_law_source_here"]) fun _ _ _ _ _ _ us hl => match us, hl with | [_], _ => rfl⟩
  have F7 := fun_mk (st := sLaw) l7 c7 k7
  have D7 : Df K mg "law" sLaw ["_law_script"] _ _ := ⟨F7, PySem.W.mg_of X G a7, F7.binds (ps := ["_law_script"]) fun _ _ _ _ _ _ us hl => match us, hl with | [_], _ => rfl⟩
  refine ⟨PySem.W.fnOf "law" "law" (defArgs sLaw) (defBody sLaw) (defScope sLaw) .none kV7 dc7 pm7 an7 cd7 ct7, fun s v => .of_eq rfl, fun base _ _ => ?_⟩
  have F0t := fun_mk (st := sEt0) l0t c0t k0t
  have b0t := F0t.binds (ps := ["self"]) fun _ _ _ _ _ _ us hl => match us, hl with | [_], _ => rfl
  have xf0 : XfC K C0 := ⟨ga0x, gg0x, ex0x, hd0x⟩
  have ec0 : ExcC K C0 := ⟨ga0x, gg0x, ex0x, hd0x, icA0x, icN, icT, icM0x⟩
  have F1t := fun_mk (st := sEt1) l1t c1t k1t
  have b1t := F1t.binds (ps := ["self"]) fun _ _ _ _ _ _ us hl => match us, hl with | [_], _ => rfl
  have xf1 : XfC K C1 := ⟨ga1x, gg1x, ex1x, hd1x⟩
  have ec1 : ExcC K C1 := ⟨ga1x, gg1x, ex1x, hd1x, icA1x, icN, icT, icM1x⟩
  have F2t := fun_mk (st := sEt2) l2t c2t k2t
  have b2t := F2t.binds (ps := ["self"]) fun _ _ _ _ _ _ us hl => match us, hl with | [_], _ => rfl
  have xf2 : XfC K C2 := ⟨ga2x, gg2x, ex2x, hd2x⟩
  have ec2 : ExcC K C2 := ⟨ga2x, gg2x, ex2x, hd2x, icA2x, icN, icT, icM2x⟩
  have F3t := fun_mk (st := sEt3) l3t c3t k3t
  have b3t := F3t.binds (ps := ["self"]) fun _ _ _ _ _ _ us hl => match us, hl with | [_], _ => rfl
  have xf3 : XfC K C3 := ⟨ga3x, gg3x, ex3x, hd3x⟩
  have ec3 : ExcC K C3 := ⟨ga3x, gg3x, ex3x, hd3x, icA3x, icN, icT, icM3x⟩
  have F4t := fun_mk (st := sEt4) l4t c4t k4t
  have b4t := F4t.binds (ps := ["self"]) fun _ _ _ _ _ _ us hl => match us, hl with | [_], _ => rfl
  have xf4 : XfC K C4 := ⟨ga4x, gg4x, ex4x, hd4x⟩
  have ec4 : ExcC K C4 := ⟨ga4x, gg4x, ex4x, hd4x, icA4x, icN, icT, icM4x⟩
  have F5t := fun_mk (st := sEt5) l5t c5t k5t
  have b5t := F5t.binds (ps := ["self"]) fun _ _ _ _ _ _ us hl => match us, hl with | [_], _ => rfl
  have xf5 : XfC K C5 := ⟨ga5x, gg5x, ex5x, hd5x⟩
  have ec5 : ExcC K C5 := ⟨ga5x, gg5x, ex5x, hd5x, icA5x, icN, icT, icM5x⟩
  have F6t := fun_mk (st := sEt6) l6t c6t k6t
  have b6t := F6t.binds (ps := ["self"]) fun _ _ _ _ _ _ us hl => match us, hl with | [_], _ => rfl
  have xf6 : XfC K C6 := ⟨ga6x, gg6x, ex6x, hd6x⟩
  have ec6 : ExcC K C6 := ⟨ga6x, gg6x, ex6x, hd6x, icA6x, icN, icT, icM6x⟩
  have F0i := fun_mk (st := sEi0) l0i c0i k0i
  have b0i := F0i.binds (ps := ["self", "path"]) fun _ _ _ _ _ _ us hl => match us, hl with | [_, _], _ => rfl
  have O0 : OexC K C0 := ⟨⟨_, _, _, _, _, _, _, _, _, _, _, _, _, _, _, lk0x, rv0x⟩, sa0x, ex0x, ty0x, kp0x⟩
  have q0 : KBn K (PySem.W.fnOf "__init__" "NoDocument.__init__" (defArgs sEi0) (defBody sEi0) (defScope sEi0) .none kV0i dc0i pm0i an0i cd0i ct0i) ["self", "path"] 1 ["path"] (fun us ws => us ++ ws.reverse) gVr := kbx1 (K := K) (fd := (PySem.W.fnOf "__init__" "NoDocument.__init__" (defArgs sEi0) (defBody sEi0) (defScope sEi0) .none kV0i dc0i pm0i an0i cd0i ct0i)) (ps := ["self", "path"]) (k1 := "path") fun s u a _ => .of_eq rfl
  have F1i := fun_mk (st := sEi1) l1i c1i k1i
  have b1i := F1i.binds (ps := ["self", "what"]) fun _ _ _ _ _ _ us hl => match us, hl with | [_, _], _ => rfl
  have O1 : OexC K C1 := ⟨⟨_, _, _, _, _, _, _, _, _, _, _, _, _, _, _, lk1x, rv1x⟩, sa1x, ex1x, ty1x, kp1x⟩
  have q1 : KBn K (PySem.W.fnOf "__init__" "Large.__init__" (defArgs sEi1) (defBody sEi1) (defScope sEi1) .none kV1i dc1i pm1i an1i cd1i ct1i) ["self", "what"] 1 ["what"] (fun us ws => us ++ ws.reverse) gVr := kbx1 (K := K) (fd := (PySem.W.fnOf "__init__" "Large.__init__" (defArgs sEi1) (defBody sEi1) (defScope sEi1) .none kV1i dc1i pm1i an1i cd1i ct1i)) (ps := ["self", "what"]) (k1 := "what") fun s u a _ => .of_eq rfl
  have F2i := fun_mk (st := sEi2) l2i c2i k2i
  have b2i := F2i.binds (ps := ["self", "what", "count"]) fun _ _ _ _ _ _ us hl => match us, hl with | [_, _, _], _ => rfl
  have O2 : OexC K C2 := ⟨⟨_, _, _, _, _, _, _, _, _, _, _, _, _, _, _, lk2x, rv2x⟩, sa2x, ex2x, ty2x, kp2x⟩
  have q2 : KBn K (PySem.W.fnOf "__init__" "BadCount.__init__" (defArgs sEi2) (defBody sEi2) (defScope sEi2) .none kV2i dc2i pm2i an2i cd2i ct2i) ["self", "what", "count"] 1 ["count", "what"] (fun us ws => us ++ ws.reverse) gVr := kbx2 (K := K) (fd := (PySem.W.fnOf "__init__" "BadCount.__init__" (defArgs sEi2) (defBody sEi2) (defScope sEi2) .none kV2i dc2i pm2i an2i cd2i ct2i)) (ps := ["self", "what", "count"]) (k1 := "count") (k2 := "what") fun s u a b _ => .of_eq rfl
  have F3i := fun_mk (st := sEi3) l3i c3i k3i
  have b3i := F3i.binds (ps := ["self", "path"]) fun _ _ _ _ _ _ us hl => match us, hl with | [_, _], _ => rfl
  have O3 : OexC K C3 := ⟨⟨_, _, _, _, _, _, _, _, _, _, _, _, _, _, _, lk3x, rv3x⟩, sa3x, ex3x, ty3x, kp3x⟩
  have q3 : KBn K (PySem.W.fnOf "__init__" "NoChange.__init__" (defArgs sEi3) (defBody sEi3) (defScope sEi3) .none kV3i dc3i pm3i an3i cd3i ct3i) ["self", "path"] 1 ["path"] (fun us ws => us ++ ws.reverse) gVr := kbx1 (K := K) (fd := (PySem.W.fnOf "__init__" "NoChange.__init__" (defArgs sEi3) (defBody sEi3) (defScope sEi3) .none kV3i dc3i pm3i an3i cd3i ct3i)) (ps := ["self", "path"]) (k1 := "path") fun s u a _ => .of_eq rfl
  have F4i := fun_mk (st := sEi4) l4i c4i k4i
  have b4i := F4i.binds (ps := ["self", "time"]) fun _ _ _ _ _ _ us hl => match us, hl with | [_, _], _ => rfl
  have O4 : OexC K C4 := ⟨⟨_, _, _, _, _, _, _, _, _, _, _, _, _, _, _, lk4x, rv4x⟩, sa4x, ex4x, ty4x, kp4x⟩
  have q4 : KBn K (PySem.W.fnOf "__init__" "NoTime.__init__" (defArgs sEi4) (defBody sEi4) (defScope sEi4) .none kV4i dc4i pm4i an4i cd4i ct4i) ["self", "time"] 1 ["time"] (fun us ws => us ++ ws.reverse) gVr := kbx1 (K := K) (fd := (PySem.W.fnOf "__init__" "NoTime.__init__" (defArgs sEi4) (defBody sEi4) (defScope sEi4) .none kV4i dc4i pm4i an4i cd4i ct4i)) (ps := ["self", "time"]) (k1 := "time") fun s u a _ => .of_eq rfl
  have F6i := fun_mk (st := sEi6) l6i c6i k6i
  have b6i := F6i.binds (ps := ["self", "place"]) fun _ _ _ _ _ _ us hl => match us, hl with | [_, _], _ => rfl
  have O6 : OexC K C6 := ⟨⟨_, _, _, _, _, _, _, _, _, _, _, _, _, _, _, lk6x, rv6x⟩, sa6x, ex6x, ty6x, kp6x⟩
  have q6 : KBn K (PySem.W.fnOf "__init__" "BadText.__init__" (defArgs sEi6) (defBody sEi6) (defScope sEi6) .none kV6i dc6i pm6i an6i cd6i ct6i) ["self", "place"] 1 ["place"] (fun us ws => us ++ ws.reverse) gVr := kbx1 (K := K) (fd := (PySem.W.fnOf "__init__" "BadText.__init__" (defArgs sEi6) (defBody sEi6) (defScope sEi6) .none kV6i dc6i pm6i an6i cd6i ct6i)) (ps := ["self", "place"]) (k1 := "place") fun s u a _ => .of_eq rfl
  have XX : XCs K mg (clOf C0 C1 C2 C3 C4 C5 C6) (clOf f0i f1i f2i f3i f4i f6i f6i) := {
    m := all7 (PySem.W.mg_of X G a0x) (PySem.W.mg_of X G a1x) (PySem.W.mg_of X G a2x) (PySem.W.mg_of X G a3x) (PySem.W.mg_of X G a4x) (PySem.W.mg_of X G a5x) (PySem.W.mg_of X G a6x)
    ox := all6 (O0) (O1) (O2) (O3) (O4) (O6)
    iC := all6 (in0x) (in1x) (in2x) (in3x) (in4x) (in6x)
    tI := all6 (ti0x) (ti1x) (ti2x) (ti3x) (ti4x) (ti6x)
    xf := all7 (xf0) (xf1) (xf2) (xf3) (xf4) (xf5) (xf6)
    ec := all7 (ec0) (ec1) (ec2) (ec3) (ec4) (ec5) (ec6)
    p0 := no0x_path
    p3 := no3x_path
    w1 := no1x_what
    w2 := no2x_what
    c2 := no2x_count
    t4 := no4x_time
    q6 := no6x_place
    is' := fun k j hk hj => all7 (p := fun k => ∀ j, j < 7 → PySem.W.kitOne K (.ref ((clOf C0 C1 C2 C3 C4 C5 C6) k)) (.ref ((clOf C0 C1 C2 C3 C4 C5 C6) j)) = some (decide (k = j))) (all7 kk00 kk01 kk02 kk03 kk04 kk05 kk06) (all7 kk10 kk11 kk12 kk13 kk14 kk15 kk16) (all7 kk20 kk21 kk22 kk23 kk24 kk25 kk26) (all7 kk30 kk31 kk32 kk33 kk34 kk35 kk36) (all7 kk40 kk41 kk42 kk43 kk44 kk45 kk46) (all7 kk50 kk51 kk52 kk53 kk54 kk55 kk56) (all7 kk60 kk61 kk62 kk63 kk64 kk65 kk66) k hk j hj }
  have hT : ∀ C, (∃ k, k < 7 ∧ C = (clOf C0 C1 C2 C3 C4 C5 C6) k) → ∃ (f : Addr) (fd : FuncData), TkC K C "told" f ∧ FnOk l.prog w K mg base CX0 1 f fd ["self"] ((fun C vs H Q _ => ∃ a : Addr, vs = [.ref a] ∧ ∀ k, k < 7 → C = (clOf C0 C1 C2 C3 C4 C5 C6) k → Q (.str (toldX k)) H) C) ∧ L2.Binds K fd ["self"] [] := fun C ⟨k, hk, e⟩ => by
    rw [e]
    exact all7 (p := fun k => ∃ (f : Addr) (fd : FuncData), TkC K ((clOf C0 C1 C2 C3 C4 C5 C6) k) "told" f ∧ FnOk l.prog w K mg base CX0 1 f fd ["self"] ((fun C vs H Q _ => ∃ a : Addr, vs = [.ref a] ∧ ∀ j, j < 7 → C = (clOf C0 C1 C2 C3 C4 C5 C6) j → Q (.str (toldX j)) H) ((clOf C0 C1 C2 C3 C4 C5 C6) k)) ∧ L2.Binds K fd ["self"] []) (⟨_, _, ⟨xf0, tf0x, tt0x, k0t⟩, told_imp (cl := (clOf C0 C1 C2 C3 C4 C5 C6)) (k := 0) (by decide) (ok_et0 F0t), b0t⟩) (⟨_, _, ⟨xf1, tf1x, tt1x, k1t⟩, told_imp (cl := (clOf C0 C1 C2 C3 C4 C5 C6)) (k := 1) (by decide) (ok_et1 F1t), b1t⟩) (⟨_, _, ⟨xf2, tf2x, tt2x, k2t⟩, told_imp (cl := (clOf C0 C1 C2 C3 C4 C5 C6)) (k := 2) (by decide) (ok_et2 F2t), b2t⟩) (⟨_, _, ⟨xf3, tf3x, tt3x, k3t⟩, told_imp (cl := (clOf C0 C1 C2 C3 C4 C5 C6)) (k := 3) (by decide) (ok_et3 F3t), b3t⟩) (⟨_, _, ⟨xf4, tf4x, tt4x, k4t⟩, told_imp (cl := (clOf C0 C1 C2 C3 C4 C5 C6)) (k := 4) (by decide) (ok_et4 F4t), b4t⟩) (⟨_, _, ⟨xf5, tf5x, tt5x, k5t⟩, told_imp (cl := (clOf C0 C1 C2 C3 C4 C5 C6)) (k := 5) (by decide) (ok_et5 F5t), b5t⟩) (⟨_, _, ⟨xf6, tf6x, tt6x, k6t⟩, told_imp (cl := (clOf C0 C1 C2 C3 C4 C5 C6)) (k := 6) (by decide) (ok_et6 F6t), b6t⟩) k hk
  have gDw := ok_xdraw (P := l.prog) (w := w) (base := base) B D1
  have gPk := fun {α : Type} (U : Ty α) => ok_xpick (P := l.prog) (w := w) (base := base) (k := 1) U B D2 D1 gDw
  have gEr := ok_xerrors (P := l.prog) (w := w) (base := base) B D3 XX xN kp5x (ok_ei0 O0 no0x_path F0i B) (ok_ei1 O1 no1x_what F1i) (ok_ei2 O2 no2x_what no2x_count F2i) (ok_ei3 O3 no3x_path F3i B) (ok_ei4 O4 no4x_time F4i) (ok_ei6 O6 no6x_place F6i) b0i b1i b2i b3i b4i b6i q0 q1 q2 q3 q4 q6
  have gFi := ok_xfields (P := l.prog) (w := w) (base := base) B D4 XX
  have gCs := ok_xclasses (P := l.prog) (w := w) (base := base) B h_zip D5 XX
  have gRi := ok_xright (P := l.prog) (w := w) (base := base) (CP := CP) B h_ValueError (PySem.W.mg_of X G aP) D6 D2 D1 D3 D4 D5 XX hT (all7 (kP0) (kP1) (kP2) (kP3) (kP4) (kP5) (kP6)) (all7 (kV0v) (kV1v) (kV2v) (kV3v) (kV4v) (kV5v) (kV6v)) kVP (gDw.mono (by decide)) (fun U => (gPk U).mono (by decide)) (gEr.mono (by decide)) (gFi.mono (by decide)) (gCs.mono (by decide))
  exact ok_law (P := l.prog) (w := w) (base := base) B (fun b q h => h) D7 D0 D6 ((ok_xsource B D0).mono (by decide)) gRi
end TP
open PySem PySem.W PyProof.Rows
set_option maxHeartbeats 0 in
theorem PySem.Challenge.cw_twopatches_k02_errors_holds : PySem.Challenge.rw_twopatches_k02_errors.Holds := by
  w_on; o_law; k_head; (case hw => w_witness2)
  k_fill
  refine TP.walk_G (l := PySem.Challenge.rw_twopatches_k02_errors) (n := 63) (k := 7) (x := "_law_script") (sp := TP.spLaw) rfl (by decide) rfl ⟨rfl, by decide, by decide⟩ (fun w h Y => PySem.W.kIn_of Y) ?F (fun K H a ns hl _ hS => ⟨a, ns, rfl, hS, hl, fun _ => rfl⟩)
  case F =>
    intro w mg fa h KX G hmg
    refine' TP.all_mk KX G hmg ?a0 ?l0 ?c0 ?k0 ?a1 ?l1 ?c1 ?k1 ?a2 ?l2 ?c2 ?k2 ?a3 ?l3 ?c3 ?k3 ?a4 ?l4 ?c4 ?k4 ?a5 ?l5 ?c5 ?k5 ?a6 ?l6 ?c6 ?k6 ?a7 ?l7 ?c7 ?k7 ?z0 ?z1 ?z2 ?z3 ?z4 ?z5 ?z6 ?z7 ?z8 ?z9 ?z10 ?z11 ?z12 ?z13 ?z14 ?z15 ?z16 ?aP ?a0x ?a1x ?a2x ?a3x ?a4x ?a5x ?a6x ?icN ?icT ?ex0x ?kp0x ?ga0x ?gg0x ?hd0x ?icA0x ?icM0x ?tf0x ?tt0x ?l0t ?c0t ?k0t ?sa0x ?ty0x ?in0x ?ti0x ?no0x_path ?lk0x ?rv0x ?l0i ?c0i ?k0i ?ex1x ?kp1x ?ga1x ?gg1x ?hd1x ?icA1x ?icM1x ?tf1x ?tt1x ?l1t ?c1t ?k1t ?sa1x ?ty1x ?in1x ?ti1x ?no1x_what ?lk1x ?rv1x ?l1i ?c1i ?k1i ?ex2x ?kp2x ?ga2x ?gg2x ?hd2x ?icA2x ?icM2x ?tf2x ?tt2x ?l2t ?c2t ?k2t ?sa2x ?ty2x ?in2x ?ti2x ?no2x_what ?no2x_count ?lk2x ?rv2x ?l2i ?c2i ?k2i ?ex3x ?kp3x ?ga3x ?gg3x ?hd3x ?icA3x ?icM3x ?tf3x ?tt3x ?l3t ?c3t ?k3t ?sa3x ?ty3x ?in3x ?ti3x ?no3x_path ?lk3x ?rv3x ?l3i ?c3i ?k3i ?ex4x ?kp4x ?ga4x ?gg4x ?hd4x ?icA4x ?icM4x ?tf4x ?tt4x ?l4t ?c4t ?k4t ?sa4x ?ty4x ?in4x ?ti4x ?no4x_time ?lk4x ?rv4x ?l4i ?c4i ?k4i ?ex5x ?kp5x ?ga5x ?gg5x ?hd5x ?icA5x ?icM5x ?tf5x ?tt5x ?l5t ?c5t ?k5t ?xN ?ex6x ?kp6x ?ga6x ?gg6x ?hd6x ?icA6x ?icM6x ?tf6x ?tt6x ?l6t ?c6t ?k6t ?sa6x ?ty6x ?in6x ?ti6x ?no6x_place ?lk6x ?rv6x ?l6i ?c6i ?k6i ?kk00 ?kk01 ?kk02 ?kk03 ?kk04 ?kk05 ?kk06 ?kP0 ?kV0v ?kk10 ?kk11 ?kk12 ?kk13 ?kk14 ?kk15 ?kk16 ?kP1 ?kV1v ?kk20 ?kk21 ?kk22 ?kk23 ?kk24 ?kk25 ?kk26 ?kP2 ?kV2v ?kk30 ?kk31 ?kk32 ?kk33 ?kk34 ?kk35 ?kk36 ?kP3 ?kV3v ?kk40 ?kk41 ?kk42 ?kk43 ?kk44 ?kk45 ?kk46 ?kP4 ?kV4v ?kk50 ?kk51 ?kk52 ?kk53 ?kk54 ?kk55 ?kk56 ?kP5 ?kV5v ?kk60 ?kk61 ?kk62 ?kk63 ?kk64 ?kk65 ?kk66 ?kP6 ?kV6v ?kVP
    (case a0 => k_is)
    (case l0 => k_is)
    (case c0 => k_is)
    (case k0 => k_is)
    (case a1 => k_is)
    (case l1 => k_is)
    (case c1 => k_is)
    (case k1 => k_is)
    (case a2 => k_is)
    (case l2 => k_is)
    (case c2 => k_is)
    (case k2 => k_is)
    (case a3 => k_is)
    (case l3 => k_is)
    (case c3 => k_is)
    (case k3 => k_is)
    (case a4 => k_is)
    (case l4 => k_is)
    (case c4 => k_is)
    (case k4 => k_is)
    (case a5 => k_is)
    (case l5 => k_is)
    (case c5 => k_is)
    (case k5 => k_is)
    (case a6 => k_is)
    (case l6 => k_is)
    (case c6 => k_is)
    (case k6 => k_is)
    (case a7 => k_is)
    (case l7 => k_is)
    (case c7 => k_is)
    (case k7 => k_is)
    (case z0 => k_is)
    (case z1 => k_is)
    (case z2 => k_is)
    (case z3 => k_is)
    (case z4 => k_is)
    (case z5 => k_is)
    (case z6 => k_is)
    (case z7 => k_is)
    (case z8 => k_is)
    (case z9 => k_is)
    (case z10 => k_is)
    (case z11 => k_is)
    (case z12 => k_is)
    (case z13 => k_is)
    (case z14 => k_is)
    (case z15 => k_is)
    (case z16 => k_is)
    (case aP => k_is)
    (case a0x => k_is)
    (case a1x => k_is)
    (case a2x => k_is)
    (case a3x => k_is)
    (case a4x => k_is)
    (case a5x => k_is)
    (case a6x => k_is)
    (case icN => k_is)
    (case icT => k_is)
    (case ex0x => k_is)
    (case kp0x => k_is)
    (case ga0x => k_is)
    (case gg0x => k_is)
    (case hd0x => k_is)
    (case icA0x => k_is)
    (case icM0x => k_is)
    (case tf0x => k_is)
    (case tt0x => k_is)
    (case l0t => k_is)
    (case c0t => k_is)
    (case k0t => k_is)
    (case sa0x => k_is)
    (case ty0x => k_is)
    (case in0x => k_is)
    (case ti0x => k_is)
    (case no0x_path => k_is)
    (case lk0x => k_is)
    (case rv0x => first | rfl | decide +kernel)
    (case l0i => k_is)
    (case c0i => k_is)
    (case k0i => k_is)
    (case ex1x => k_is)
    (case kp1x => k_is)
    (case ga1x => k_is)
    (case gg1x => k_is)
    (case hd1x => k_is)
    (case icA1x => k_is)
    (case icM1x => k_is)
    (case tf1x => k_is)
    (case tt1x => k_is)
    (case l1t => k_is)
    (case c1t => k_is)
    (case k1t => k_is)
    (case sa1x => k_is)
    (case ty1x => k_is)
    (case in1x => k_is)
    (case ti1x => k_is)
    (case no1x_what => k_is)
    (case lk1x => k_is)
    (case rv1x => first | rfl | decide +kernel)
    (case l1i => k_is)
    (case c1i => k_is)
    (case k1i => k_is)
    (case ex2x => k_is)
    (case kp2x => k_is)
    (case ga2x => k_is)
    (case gg2x => k_is)
    (case hd2x => k_is)
    (case icA2x => k_is)
    (case icM2x => k_is)
    (case tf2x => k_is)
    (case tt2x => k_is)
    (case l2t => k_is)
    (case c2t => k_is)
    (case k2t => k_is)
    (case sa2x => k_is)
    (case ty2x => k_is)
    (case in2x => k_is)
    (case ti2x => k_is)
    (case no2x_what => k_is)
    (case no2x_count => k_is)
    (case lk2x => k_is)
    (case rv2x => first | rfl | decide +kernel)
    (case l2i => k_is)
    (case c2i => k_is)
    (case k2i => k_is)
    (case ex3x => k_is)
    (case kp3x => k_is)
    (case ga3x => k_is)
    (case gg3x => k_is)
    (case hd3x => k_is)
    (case icA3x => k_is)
    (case icM3x => k_is)
    (case tf3x => k_is)
    (case tt3x => k_is)
    (case l3t => k_is)
    (case c3t => k_is)
    (case k3t => k_is)
    (case sa3x => k_is)
    (case ty3x => k_is)
    (case in3x => k_is)
    (case ti3x => k_is)
    (case no3x_path => k_is)
    (case lk3x => k_is)
    (case rv3x => first | rfl | decide +kernel)
    (case l3i => k_is)
    (case c3i => k_is)
    (case k3i => k_is)
    (case ex4x => k_is)
    (case kp4x => k_is)
    (case ga4x => k_is)
    (case gg4x => k_is)
    (case hd4x => k_is)
    (case icA4x => k_is)
    (case icM4x => k_is)
    (case tf4x => k_is)
    (case tt4x => k_is)
    (case l4t => k_is)
    (case c4t => k_is)
    (case k4t => k_is)
    (case sa4x => k_is)
    (case ty4x => k_is)
    (case in4x => k_is)
    (case ti4x => k_is)
    (case no4x_time => k_is)
    (case lk4x => k_is)
    (case rv4x => first | rfl | decide +kernel)
    (case l4i => k_is)
    (case c4i => k_is)
    (case k4i => k_is)
    (case ex5x => k_is)
    (case kp5x => k_is)
    (case ga5x => k_is)
    (case gg5x => k_is)
    (case hd5x => k_is)
    (case icA5x => k_is)
    (case icM5x => k_is)
    (case tf5x => k_is)
    (case tt5x => k_is)
    (case l5t => k_is)
    (case c5t => k_is)
    (case k5t => k_is)
    (case xN => k_exc)
    (case ex6x => k_is)
    (case kp6x => k_is)
    (case ga6x => k_is)
    (case gg6x => k_is)
    (case hd6x => k_is)
    (case icA6x => k_is)
    (case icM6x => k_is)
    (case tf6x => k_is)
    (case tt6x => k_is)
    (case l6t => k_is)
    (case c6t => k_is)
    (case k6t => k_is)
    (case sa6x => k_is)
    (case ty6x => k_is)
    (case in6x => k_is)
    (case ti6x => k_is)
    (case no6x_place => k_is)
    (case lk6x => k_is)
    (case rv6x => first | rfl | decide +kernel)
    (case l6i => k_is)
    (case c6i => k_is)
    (case k6i => k_is)
    (case kk00 => first | rfl | decide +kernel | k_is)
    (case kk01 => first | rfl | decide +kernel | k_is)
    (case kk02 => first | rfl | decide +kernel | k_is)
    (case kk03 => first | rfl | decide +kernel | k_is)
    (case kk04 => first | rfl | decide +kernel | k_is)
    (case kk05 => first | rfl | decide +kernel | k_is)
    (case kk06 => first | rfl | decide +kernel | k_is)
    (case kP0 => first | rfl | decide +kernel | k_is)
    (case kV0v => first | rfl | decide +kernel | k_is)
    (case kk10 => first | rfl | decide +kernel | k_is)
    (case kk11 => first | rfl | decide +kernel | k_is)
    (case kk12 => first | rfl | decide +kernel | k_is)
    (case kk13 => first | rfl | decide +kernel | k_is)
    (case kk14 => first | rfl | decide +kernel | k_is)
    (case kk15 => first | rfl | decide +kernel | k_is)
    (case kk16 => first | rfl | decide +kernel | k_is)
    (case kP1 => first | rfl | decide +kernel | k_is)
    (case kV1v => first | rfl | decide +kernel | k_is)
    (case kk20 => first | rfl | decide +kernel | k_is)
    (case kk21 => first | rfl | decide +kernel | k_is)
    (case kk22 => first | rfl | decide +kernel | k_is)
    (case kk23 => first | rfl | decide +kernel | k_is)
    (case kk24 => first | rfl | decide +kernel | k_is)
    (case kk25 => first | rfl | decide +kernel | k_is)
    (case kk26 => first | rfl | decide +kernel | k_is)
    (case kP2 => first | rfl | decide +kernel | k_is)
    (case kV2v => first | rfl | decide +kernel | k_is)
    (case kk30 => first | rfl | decide +kernel | k_is)
    (case kk31 => first | rfl | decide +kernel | k_is)
    (case kk32 => first | rfl | decide +kernel | k_is)
    (case kk33 => first | rfl | decide +kernel | k_is)
    (case kk34 => first | rfl | decide +kernel | k_is)
    (case kk35 => first | rfl | decide +kernel | k_is)
    (case kk36 => first | rfl | decide +kernel | k_is)
    (case kP3 => first | rfl | decide +kernel | k_is)
    (case kV3v => first | rfl | decide +kernel | k_is)
    (case kk40 => first | rfl | decide +kernel | k_is)
    (case kk41 => first | rfl | decide +kernel | k_is)
    (case kk42 => first | rfl | decide +kernel | k_is)
    (case kk43 => first | rfl | decide +kernel | k_is)
    (case kk44 => first | rfl | decide +kernel | k_is)
    (case kk45 => first | rfl | decide +kernel | k_is)
    (case kk46 => first | rfl | decide +kernel | k_is)
    (case kP4 => first | rfl | decide +kernel | k_is)
    (case kV4v => first | rfl | decide +kernel | k_is)
    (case kk50 => first | rfl | decide +kernel | k_is)
    (case kk51 => first | rfl | decide +kernel | k_is)
    (case kk52 => first | rfl | decide +kernel | k_is)
    (case kk53 => first | rfl | decide +kernel | k_is)
    (case kk54 => first | rfl | decide +kernel | k_is)
    (case kk55 => first | rfl | decide +kernel | k_is)
    (case kk56 => first | rfl | decide +kernel | k_is)
    (case kP5 => first | rfl | decide +kernel | k_is)
    (case kV5v => first | rfl | decide +kernel | k_is)
    (case kk60 => first | rfl | decide +kernel | k_is)
    (case kk61 => first | rfl | decide +kernel | k_is)
    (case kk62 => first | rfl | decide +kernel | k_is)
    (case kk63 => first | rfl | decide +kernel | k_is)
    (case kk64 => first | rfl | decide +kernel | k_is)
    (case kk65 => first | rfl | decide +kernel | k_is)
    (case kk66 => first | rfl | decide +kernel | k_is)
    (case kP6 => first | rfl | decide +kernel | k_is)
    (case kV6v => first | rfl | decide +kernel | k_is)
    (case kVP => first | rfl | decide +kernel | k_is)
