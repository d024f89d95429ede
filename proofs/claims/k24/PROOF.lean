import PyProof.Rows.All
import Wide.All
import OpenK.AllK
import Wide.FinOn
import HandS.ForMost
import HandS.Lambda
import HandS.EndTab
import HandS.IsInst
import HandS.DictComp
import HandS.DeepEq
import HandS.More
import HandS.Wide
import HandS.RaiseMore
import KE.DatumOrd
import HandS.SortKw
import PyProof.ReprRoads
import HandS.OwnEq
import OpenK.KMeth
import KE.KCallOwn
import KE.SortKeyHeap
import HandS.Style
import HandS.ListItems
import HandS.Codes
import PyProof.InstNe
import PySem.Challenge.RW_twopatches_k24_trees_of_rows_by_hand
set_option Elab.async false
set_option linter.all false
set_option maxRecDepth 100000
set_option maxHeartbeats 4000000
namespace TP
open PySem L2
/-! ### what stays -/
def isTbl : HO → Bool
  | .tbl _ => true
  | _ => false
/-- neither a table nor told by a property -/
def isPl : HO → Bool
  | .tbl _ => false
  | .ext _ => false
  | _ => true
/-- which lambdas a code table may hold -/
class TabL where
  R : Addr → Str → Prop
  one : ∀ P q q', R P q → R P q' → q = q'
/-- all that H knows stays; the tables may grow -/
structure Ex [TabL] (H H' : Hp) : Prop where
  go : ∀ a o, H a = some o → isTbl o = false → H' a = some o
  ne : ∀ a, H a ≠ none → H' a ≠ none
  tab : ∀ a q, TabL.R a q → LamX.TabS H a q → LamX.TabS H' a q
/-- no table -/
class NT (o : HO) : Prop where
  h : isTbl o = false
instance {xs} : NT (.lst xs) := ⟨rfl⟩
instance {xs} : NT (.tup xs) := ⟨rfl⟩
instance {kvs} : NT (.dK kvs) := ⟨rfl⟩
instance {C dx fs} : NT (.ins C dx fs) := ⟨rfl⟩
instance {a} : NT (.own a) := ⟨rfl⟩
instance {o u} : NT (.frz o u) := ⟨rfl⟩
instance {φ} : NT (.ext φ) := ⟨rfl⟩
instance {fs} : NT (.xd fs) := ⟨rfl⟩
theorem Ex.at' [TabL] {H H' : Hp} (e : Ex H H') (a : Addr) (o : HO) [z : NT o] (h : H a = some o) : H' a = some o := e.go a o h z.h
instance [TabL] {H H' : Hp} : CoeFun (Ex H H') fun _ => ∀ (a : Addr) (o : HO) [NT o], H a = some o → H' a = some o := ⟨Ex.at'⟩
theorem Ex.refl [TabL] (H : Hp) : Ex H H := ⟨fun _ _ h _ => h, fun _ h => h, fun _ _ _ h => h⟩
theorem Ex.trans [TabL] {H H1 H2 : Hp} (x : Ex H H1) (y : Ex H1 H2) : Ex H H2 := ⟨fun a o h z => y.go a o (x.go a o h z) z, fun a h => y.ne a (x.ne a h), fun a q r h => y.tab a q r (x.tab a q r h)⟩
/-- what is written is no part of a table -/
theorem tab_upd {H : Hp} {P : Addr} {q : Str} {p : Addr} {o : HO} (h : LamX.TabS H P q) (hp : ∀ u, H p = some u → isPl u = true) : LamX.TabS (upd H p o) P q := by
  obtain ⟨ps, h1, h2, h3⟩ := h
  refine ⟨ps, by rw [upd_ne (fun z => by rw [z] at h1; exact nomatch hp _ h1)]; exact h1, h2, fun pos cv hc => ?_⟩
  obtain ⟨c, e1, e2⟩ := h3 pos cv hc
  exact ⟨c, e1, by rw [upd_ne (fun z => by rw [z] at e2; exact nomatch hp _ e2)]; exact e2⟩
theorem Ex.new [TabL] {H : Hp} {p : Addr} {o : HO} (h : H p = none) : Ex H (upd H p o) :=
  ⟨fun a u e _ => by rw [upd_ne (ne_of_none e h)]; exact e, fun a e => by rw [upd_ne (fun z => e (by rw [z]; exact h))]; exact e, fun a q _ t => tab_upd t fun u e => by rw [h] at e; cases e⟩
theorem fresh_back [TabL] {H H' : Hp} {p : Addr} (e : Ex H H') (h : H' p = none) : H p = none := by
  cases z : H p with
  | none => rfl
  | some o => exact absurd h (e.ne p (by rw [z]; exact fun y => nomatch y))
/-- what H does not know may change -/
theorem Ex.mut [TabL] {H H' : Hp} {p : Addr} {o u : HO} (e : Ex H H') (h : H p = none) (hu : H' p = some u) (pl : isPl u = true := by rfl) : Ex H (upd H' p o) :=
  ⟨fun a w ha z => by rw [upd_ne (ne_of_none ha h)]; exact e.go a w ha z, fun a ha => by rw [upd_ne (fun z => ha (by rw [z]; exact h))]; exact e.ne a ha, fun a q r t => tab_upd (e.tab a q r t) fun w hw => by rw [hu] at hw; cases hw; exact pl⟩
theorem ex_rd [TabL] {H H' : Hp} {a : Addr} {u : HO} (e : Ex H H') (h : Rd H a u) (z : isTbl u = false := by rfl) : Rd H' a u := h.imp (fun h => e.go a _ h z) fun ⟨o, h⟩ => ⟨o, e.go a _ h rfl⟩
/-! ### documents, as mathematics -/
inductive D where
  | nil
  | sc (v : V)
  | ls (xs : List V)
  | ob (f : Str → D)
def D.tgt : D → Str → D
  | .ob f => f
  | _ => fun _ => .nil
def D.isNil : D → Bool
  | .nil => true
  | _ => false
def D.isNon : D → Bool
  | .sc .non => true
  | _ => false
/-- the document after a patch -/
def D.app (d : D) : D → D
  | .ob g => .ob fun k => if (g k).isNil then d.tgt k else if (g k).isNon then .nil else D.app (d.tgt k) (g k)
  | p => p
theorem app_ob (d : D) (g : Str → D) : D.app d (.ob g) = .ob fun k => if (g k).isNil then d.tgt k else if (g k).isNon then .nil else D.app (d.tgt k) (g k) := rfl
def D.fup (f : Str → D) (k : Str) (e : D) : Str → D := fun j => if j = k then e else f j

/-- None, an int, a text -/
def isSc : V → Bool
  | .non => true
  | .int _ => true
  | .str _ => true
  | _ => false
abbrev inK (p : Str × V) : Key × V := (Sum.inr p.1, p.2)
abbrev kvsOf (ms : List (Str × V)) : List (Key × V) := ms.map inK

theorem valV_inK (ms : List (Str × V)) (k : Str) : valV (kvsOf ms) (Sum.inr k) = valV ms k := by
  induction ms with
  | nil => rfl
  | cons p r ih =>
    show valV (inK p :: kvsOf r) _ = _
    by_cases e : p.1 = k
    · rw [valV_pos (p := inK p) (show Sum.inr p.1 = Sum.inr k by rw [e]), valV_pos e]
    · rw [valV_neg (p := inK p) (fun z => e (Sum.inr.inj z)), valV_neg e, ih]
theorem putK_inK (ms : List (Str × V)) (k : Str) (v : V) : putK (kvsOf ms) (Sum.inr k) v = kvsOf (putK ms k v) := by
  unfold putK
  have e : ((kvsOf ms).any fun kv => decide (kv.1 = (Sum.inr k : Key))) = (ms.any fun kv => decide (kv.1 = k)) := by
    rw [List.any_map]
    congr 1
    funext p
    by_cases h : p.1 = k
    · simp [h]
    · have h2 : ¬ (Sum.inr p.1 : Key) = Sum.inr k := fun z => h (Sum.inr.inj z)
      simp [h]
  rw [e]
  split
  · show _ = List.map inK (List.map _ ms)
    rw [List.map_map, List.map_map]
    congr 1
    funext p
    by_cases h : p.1 = k
    · simp [h]
    · simp [h]
  · show _ = List.map inK (ms ++ [(k, v)])
    rw [List.map_append]
    rfl
theorem keys_inK (ms : List (Str × V)) : (kvsOf ms).map (fun kv => kV kv.1) = ms.map fun p => V.str p.1 := by
  rw [List.map_map]
  rfl
theorem keys_put (ms : List (Str × V)) (k : Str) (v : V) : ∀ j, j ∈ (putK ms k v).map (·.1) ↔ j = k ∨ j ∈ ms.map (·.1) := by
  intro j
  unfold putK
  split
  · rename_i h
    have e : (ms.map fun kv => if kv.1 = k then (kv.1, v) else kv).map (·.1) = ms.map (·.1) := by
      rw [List.map_map]
      congr 1
      funext p
      by_cases h : p.1 = k <;> simp [h]
    rw [e]
    constructor
    · exact Or.inr
    · rintro (h1 | h1)
      · subst h1
        rw [List.any_eq_true] at h
        obtain ⟨p, hp, hd⟩ := h
        exact List.mem_map.mpr ⟨p, hp, of_decide_eq_true hd⟩
      · exact h1
  · rw [List.map_append]
    simp [or_comm]
theorem nodup_put {ms : List (Str × V)} (k : Str) (v : V) (h : (ms.map (·.1)).Nodup) : ((putK ms k v).map (·.1)).Nodup := by
  unfold putK
  split
  · have e : (ms.map fun kv => if kv.1 = k then (kv.1, v) else kv).map (·.1) = ms.map (·.1) := by
      rw [List.map_map]
      congr 1
      funext p
      by_cases h : p.1 = k <;> simp [h]
    rw [e]
    exact h
  · rename_i hn
    rw [List.map_append, List.nodup_append]
    refine ⟨h, by simp, ?_⟩
    intro a ha b hb e
    simp at hb
    subst hb
    subst e
    apply hn
    obtain ⟨p, hp, hd⟩ := List.mem_map.mp ha
    exact List.any_eq_true.mpr ⟨p, hp, by simp [hd]⟩
theorem valV_mem {ms : List (Str × V)} {k : Str} {u : V} (h : valV ms k = some u) : (k, u) ∈ ms := by
  unfold valV at h
  obtain ⟨p, hp, e⟩ := Option.map_eq_some_iff.mp h
  have h1 := List.mem_of_find?_eq_some hp
  have h2 := List.find?_some hp
  have h3 : p.1 = k := of_decide_eq_true h2
  obtain ⟨a, b⟩ := p
  simp at e h3
  subst e
  subst h3
  exact h1
theorem valV_of_mem {ms : List (Str × V)} {k : Str} {u : V} (nd : (ms.map (·.1)).Nodup) (h : (k, u) ∈ ms) : valV ms k = some u := by
  induction ms with
  | nil => cases h
  | cons p r ih =>
    rw [List.map_cons, List.nodup_cons] at nd
    by_cases e : p.1 = k
    · rw [valV_pos e]
      rcases List.mem_cons.mp h with h | h
      · rw [← h]
      · exact absurd (List.mem_map.mpr ⟨(k, u), h, e.symm⟩) nd.1
    · rw [valV_neg e]
      rcases List.mem_cons.mp h with h | h
      · exact absurd (by rw [← h]) e
      · exact ih nd.2 h
theorem valV_none_of {ms : List (Str × V)} {k : Str} (h : k ∉ ms.map (·.1)) : valV ms k = none := by
  cases e : valV ms k with
  | none => rfl
  | some u => exact absurd (List.mem_map.mpr ⟨(k, u), valV_mem e, rfl⟩) h
theorem valV_some_of {ms : List (Str × V)} {k : Str} (h : k ∈ ms.map (·.1)) : ∃ u, valV ms k = some u := by
  cases e : valV ms k with
  | some u => exact ⟨u, rfl⟩
  | none =>
    obtain ⟨p, hp, e2⟩ := List.mem_map.mp h
    have := valV_any k ms
    rw [e] at this
    simp at this
    exact absurd e2 (this _ _ hp)
theorem sub_len : ∀ {xs ys : List Str}, xs.Nodup → (∀ x ∈ xs, x ∈ ys) → xs.length ≤ ys.length
  | [], _, _, _ => Nat.zero_le _
  | x :: xs, ys, nd, h => by
    rw [List.nodup_cons] at nd
    have hx := h x List.mem_cons_self
    have h2 : ∀ z ∈ xs, z ∈ ys.erase x := fun z hz => (List.mem_erase_of_ne (fun e => nd.1 (by rw [← e]; exact hz))).mpr (h z (List.mem_cons_of_mem _ hz))
    have h3 := sub_len nd.2 h2
    have h4 := List.length_erase_of_mem hx
    have h5 : 0 < ys.length := List.length_pos_of_mem hx
    rw [List.length_cons]
    omega

/-! ### documents in the heap -/
/-- what may stand in a document: its keys, its scalars, how long its lists are -/
structure Gen where
  KS : List Str
  C : V → Bool
  L : Nat
  sc : ∀ v, C v = true → isSc v = true
/-- S: where its objects lie; G: the keys that may stand in it; n: levels -/
def Dc (S : Addr → Prop) (G : Gen) (H : Hp) : Nat → V → D → Prop
  | 0, _, _ => False
  | n + 1, v, d => (G.C v = true ∧ d = .sc v) ∨ (∃ a xs, v = .ref a ∧ S a ∧ H a = some (.lst xs) ∧ (xs.length ≤ G.L ∧ ∀ x ∈ xs, G.C x = true) ∧ d = .ls xs) ∨
    ∃ a ms f, v = .ref a ∧ S a ∧ H a = some (.dK (kvsOf ms)) ∧ (ms.map (·.1)).Nodup ∧ (∀ k ∈ ms.map (·.1), k ∈ G.KS) ∧ d = .ob f ∧ (∀ k, valV ms k = none → f k = .nil) ∧ ∀ k u, valV ms k = some u → Dc S G H n u (f k)
/-- the members ms stand for f -/
structure Mem (S : Addr → Prop) (G : Gen) (H : Hp) (n : Nat) (ms : List (Str × V)) (f : Str → D) : Prop where
  nd : (ms.map (·.1)).Nodup
  ks : ∀ k ∈ ms.map (·.1), k ∈ G.KS
  no : ∀ k, valV ms k = none → f k = .nil
  at' : ∀ k u, valV ms k = some u → Dc S G H n u (f k)
theorem Dc.sc {S G H n v} (h : G.C v = true) : Dc S G H (n + 1) v (.sc v) := .inl ⟨h, rfl⟩
theorem Dc.ls {S : Addr → Prop} {G H n a xs} (hS : S a) (h : H a = some (.lst xs)) (hx : xs.length ≤ G.L ∧ ∀ x ∈ xs, G.C x = true) : Dc S G H (n + 1) (.ref a) (.ls xs) := .inr (.inl ⟨a, xs, rfl, hS, h, hx, rfl⟩)
theorem Dc.ob {S : Addr → Prop} {G H n a ms f} (hS : S a) (h : H a = some (.dK (kvsOf ms))) (m : Mem S G H n ms f) : Dc S G H (n + 1) (.ref a) (.ob f) :=
  .inr (.inr ⟨a, ms, f, rfl, hS, h, m.nd, m.ks, rfl, m.no, m.at'⟩)
/-- the three ways -/
theorem Dc.cases {S G H n v d} {P : Prop} (h : Dc S G H n v d) (h1 : ∀ m, n = m + 1 → G.C v = true → d = .sc v → P)
    (h2 : ∀ m a xs, n = m + 1 → v = .ref a → S a → H a = some (.lst xs) → (xs.length ≤ G.L ∧ ∀ x ∈ xs, G.C x = true) → d = .ls xs → P)
    (h3 : ∀ m a ms f, n = m + 1 → v = .ref a → S a → H a = some (.dK (kvsOf ms)) → Mem S G H m ms f → d = .ob f → P) : P := by
  cases n with
  | zero => exact (show False from h).elim
  | succ m =>
    rcases h with ⟨a, b⟩ | ⟨a, xs, e, s, r, x, d⟩ | ⟨a, ms, f, e, s, r, nd, ks, d, no, at'⟩
    · exact h1 m rfl a b
    · exact h2 m a xs rfl e s r x d
    · exact h3 m a ms f rfl e s r ⟨nd, ks, no, at'⟩ d
theorem Dc.mono {S S' : Addr → Prop} {G : Gen} {H H' : Hp} (hS : ∀ a, S a → S' a) (hH : ∀ a u, S a → isTbl u = false → H a = some u → H' a = some u) : ∀ {n m v d}, n ≤ m → Dc S G H n v d → Dc S' G H' m v d
  | 0, _, _, _, _, h => (show False from h).elim
  | n + 1, 0, _, _, hl, _ => absurd hl (by omega)
  | n + 1, m + 1, v, d, hl, h => by
    rcases h with ⟨a, b⟩ | ⟨a, xs, e, s, r, x, d⟩ | ⟨a, ms, f, e, s, r, nd, ks, d, no, at'⟩
    · exact .inl ⟨a, b⟩
    · exact .inr (.inl ⟨a, xs, e, hS a s, hH a _ s rfl r, x, d⟩)
    · exact .inr (.inr ⟨a, ms, f, e, hS a s, hH a _ s rfl r, nd, ks, d, no, fun k u hu => Dc.mono hS hH (by omega) (at' k u hu)⟩)
theorem Dc.ex [TabL] {S G H H' n v d} (e : Ex H H') (h : Dc S G H n v d) : Dc S G H' n v d := Dc.mono (fun _ s => s) (fun a u _ z r => e.go a u r z) (Nat.le_refl _) h
theorem Dc.lift {S G H n m v d} (hl : n ≤ m) (h : Dc S G H n v d) : Dc S G H m v d := Dc.mono (fun _ s => s) (fun _ _ _ _ r => r) hl h
theorem Dc.imp {S S' : Addr → Prop} {G H n v d} (hS : ∀ a, S a → S' a) (h : Dc S G H n v d) : Dc S' G H n v d := Dc.mono hS (fun _ _ _ _ r => r) (Nat.le_refl _) h
theorem Mem.mono {S S' : Addr → Prop} {G : Gen} {H H' : Hp} {n m ms f} (hS : ∀ a, S a → S' a) (hH : ∀ a u, S a → isTbl u = false → H a = some u → H' a = some u) (hl : n ≤ m) (h : Mem S G H n ms f) : Mem S' G H' m ms f :=
  ⟨h.nd, h.ks, h.no, fun k u z => Dc.mono hS hH hl (h.at' k u z)⟩
theorem Mem.ex [TabL] {S G H H' n ms f} (e : Ex H H') (h : Mem S G H n ms f) : Mem S G H' n ms f := ⟨h.nd, h.ks, h.no, fun k u z => (h.at' k u z).ex e⟩
theorem Mem.imp {S S' : Addr → Prop} {G H n ms f} (hS : ∀ a, S a → S' a) (h : Mem S G H n ms f) : Mem S' G H n ms f := ⟨h.nd, h.ks, h.no, fun k u z => (h.at' k u z).imp hS⟩
theorem Mem.lift {S G H n m ms f} (hl : n ≤ m) (h : Mem S G H n ms f) : Mem S G H m ms f := ⟨h.nd, h.ks, h.no, fun k u z => (h.at' k u z).lift hl⟩
theorem Mem.nil {S G H n} : Mem S G H n [] (fun _ => .nil) := ⟨by simp, fun k z => (nomatch z), fun _ _ => rfl, fun k u z => nomatch z⟩
theorem Mem.len {S G H n ms f} (h : Mem S G H n ms f) : ms.length ≤ G.KS.length := by
  have := sub_len h.nd h.ks
  rwa [List.length_map] at this
theorem Mem.put {S G H n ms f k v e} (h : Mem S G H n ms f) (hk : k ∈ G.KS) (hv : Dc S G H n v e) : Mem S G H n (putK ms k v) (D.fup f k e) := by
  refine ⟨nodup_put k v h.nd, fun j hj => ?_, fun j hj => ?_, fun j u hu => ?_⟩
  · rcases (keys_put ms k v j).mp hj with z | z
    · rw [z]; exact hk
    · exact h.ks j z
  · rw [valV_put] at hj
    unfold D.fup
    by_cases z : j = k
    · rw [if_pos z] at hj; cases hj
    · rw [if_neg z] at hj ⊢
      exact h.no j hj
  · rw [valV_put] at hu
    unfold D.fup
    by_cases z : j = k
    · rw [if_pos z] at hu ⊢
      cases hu
      exact hv
    · rw [if_neg z] at hu ⊢
      exact h.at' j u hu
theorem Dc.ne_nil {S G H n v d} (h : Dc S G H n v d) : d.isNil = false := by
  refine h.cases (fun m _ _ e => ?_) (fun m a xs _ _ _ _ _ e => ?_) (fun m a ms f _ _ _ _ _ e => ?_) <;> subst e <;> rfl
theorem Dc.non {S G H n v d} (h : Dc S G H n v d) : d.isNon = decide (v = .non) := by
  refine h.cases (fun m _ hs e => ?_) (fun m a xs _ ev _ _ _ e => ?_) (fun m a ms f _ ev _ _ _ e => ?_)
  · subst e
    cases v <;> first | rfl | simp [D.isNon]
  · subst e; subst ev
    simp [D.isNon]
  · subst e; subst ev
    simp [D.isNon]
/-- an object of another depth than a's is not in the way of what is read: a may be changed -/
theorem Dc.away {S G H a o} : ∀ {n v d}, Dc S G H n v d → (∀ m e, m ≤ n → ¬ Dc S G H m (.ref a) e) → Dc S G (upd H a o) n v d
  | 0, _, _, h, _ => (show False from h).elim
  | n + 1, v, d, h, hn => by
    have ne : ∀ b, v = .ref b → b ≠ a := fun b e z => hn (n + 1) d (Nat.le_refl _) (by rw [← z, ← e]; exact h)
    have rd : ∀ b u, b ≠ a → H b = some u → (upd H a o) b = some u := fun b u z r => by
      rw [upd_ne z]
      exact r
    rcases h with ⟨x, y⟩ | ⟨b, xs, e, s, r, x, d⟩ | ⟨b, ms, f, e, s, r, nd, ks, d, no, at'⟩
    · exact .inl ⟨x, y⟩
    · exact .inr (.inl ⟨b, xs, e, s, rd b _ (ne b e) r, x, d⟩)
    · exact .inr (.inr ⟨b, ms, f, e, s, rd b _ (ne b e) r, nd, ks, d, no, fun k u hu => Dc.away (at' k u hu) fun m e' hm => hn m e' (by omega)⟩)
/-- the same values stand for the same document -/
theorem Dc.det {S S' G G' H} : ∀ {n m v d e}, Dc S G H n v d → Dc S' G' H m v e → d = e
  | 0, _, _, _, _, h, _ => (show False from h).elim
  | _ + 1, 0, _, _, _, _, h => (show False from h).elim
  | n + 1, m + 1, v, d, e, h, h' => by
    have same : ∀ {a : Addr} {u w : HO}, H a = some u → H a = some w → u = w := fun {a u w} r r' => Option.some.inj (r.symm.trans r')
    rcases h with ⟨x, y⟩ | ⟨b, xs, eb, s, r, x, dd⟩ | ⟨b, ms, f, eb, s, r, nd, ks, dd, no, at'⟩
    · rcases h' with ⟨x', y'⟩ | ⟨b', xs', e', s', r', x', d'⟩ | ⟨b', ms', f', e', s', r', nd', ks', d', no', at''⟩
      · rw [y, y']
      · subst e'; exact nomatch G.sc _ x
      · subst e'; exact nomatch G.sc _ x
    · subst eb
      rcases h' with ⟨x', y'⟩ | ⟨b', xs', e', s', r', x', d'⟩ | ⟨b', ms', f', e', s', r', nd', ks', d', no', at''⟩
      · exact nomatch G'.sc _ x'
      · cases e'
        have z := same r r'
        injection z with z
        rw [dd, d', z]
      · cases e'
        have z := same r r'
        cases z
    · subst eb
      rcases h' with ⟨x', y'⟩ | ⟨b', xs', e', s', r', x', d'⟩ | ⟨b', ms', f', e', s', r', nd', ks', d', no', at''⟩
      · exact nomatch G'.sc _ x'
      · cases e'
        have z := same r r'
        cases z
      · cases e'
        have z := same r r'
        injection z with z
        rw [dd, d']
        congr 1
        funext k
        have ez : valV ms k = valV ms' k := by rw [← valV_inK ms, ← valV_inK ms', z]
        cases hv : valV ms k with
        | none => rw [no k hv, no' k (by rw [← ez]; exact hv)]
        | some u => exact Dc.det (at' k u hv) (at'' k u (by rw [← ez]; exact hv))
/-- the least level at which a value stands for a document -/
theorem Dc.low {S G H v} : ∀ {n d}, Dc S G H n v d → ∃ m, m ≤ n ∧ Dc S G H m v d ∧ ∀ k e, k < m → ¬ Dc S G H k v e
  | 0, _, h => (show False from h).elim
  | n + 1, d, h => by
    by_cases c : ∃ k e, k < n + 1 ∧ Dc S G H k v e
    · obtain ⟨k, e, hk, he⟩ := c
      have := Dc.det h he
      subst this
      obtain ⟨m, h1, h2, h3⟩ := Dc.low (he.lift (by omega : k ≤ n))
      exact ⟨m, by omega, h2, h3⟩
    · exact ⟨n + 1, Nat.le_refl _, h, fun k e hk he => c ⟨k, e, hk, he⟩⟩
/-- the dict at a locked: its members as they stood -/
theorem Mem.lock {S G H n a ms f o} (ha : H a = some (.dK (kvsOf ms))) (hS : S a) (h : Mem S G H n ms f) : Mem S G (upd H a o) n ms f := by
  obtain ⟨m, hm, h2, h3⟩ := (Dc.ob (n := n) hS ha h).low
  refine h2.cases (fun k _ _ e => by cases e) (fun k b xs _ eb _ _ _ e => by cases e) (fun k b ms' f' ek eb _ r' M e => ?_)
  cases eb
  rw [ha] at r'
  have z : kvsOf ms' = kvsOf ms := by injection r' with r'; injection r' with r'; exact r'.symm
  have zz : ∀ j, valV ms' j = valV ms j := fun j => by rw [← valV_inK, ← valV_inK, z]
  injection e with e
  subst e
  exact ⟨h.nd, h.ks, h.no, fun j u hu => ((M.at' j u (by rw [zz]; exact hu)).away fun i e hi he => h3 i e (by omega) he).lift (by omega)⟩
/-- changes elsewhere -/
theorem Dc.off {S G H n v d a o} (h : Dc S G H n v d) (hS : ¬ S a) : Dc S G (upd H a o) n v d := Dc.mono (fun _ z => z) (fun b u s _ r => by rw [upd_ne (fun z => hS (by rw [← z]; exact s))]; exact r) (Nat.le_refl _) h
theorem Mem.off {S G H n ms f a o} (h : Mem S G H n ms f) (hS : ¬ S a) : Mem S G (upd H a o) n ms f := ⟨h.nd, h.ks, h.no, fun k u z => (h.at' k u z).off hS⟩
theorem ex_unlock [TabL] {H H2 : Hp} {a : Addr} {f u : HO} (hu : H a = some u) (e : Ex (upd H a f) H2) (p1 : isPl u = true := by rfl) (p2 : isPl f = true := by rfl) : Ex H (upd H2 a u) := by
  have nt : ∀ {w : HO}, isPl w = true → isTbl w = false := fun {w} h => by cases w <;> first | rfl | exact h | exact nomatch h
  have h2 : H2 a = some f := e.go a f upd_same (nt p2)
  refine ⟨fun b o hb z => ?_, fun b hb => ?_, fun b q r t => ?_⟩
  · by_cases y : b = a
    · subst y
      rw [hu] at hb
      rw [upd_same]
      exact hb
    · rw [upd_ne y]
      exact e.go b o (by rw [upd_ne y]; exact hb) z
  · by_cases y : b = a
    · subst y
      rw [upd_same]
      exact fun z => nomatch z
    · rw [upd_ne y]
      exact e.ne b (by rw [upd_ne y]; exact hb)
  · exact tab_upd (e.tab b q r (tab_upd t fun w hw => by rw [hu] at hw; cases hw; exact p1)) fun w hw => by rw [h2] at hw; cases hw; exact p2
theorem take_keys {ms : List (Str × V)} {i : Nat} {k : Str} {u : V} (h : ms[i]? = some (k, u)) (j : Str) : (j ∈ (ms.take (i + 1)).map (·.1)) ↔ (j ∈ (ms.take i).map (·.1) ∨ j = k) := by
  rw [List.take_add_one, h]
  simp
/-- f at the first i keys, g at the others -/
def mix (ms : List (Str × V)) (i : Nat) (f g : Str → D) : Str → D := fun k => if k ∈ (ms.take i).map (·.1) then f k else g k
theorem mix_zero {ms : List (Str × V)} {f g : Str → D} : mix ms 0 f g = g := by
  funext k
  simp [mix]
theorem mix_succ {ms : List (Str × V)} {i : Nat} {k : Str} {u : V} {f g : Str → D} (h : ms[i]? = some (k, u)) : D.fup (mix ms i f g) k (f k) = mix ms (i + 1) f g := by
  funext j
  unfold D.fup mix
  simp only [take_keys h]
  by_cases z : j = k
  · simp [z]
  · simp [z]
theorem mix_all {ms : List (Str × V)} {f g : Str → D} (h : ∀ k, k ∉ ms.map (·.1) → f k = g k) : mix ms ms.length f g = f := by
  funext j
  unfold mix
  rw [List.take_length]
  by_cases c : j ∈ ms.map (·.1)
  · rw [if_pos c]
  · rw [if_neg c, h j c]
theorem mix_new {ms : List (Str × V)} {i : Nat} {k : Str} {u : V} {f g : Str → D} (nd : (ms.map (·.1)).Nodup) (h : ms[i]? = some (k, u)) : mix ms i f g k = g k := by
  unfold mix
  rw [if_neg]
  intro hk
  have hi : i < ms.length := (List.getElem?_eq_some_iff.mp h).1
  obtain ⟨p, hp, e⟩ := List.mem_map.mp hk
  obtain ⟨j, hj, ej⟩ := List.getElem_of_mem hp
  rw [List.length_take] at hj
  have e2 : (ms.map (·.1))[j]? = some k := by
    rw [List.getElem?_map, List.getElem?_eq_getElem (by omega)]
    rw [List.getElem_take] at ej
    rw [ej, ← e]
    rfl
  have e3 : (ms.map (·.1))[i]? = some k := by
    rw [List.getElem?_map, h]
    rfl
  have := (List.getElem?_inj (by rw [List.length_map]; omega) nd).mp (e2.trans e3.symm)
  omega
theorem Dc.alloc {S G H} : ∀ {n v d}, Dc S G H n v d → Dc (fun x => S x ∧ H x ≠ none) G H n v d
  | 0, _, _, h => h
  | n + 1, v, d, h => by
    have al : ∀ {a : Addr} {o : HO}, H a = some o → H a ≠ none := fun r z => by rw [z] at r; cases r
    rcases h with ⟨x, y⟩ | ⟨b, xs, e, s, r, x, d⟩ | ⟨b, ms, f, e, s, r, nd, ks, d, no, at'⟩
    · exact .inl ⟨x, y⟩
    · exact .inr (.inl ⟨b, xs, e, ⟨s, al r⟩, r, x, d⟩)
    · exact .inr (.inr ⟨b, ms, f, e, ⟨s, al r⟩, r, nd, ks, d, no, fun k u hu => Dc.alloc (at' k u hu)⟩)
theorem Mem.alloc {S G H n ms f} (h : Mem S G H n ms f) : Mem (fun x => S x ∧ H x ≠ none) G H n ms f := ⟨h.nd, h.ks, h.no, fun k u hu => (h.at' k u hu).alloc⟩
theorem app_tgt {d e : D} (h : d.tgt = e.tgt) (p : D) : D.app d p = D.app e p := by
  cases p with
  | ob g =>
    rw [app_ob, app_ob, h]
  | _ => rfl
theorem mix_skip {ms : List (Str × V)} {i : Nat} {k : Str} {u : V} {f g : Str → D} (h : ms[i]? = some (k, u)) (e : f k = g k) : mix ms i f g = mix ms (i + 1) f g := by
  funext j
  unfold mix
  simp only [take_keys h]
  by_cases z : j = k
  · subst z
    simp [e]
  · simp [z]
theorem Ex.both [TabL] {H H' : Hp} {a : Addr} {o u : HO} (e : Ex H H') (hu : H a = some u) (p1 : isPl u = true := by rfl) (p2 : isPl o = true := by rfl) : Ex (upd H a o) (upd H' a o) := by
  have nt : ∀ {w : HO}, isPl w = true → isTbl w = false := fun {w} h => by cases w <;> first | rfl | exact h | exact nomatch h
  have h' : H' a = some u := e.go a u hu (nt p1)
  refine ⟨fun b w h z => ?_, fun b hb => ?_, fun b q r t => ?_⟩
  · by_cases y : b = a
    · subst y
      rw [upd_same] at h ⊢
      exact h
    · rw [upd_ne y] at h ⊢
      exact e.go b w h z
  · by_cases y : b = a
    · subst y
      rw [upd_same]
      exact fun z => nomatch z
    · rw [upd_ne y] at hb ⊢
      exact e.ne b hb
  · have t0 : LamX.TabS H b q := by
      have z := tab_upd (p := a) (o := u) t fun w hw => by rw [upd_same] at hw; cases hw; exact p2
      have e2 : upd (upd H a o) a u = H := by
        rw [upd_upd]
        funext c
        by_cases y : c = a
        · rw [y, upd_same, hu]
        · rw [upd_ne y]
      rwa [e2] at z
    exact tab_upd (e.tab b q r t0) fun w hw => by rw [h'] at hw; cases hw; exact p1
/-- at most p parts -/
def PD : D → Nat → Prop
  | .nil, _ => True
  | .sc _, p => 1 ≤ p
  | .ls _, p => 1 ≤ p
  | .ob f, p => ∃ (ks : List Str) (q : Str → Nat), (∀ k, (f k).isNil = false → k ∈ ks) ∧ (∀ k, PD (f k) (q k)) ∧ 1 + (ks.map q).sum ≤ p
theorem PD.mono : ∀ {d : D} {p q : Nat}, p ≤ q → PD d p → PD d q
  | .nil, _, _, _, _ => trivial
  | .sc _, _, _, h, z => Nat.le_trans z h
  | .ls _, _, _, h, z => Nat.le_trans z h
  | .ob _, _, _, h, ⟨ks, q, a, b, c⟩ => ⟨ks, q, a, b, Nat.le_trans c h⟩
theorem sum_sub (q : Str → Nat) : ∀ {xs ys : List Str}, xs.Nodup → (∀ x ∈ xs, x ∈ ys) → (xs.map q).sum ≤ (ys.map q).sum
  | [], _, _, _ => Nat.zero_le _
  | x :: xs, ys, nd, h => by
    rw [List.nodup_cons] at nd
    have hx := h x List.mem_cons_self
    have h2 : ∀ z ∈ xs, z ∈ ys.erase x := fun z hz => (List.mem_erase_of_ne (fun e => nd.1 (by rw [← e]; exact hz))).mpr (h z (List.mem_cons_of_mem _ hz))
    have h3 := sum_sub q nd.2 h2
    have h4 : (ys.map q).sum = q x + ((ys.erase x).map q).sum := by
      have := (List.perm_cons_erase hx).map q
      rw [this.sum_nat]
      simp
    rw [List.map_cons, List.sum_cons]
    omega
/-- objects nested at most p deep -/
def DD : D → Nat → Prop
  | .ob f, p => 1 ≤ p ∧ ∀ k, DD (f k) (p - 1)
  | _, _ => True
theorem DD.mono : ∀ {d : D} {p q : Nat}, p ≤ q → DD d p → DD d q
  | .nil, _, _, _, _ => trivial
  | .sc _, _, _, _, _ => trivial
  | .ls _, _, _, _, _ => trivial
  | .ob _, _, _, h, ⟨a, b⟩ => ⟨Nat.le_trans a h, fun k => DD.mono (by omega) (b k)⟩
theorem Dc.avoid {S G H a} : ∀ {n v d}, Dc S G H n v d → (∀ m e, m ≤ n → ¬ Dc S G H m (.ref a) e) → Dc (fun x => S x ∧ x ≠ a) G H n v d
  | 0, _, _, h, _ => h
  | n + 1, v, d, h, hn => by
    have ne : ∀ b, v = .ref b → b ≠ a := fun b e z => hn (n + 1) d (Nat.le_refl _) (by rw [← z, ← e]; exact h)
    rcases h with ⟨x, y⟩ | ⟨b, xs, e, s, r, x, d⟩ | ⟨b, ms, f, e, s, r, nd, ks, d, no, at'⟩
    · exact .inl ⟨x, y⟩
    · exact .inr (.inl ⟨b, xs, e, ⟨s, ne b e⟩, r, x, d⟩)
    · exact .inr (.inr ⟨b, ms, f, e, ⟨s, ne b e⟩, r, nd, ks, d, no, fun k u hu => Dc.avoid (at' k u hu) fun m e' hm => hn m e' (by omega)⟩)
theorem Mem.avoid {S G H n a ms f} (ha : H a = some (.dK (kvsOf ms))) (hS : S a) (h : Mem S G H n ms f) : Mem (fun x => S x ∧ x ≠ a) G H n ms f := by
  obtain ⟨m, hm, h2, h3⟩ := (Dc.ob (n := n) hS ha h).low
  refine h2.cases (fun k _ _ e => by cases e) (fun k b xs _ eb _ _ _ e => by cases e) (fun k b ms' f' ek eb _ r' M e => ?_)
  cases eb
  rw [ha] at r'
  have z : kvsOf ms' = kvsOf ms := by injection r' with r'; injection r' with r'; exact r'.symm
  have zz : ∀ j, valV ms' j = valV ms j := fun j => by rw [← valV_inK, ← valV_inK, z]
  injection e with e
  subst e
  exact ⟨h.nd, h.ks, h.no, fun j u hu => ((M.at' j u (by rw [zz]; exact hu)).avoid fun i e hi he => h3 i e (by omega) he).lift (by omega)⟩
theorem not_taken {ms : List (Str × V)} {i : Nat} {k : Str} {u : V} (nd : (ms.map (·.1)).Nodup) (h : ms[i]? = some (k, u)) : k ∉ (ms.take i).map (·.1) := by
  intro hk
  have hi : i < ms.length := (List.getElem?_eq_some_iff.mp h).1
  obtain ⟨p, hp, e⟩ := List.mem_map.mp hk
  obtain ⟨j, hj, ej⟩ := List.getElem_of_mem hp
  rw [List.length_take] at hj
  have e2 : (ms.map (·.1))[j]? = some k := by
    rw [List.getElem?_map, List.getElem?_eq_getElem (by omega)]
    rw [List.getElem_take] at ej
    rw [ej, ← e]
    rfl
  have e3 : (ms.map (·.1))[i]? = some k := by
    rw [List.getElem?_map, h]
    rfl
  have := (List.getElem?_inj (by rw [List.length_map]; omega) nd).mp (e2.trans e3.symm)
  omega
theorem merge_nodup : ∀ (ms pre : List (Str × V)), ((pre ++ ms).map (·.1)).Nodup → mergeK (kvsOf pre) (kvsOf ms) = kvsOf (pre ++ ms)
  | [], pre, _ => by simp [mergeK]
  | p :: ms, pre, h => by
    have h1 : valV pre p.1 = none := valV_none_of fun z => by
      rw [List.map_append, List.nodup_append] at h
      exact h.2.2 _ z _ (by simp) rfl
    have h2 : putK (kvsOf pre) (Sum.inr p.1) p.2 = kvsOf (pre ++ [p]) := by
      rw [putK_inK, putK_new _ h1]
    have h3 := merge_nodup ms (pre ++ [p]) (by simpa using h)
    show mergeK (putK (kvsOf pre) (Sum.inr p.1) p.2) (kvsOf ms) = _
    rw [h2, h3]
    simp
theorem Mem.drop {S G H n ms f} (h : Mem S G H n ms f) (k : Str) : Mem S G H n (ms.filter fun p => decide (p.1 ≠ k)) (D.fup f k .nil) := by
  have sub : ∀ {j : Str} {u : V}, valV (ms.filter fun p => decide (p.1 ≠ k)) j = some u → valV ms j = some u ∧ j ≠ k := fun {j u} z => by
    have hm := valV_mem z
    rw [List.mem_filter] at hm
    exact ⟨valV_of_mem h.nd hm.1, of_decide_eq_true hm.2⟩
  refine ⟨h.nd.sublist (List.filter_sublist.map _), fun j hj => ?_, fun j hj => ?_, fun j u hu => ?_⟩
  · obtain ⟨p, hp, e⟩ := List.mem_map.mp hj
    exact h.ks j (List.mem_map.mpr ⟨p, (List.mem_filter.mp hp).1, e⟩)
  · unfold D.fup
    by_cases z : j = k
    · rw [if_pos z]
    · rw [if_neg z]
      cases e : valV ms j with
      | none => exact h.no j e
      | some u =>
        have : j ∈ (ms.filter fun p => decide (p.1 ≠ k)).map (·.1) := List.mem_map.mpr ⟨(j, u), List.mem_filter.mpr ⟨valV_mem e, decide_eq_true z⟩, rfl⟩
        obtain ⟨w, hw⟩ := valV_some_of this
        rw [hj] at hw
        cases hw
  · obtain ⟨h1, h2⟩ := sub hu
    unfold D.fup
    rw [if_neg h2]
    exact h.at' j u h1
end TP

namespace TP
open PySem PySem.Spec PyProof.Rows L2
/-! ### defs that are only called where no repr is under way -/
structure FnOkG (P : Program) (w : World) (K : PySem.W.Frag) (mg : Str → Option Value) (base : Heap) (CX : CXT) (k : Nat) (f : Addr) (fd : FuncData) (ps : List Str) (sp : Sp) : Prop where
  len : ∀ vs H Q E, sp vs H Q E → vs.length = ps.length
  run : ∀ (A : Around) (outer : List Env) (s : Shared) (H : Hp) (args : Args) (us : List Value) (vs : List V) (Q : VK) (E : XK), A.guards = some [] → Room k A → Env0 P w K mg base A outer s H →
    BindsTo s fd args (ps.zip us) → Vals vs us → sp vs H Q E → codeAny (model P w) A (.call (.ref f) args) (CR CX outer P w H s Q E) s
section
variable {P : Program} {w : World} {K : PySem.W.Frag} {mg : Str → Option Value} {base : Heap} {CX : CXT}
theorem okG {x qual : Str} {st : Stmt} {f : Addr} {fd : FuncData} {N ps : List Str} {k : Nat} {sp : Sp} (F : Fun K x qual st f fd) (S : FnScope N ps (defScope st)) (len : ∀ vs H Q E, sp vs H Q E → vs.length = ps.length)
    (body : ∀ (cdv : Value) (A : Around) (outer : List Env) (s : Shared) (H : Hp) (vs : List V) (Q : VK) (E : XK), A.guards = some [] → Room k (A.deeper (envOfC qual (defScope st) s.heap.objs.size f cdv)) → sp vs H Q E →
      ∃ t, PSs (cxOf CX P w K mg base N qual (defScope st) f cdv A outer s H E).nox (defBody st) t ∧ t { nx := fun _ H' => Q .non H', rt := Q } (start N vs) H) : FnOkG P w K mg base CX (k + 1) f fd ps sp := by
  obtain ⟨oc, od, kV, doc, pm, an, cdv, ct, osl, rfl, lk, hcd⟩ := F.ex
  refine ⟨len, fun A outer s H args us vs Q E hg room e0 hb rel want => ?_⟩
  have hl := len _ _ _ _ want
  have kin : K.In s.heap := e0.mod.kin.keeps fun b o e => (e0.bs b o e).1
  have nol : s.heap.NoLimit := e0.mod.nolimit.keeps fun b o e => (e0.bs b o e).1
  refine codeAny_call_function room.depth (kin _ _ lk) rfl S.co S.gen rfl (PySem.W.codeRec_of kin hcd) (hb _ _ _ _ ?_)
  refine wpAny_newFunctionEnv_cells S.kind (fun ⟨n, v⟩ hy => (S.par n (List.of_mem_zip hy).1).imp id fun q => ⟨q, PySem.W.cellsFrom_some _ _ _ (.inl q)⟩) fun env he s1 x => ?_
  subst he
  refine ⟨nol.keeps x.toInCall.keep, codeAny_func ?_⟩
  obtain ⟨t, ht, hq⟩ := body cdv A outer s H vs Q E hg (room.deeper _) want
  refine wpAny_mono (ht.nox.run [] s1 (start N vs) H _ (inv_start S room.hd e0 hl rel x) hq) (fun fl s' h => ?_) fun _ _ h => h
  cases fl with
  | ret u => exact let ⟨v, _, H', J, rv, q⟩ := h; ⟨v, H', J.os, J.bare, J.base, J.hok, rv, q⟩
  | next => exact let ⟨_, H', J, q⟩ := h; ⟨V.non, H', J.os, J.bare, J.base, J.hok, rfl, q⟩
  | brk => exact let ⟨_, _, _, q⟩ := h; False.elim q
  | cont => exact let ⟨_, _, _, q⟩ := h; False.elim q
/-- a call of such a def -/
theorem pe_callG {X : Cx} {k : Nat} {f : Addr} {fd : FuncData} {ps : List Str} {sp : Sp} {E : XK} {x : Str} {p pos : Pos} {e : Expr} {es : List Expr} {t : TA} (F : FnOkG X.prog X.w X.K X.mg X.base CX k f fd ps sp) (hgd : X.A.guards = some []) (hr : Room k X.A) (hg : Gl X x)
    (hm : X.mg x = some (.ref f)) (hk : PySem.W.keepIn X.K (.ref f) = true) (hb : Binds X.K fd ps []) (hx : Passes CX X E) (ha : PA X (e :: es) t) (hdb : (x == ("__debug__" : Str)) = false := by decide)
    (he : starEach (e :: es) X.env = (false, eval e X.env) :: starEach es X.env := by rfl) (hpl : (backTo pos (starEach es X.env)).any (·.1) = false := by rfl) :
    PE X (.Call (.Name x p) (e :: es) [] pos) (tCall sp [] E t) := by
  refine ⟨fun pins s σ H Q I h => ?_⟩
  refine wpAny_Call_Name_kw (ld_glob I hg hm ?_ hdb)
  refine PySem.W.callWith_K (h₀ := X.base) I.ok.mod.kin hk (thn (ha.run pos pins s σ H _ I h) fun us s1 ⟨vs, H1, I1, r1, q1⟩ => ⟨I1.kIn, ?_⟩) he hpl
  have q1 : sp (vs ++ []) H1 Q E := q1
  rw [List.append_nil] at q1
  have hl : (us ++ []).length = ps.length := by rw [List.append_nil, ← Paired.length r1]; exact F.len _ _ _ _ q1
  have bt := hb s1 us I1.kIn hl
  rw [List.append_nil] at bt
  refine wpAny_call (codeAny_mono (F.run X.A X.stack s1 H1 ⟨us, []⟩ us vs Q E hgd hr I1.env0 bt r1 q1) fun r s' h' => ?_)
  cases r with
  | error er => exact hx pins σ _ _ er s' I1 h'
  | ok fl =>
    cases fl with
    | ret u => exact I1.after h'
    | next => exact False.elim h'
    | brk => exact False.elim h'
    | cont => exact False.elim h'
/-- the script's list as it stands at the entry -/
def ScrAt (K : PySem.W.Frag) (H : Hp) (a : Addr) (xs : List V) : Prop := ∃ its : List Value, Vals xs its ∧ xs.length ≤ 1000 ∧
  (K.lookup a = some { cls := .type "list", data := .seq its.toArray } ∨ H a = some (.frz { cls := .type "list", data := .seq its.toArray } (.lst xs)))
theorem ScrAt.ex [TabL] {K H H' a xs} (e : Ex H H') (h : ScrAt K H a xs) : ScrAt K H' a xs := let ⟨i, r, l, z⟩ := h; ⟨i, r, l, z.imp id fun y => e.go a _ y rfl⟩
/-- the head's end, for a law whose own def asks that no repr is under way -/
theorem walk_G {l : PySem.W.OpenLaw} {n k : Nat} {q : Program} {loose : List Str} {XP : (Str → Option Value) → Heap → Prop} {YP : World → Heap → Prop} {d : DefRec} {K : Params → PySem.W.Frag} {sp : PySem.W.Frag → Sp} {x : Str}
    (hn : l.most = some n) (hn2 : n ≤ 1000) (hdf : d.params.defaults = []) (hr : Room k callerA) (hY : ∀ (w : World) (h : Heap), YP w h → (K w.params).In h)
    (F : ∀ (w : World) (mg : Str → Option Value) (fa : Addr) (h : Heap), (K w.params).In h → h.Ns mainGlobals mg → mg d.name = some (.ref fa) →
      ∃ fd : FuncData, (∀ (s : Shared) (u : Value), BindsTo s fd ⟨[u], []⟩ [(x, u)]) ∧
        ∀ base : Heap, (K w.params).In base → base.Ns mainGlobals mg → FnOkG l.prog w (K w.params) mg base CX0 k fa fd [x] (sp (K w.params)))
    (hsp : ∀ (K : PySem.W.Frag) (H : Hp) (a : Addr) (ns : List Int), ns.length ≤ n → Only H → ScrAt K H a (ns.map V.int) → sp K [.ref a] H (fun v _ => v = .bl true) fun _ _ _ => False) :
    PySem.W.WalkO q loose XP YP l.row.toRowW d [] (fun f vs => PySem.call f vs) := by
  refine Att.attach_call hn hdf fun w s₀ s₁ mg mb fa o pm cd doc a vs ns G Y ho hd hcd hmg hobj hints hlen hg => ?_
  have KX := hY w _ Y
  obtain ⟨fd, hbind, hF⟩ := F w mg fa _ KX G.T.g hmg
  have hl1 : (ns.map V.int).length ≤ 1000 := by rw [List.length_map]; exact Nat.le_trans hlen hn2
  have hl : ns.length ≤ sizeLine := Nat.le_trans (Nat.le_trans hlen hn2) (by decide)
  have rel := vals_ints hints
  -- what may be tracked at the entry: the script's list, if the module does not own it
  have main : ∀ H : Hp, Only H → ScrAt (K w.params) H a (ns.map V.int) → HOk l.prog w H s₁.heap → (∀ b, H b ≠ none → b = a ∧ (K w.params).lookup a = none) →
      codeAny (model l.prog w) callerA (.call (.ref fa) ⟨[.ref a], []⟩) (fun r s' => r = .ok (.ret (.bool true)) ∧ OldK s₁.heap s'.heap ∧ s'.os = s₁.os ∧ AllBare s'.gens) s₁ := fun H hO hS hok only => by
    have free : ∀ {b : Addr} {ob : Obj}, s₁.heap.get? b = some ob → (b = a → ∃ es ep, ob.data = .dict es ep) → H b = none := fun {b ob} e z => by
      cases hb : H b with
      | none => rfl
      | some u =>
        have eb := (only b (by rw [hb]; exact fun y => nomatch y)).1
        obtain ⟨es, ep, dz⟩ := z eb
        rw [eb, hobj] at e
        cases e
        exact nomatch dz
    have ns' : ∀ {b : Addr} {m : Str → Option Value}, s₁.heap.Ns b m → (hidT s₁.heap H).Ns b m := fun {b m} h => by
      obtain ⟨ob, es, ep, e1, e2, e3⟩ := h
      exact ⟨ob, es, ep, hidT_get e1 (free e1 fun _ => ⟨es, ep, e2⟩), e2, e3⟩
    have kin : (K w.params).In (hidT s₁.heap H) := fun b ob e => hidT_get (KX b ob e) (by
      cases hb : H b with
      | none => rfl
      | some u =>
        obtain ⟨eb, e0⟩ := only b (by rw [hb]; exact fun y => nomatch y)
        rw [eb, e0] at e
        cases e)
    have env : Env0 l.prog w (K w.params) mg (hidT s₁.heap H) callerA [] s₁ H :=
      ⟨rfl, ⟨kin, ns' G.T.g, ⟨mb, ns' G.T.b, G.T.builtins⟩, G.T.nolimit.imp fun _ h => ⟨ns' h.1, h.2⟩⟩, fun _ _ e => of_hidT e, Nat.le_of_eq (hidT_size _ _), trivial, fun _ hb => absurd hb (by simp [frs]), hok, .of_eq hg⟩
    refine codeAny_mono ((hF _ kin (ns' G.T.g)).run callerA [] s₁ H ⟨[.ref a], []⟩ [.ref a] [.ref a] _ _ rfl hr env (hbind s₁ (.ref a)) (.cons rfl .nil) (hsp _ H a ns hlen hO hS)) fun r s' h => ?_
    match r, h with
    | .ok (.ret u), h =>
      obtain ⟨v, H', os, bare, un, hok', rv, qv⟩ := h
      have qv : v = .bl true := qv
      subst qv
      obtain rfl : u = Value.bool true := rv
      refine ⟨rfl, OldK.of_keep fun b ob e => ?_, os, bare⟩
      rcases hO b with z | ⟨ob', xs, z⟩
      · exact un.keep b ob e z (by simp [frs]) (by simp)
      · have h1 := (hok b _ z).1
        have h2 := (hok' b _ (un.frzs b ob' _ z)).1
        rw [e] at h1
        cases h1
        exact h2
    | .error _, h => exact h.elim
    | .ok .next, h => exact h.elim
    | .ok .brk, h => exact h.elim
    | .ok .cont, h => exact h.elim
  have lenV := hints.length
  cases hk : (K w.params).lookup a with
  | some ob =>
    have e := KX a ob hk
    rw [hobj] at e
    cases e
    exact main (fun _ => none) (fun _ => .inl rfl) ⟨vs, rel, hl1, .inl hk⟩ (fun _ _ z => nomatch z) fun _ z => absurd rfl z
  | none =>
    have one : ∀ {b : Addr} {u : HO}, (if b = a then some (HO.frz { cls := .type "list", data := .seq vs.toArray } (.lst (ns.map V.int))) else none) = some u → b = a ∧ u = .frz { cls := .type "list", data := .seq vs.toArray } (.lst (ns.map V.int)) := fun {b u} z => by
      by_cases hb : b = a
      · rw [if_pos hb] at z
        exact ⟨hb, (Option.some.inj z).symm⟩
      · rw [if_neg hb] at z
        cases z
    refine main (fun b => if b = a then some (.frz { cls := .type "list", data := .seq vs.toArray } (.lst (ns.map V.int))) else none) (fun b => ?_) ⟨vs, rel, hl1, .inr (if_pos rfl)⟩ (fun b u z => ?_) fun b z => ?_
    · by_cases hb : b = a
      · exact .inr ⟨_, _, if_pos hb⟩
      · exact .inl (if_neg hb)
    · obtain ⟨rfl, rfl⟩ := one z
      exact ⟨hobj, by rw [List.length_map]; exact hl, vs, _, rel, hobj⟩
    · obtain ⟨u, hu⟩ := Option.ne_none_iff_exists'.mp z
      exact ⟨(one hu).1, hk⟩
end
end TP

namespace TP
open PySem PySem.Spec PyProof.Rows L2
theorem tabs0 {H : Hp} {P : Addr} {q : Str} (h : H P = some (.tbl #[])) : LamX.TabS H P q := LamX.TabS.nil h
/-- a code object's head, from what is told of it -/
theorem code_hd {K : PySem.W.Frag} {h : Heap} {c P : Addr} {od : Option Addr} {vs : Array Value} {sl : Array (Option Value)} {file : Str} {tf : Tok} {flags : Int} {tg : Tok} {inF : Bool} {text : Int} {tt : Tok} (X : K.In h) (l : K.lookup c = some ⟨.type "code", od, .fields vs, sl⟩) (h0 : vs[11]? = some (.ref P)) (h1 : vs.getD 11 .none = .ref P) (h2 : vs.getD 18 .none = .str file tf) (h3 : vs.getD 7 .none = .int flags tg) (h4 : vs.getD 9 .none = .bool inF) (h5 : vs.getD 10 .none = .int text tt) (ne : c ≠ P) : PySem.W.CodeHd h c P :=
  ⟨_, vs, file, tf, flags, tg, inF, text, tt, X c _ l, rfl, rfl, h0, h1, h2, h3, h4, h5, ne⟩
/-- what is tracked at the entry: the script's list, and one code table -/
def OnlyT (Pt : Addr) (H : Hp) : Prop := ∀ b, H b = none ∨ (b = Pt ∧ H b = some (.tbl #[])) ∨ ∃ o xs, H b = some (.frz o (.lst xs))
/-- the head's end, for a law whose own def asks that no repr is under way, and a code table -/
theorem walk_GT {l : PySem.W.OpenLaw} {n k : Nat} {q : Program} {loose : List Str} {XP : (Str → Option Value) → Heap → Prop} {YP : World → Heap → Prop} {d : DefRec} {K : Params → PySem.W.Frag} {sp : PySem.W.Frag → Addr → Sp} {x : Str}
    (hn : l.most = some n) (hn2 : n ≤ 1000) (hdf : d.params.defaults = []) (hr : Room k callerA) (hY : ∀ (w : World) (h : Heap), YP w h → (K w.params).In h)
    (F : ∀ (w : World) (mg : Str → Option Value) (fa : Addr) (h : Heap), YP w h → (K w.params).In h → h.Ns mainGlobals mg → mg d.name = some (.ref fa) →
      ∃ (c Pt : Addr), h.get? Pt = some (PySem.W.tabObj #[]) ∧ (K w.params).lookup Pt = none ∧ PySem.W.CodeHd h c Pt ∧ ∃ fd : FuncData, (∀ (s : Shared) (u : Value), BindsTo s fd ⟨[u], []⟩ [(x, u)]) ∧
        ∀ base : Heap, (K w.params).In base → base.Ns mainGlobals mg → LamX.TabB base mg c Pt → FnOkG l.prog w (K w.params) mg base CX0 k fa fd [x] (sp (K w.params) Pt))
    (hsp : ∀ (K : PySem.W.Frag) (H : Hp) (a Pt : Addr) (ns : List Int), ns.length ≤ n → H Pt = some (.tbl #[]) → ScrAt K H a (ns.map V.int) → sp K Pt [.ref a] H (fun v _ => v = .bl true) fun _ _ _ => False) :
    PySem.W.WalkO q loose XP YP l.row.toRowW d [] (fun f vs => PySem.call f vs) := by
  refine Att.attach_call hn hdf fun w s₀ s₁ mg mb fa o pm cd doc a vs ns G Y ho hd hcd hmg hobj hints hlen hg => ?_
  have KX := hY w _ Y
  obtain ⟨c, Pt, hPt, hKP, hcode, fd, hbind, hF⟩ := F w mg fa _ Y KX G.T.g hmg
  have hl1 : (ns.map V.int).length ≤ 1000 := by rw [List.length_map]; exact Nat.le_trans hlen hn2
  have hl : ns.length ≤ sizeLine := Nat.le_trans (Nat.le_trans hlen hn2) (by decide)
  have rel := vals_ints hints
  have naP : a ≠ Pt := fun z => by
    rw [z, hPt] at hobj
    cases hobj
  have main : ∀ H : Hp, OnlyT Pt H → H Pt = some (.tbl #[]) → ScrAt (K w.params) H a (ns.map V.int) → HOk l.prog w H s₁.heap → (∀ b, H b ≠ none → b = Pt ∨ (b = a ∧ (K w.params).lookup a = none)) →
      codeAny (model l.prog w) callerA (.call (.ref fa) ⟨[.ref a], []⟩) (fun r s' => r = .ok (.ret (.bool true)) ∧ OldK s₁.heap s'.heap ∧ s'.os = s₁.os ∧ AllBare s'.gens) s₁ := fun H hO hT hS hok only => by
    have free : ∀ {b : Addr} {ob : Obj}, s₁.heap.get? b = some ob → (b = a ∨ b = Pt → False) → H b = none := fun {b ob} e z => by
      cases hb : H b with
      | none => rfl
      | some u => exact ((only b (by rw [hb]; exact fun y => nomatch y)).elim (fun y => z (.inr y)) fun y => z (.inl y.1)).elim
    have ns' : ∀ {b : Addr} {m : Str → Option Value}, s₁.heap.Ns b m → (hidT s₁.heap H).Ns b m := fun {b m} h => by
      obtain ⟨ob, es, ep, e1, e2, e3⟩ := h
      exact ⟨ob, es, ep, hidT_get e1 (free e1 fun z => by
        rcases z with z | z
        · rw [z, hobj] at e1; cases e1; cases e2
        · rw [z, hPt] at e1; cases e1; cases e2), e2, e3⟩
    have kin : (K w.params).In (hidT s₁.heap H) := fun b ob e => hidT_get (KX b ob e) (by
      cases hb : H b with
      | none => rfl
      | some u =>
        rcases only b (by rw [hb]; exact fun y => nomatch y) with z | ⟨z, z0⟩
        · rw [z, hKP] at e; cases e
        · rw [z, z0] at e; cases e)
    have obs : ∀ {b : Addr} {ob : Obj}, s₁.heap.get? b = some ob → ob.cls ≠ .type "list" → ob.cls ≠ .none → (hidT s₁.heap H).get? b = some ob := fun {b ob} e n1 n2 => hidT_get e (free e fun z => by
        rcases z with z | z
        · rw [z, hobj] at e; cases e; exact n1 rfl
        · rw [z, hPt] at e; cases e; exact n2 rfl)
    have tb : LamX.TabB (hidT s₁.heap H) mg c Pt := by
      obtain ⟨og, es, ep, g1, g2, _⟩ := G.T.g
      obtain ⟨bm, ob, b1, b2, b3, b4, b5, b6⟩ := G.T.bmain
      obtain ⟨oc, vs', r1, r2, r3, r4, r5, r6, r7, e1, e2, e3⟩ := hcode
      refine ⟨⟨oc, vs', r1, r2, r3, r4, r5, r6, r7, obs e1 (by rw [e2]; exact fun z => nomatch z) (by rw [e2]; exact fun z => nomatch z), e2, e3⟩, ⟨bm, ob, b1, b2, ?_, ?_, obs b3 (by rw [b4]; exact fun z => by injection z with z; exact absurd z (by decide)) (by rw [b4]; exact fun z => nomatch z), b4, b5, b6⟩, ?_⟩
      · intro z; rw [z, g1] at b3; cases b3; rw [g2] at b6; cases b6
      · intro z; rw [z, hPt] at b3; cases b3; cases b6
      · intro z; rw [z, hPt] at g1; cases g1; cases g2
    have env : Env0 l.prog w (K w.params) mg (hidT s₁.heap H) callerA [] s₁ H :=
      ⟨rfl, ⟨kin, ns' G.T.g, ⟨mb, ns' G.T.b, G.T.builtins⟩, G.T.nolimit.imp fun _ h => ⟨ns' h.1, h.2⟩⟩, fun _ _ e => of_hidT e, Nat.le_of_eq (hidT_size _ _), trivial, fun _ hb => absurd hb (by simp [frs]), hok, .of_eq hg⟩
    refine codeAny_mono ((hF _ kin (ns' G.T.g) tb).run callerA [] s₁ H ⟨[.ref a], []⟩ [.ref a] [.ref a] _ _ rfl hr env (hbind s₁ (.ref a)) (.cons rfl .nil) (hsp _ H a Pt ns hlen hT hS)) fun r s' h => ?_
    match r, h with
    | .ok (.ret u), h =>
      obtain ⟨v, H', os, bare, un, hok', rv, qv⟩ := h
      have qv : v = .bl true := qv
      subst qv
      obtain rfl : u = Value.bool true := rv
      refine ⟨rfl, ⟨fun b ob e => ?_, fun b ob e => un.there b ob e (by simp)⟩, os, bare⟩
      rcases hO b with z | ⟨z, _⟩ | ⟨ob', xs, z⟩
      · exact .inl (un.keep b ob e z (by simp [frs]) (by simp))
      · subst z
        obtain ⟨more, hm⟩ := un.tbls b _ hT
        have h2 := hok' b _ hm
        rw [hPt] at e
        cases e
        exact .inr (.inl ⟨let ⟨o, vs, _, _, _, _, _, _, _, e1, e2, e3, e4, _⟩ := hcode; ⟨c, o, vs, e1, e2, e3, e4⟩, rfl, #[], more, rfl, h2⟩)
      · have h1 := (hok b _ z).1
        have h2 := (hok' b _ (un.frzs b ob' _ z)).1
        rw [e] at h1
        cases h1
        exact .inl h2
    | .error _, h => exact h.elim
    | .ok .next, h => exact h.elim
    | .ok .brk, h => exact h.elim
    | .ok .cont, h => exact h.elim
  have lenV := hints.length
  cases hk : (K w.params).lookup a with
  | some ob =>
    have e := KX a ob hk
    rw [hobj] at e
    cases e
    refine main (fun b => if b = Pt then some (.tbl #[]) else none) (fun b => ?_) (if_pos rfl) ⟨vs, rel, hl1, .inl hk⟩ (fun b u z => ?_) fun b z => ?_
    all_goals try dsimp only at z
    · by_cases hb : b = Pt
      · exact .inr (.inl ⟨hb, if_pos hb⟩)
      · exact .inl (if_neg hb)
    · by_cases hb : b = Pt
      · rw [if_pos hb] at z
        cases z
        rw [hb]
        exact hPt
      · rw [if_neg hb] at z; cases z
    · by_cases hb : b = Pt
      · exact .inl hb
      · rw [if_neg hb] at z; exact absurd rfl z
  | none =>
    refine main (fun b => if b = Pt then some (.tbl #[]) else if b = a then some (.frz { cls := .type "list", data := .seq vs.toArray } (.lst (ns.map V.int))) else none) (fun b => ?_) (if_pos rfl) ⟨vs, rel, hl1, .inr (show (if a = Pt then some (HO.tbl #[]) else if a = a then _ else none) = _ by rw [if_neg naP, if_pos rfl])⟩ (fun b u z => ?_) fun b z => ?_
    all_goals try dsimp only at z
    · by_cases hb : b = Pt
      · exact .inr (.inl ⟨hb, if_pos hb⟩)
      · by_cases hb2 : b = a
        · exact .inr (.inr ⟨_, _, by dsimp only; rw [if_neg hb, if_pos hb2]⟩)
        · exact .inl (by dsimp only; rw [if_neg hb, if_neg hb2])
    · by_cases hb : b = Pt
      · rw [if_pos hb] at z
        cases z
        rw [hb]
        exact hPt
      · rw [if_neg hb] at z
        by_cases hb2 : b = a
        · rw [if_pos hb2] at z
          cases z
          subst hb2
          exact ⟨hobj, by rw [List.length_map]; exact hl, vs, _, rel, hobj⟩
        · rw [if_neg hb2] at z; cases z
    · by_cases hb : b = Pt
      · exact .inl hb
      · rw [if_neg hb] at z
        by_cases hb2 : b = a
        · exact .inr ⟨hb2, hk⟩
        · rw [if_neg hb2] at z; exact absurd rfl z
end TP

namespace TP
open PySem PySem.Spec PyProof.Rows L2
/-! ### new lists away from one address -/
section
variable {X : Cx} {es : List Expr} {t : TA} {pos : Pos}
def tLstS (t : TA) : TE := fun σ H Q => t σ H fun xs H1 => xs.length ≤ sizeLine ∧ ∀ p, H1 p = none → p ≠ sysModules → Q (.ref p) (upd H1 p (.lst xs))
theorem pe_lstS (h : PA X es t) : PE X (.List es pos) (tLstS t) := by
  refine ⟨fun pins s σ H Q I hq => wpAny_List_spliced (thn (h.run pos pins s σ H _ I hq) fun us s1 ⟨xs, H1, I1, r, z, q⟩ => ⟨by rw [← r.length]; exact z, ?_⟩)⟩
  exact ⟨.ref s1.heap.objs.size, upd H1 s1.heap.objs.size (.lst xs), I1.laid (t' := s1.toks) (fun b u e => Heap.get?_push_of_some _ e) (Nat.le_refl _) ⟨z, us, 0, r, Heap.get?_push_size _ rfl⟩, rfl, q _ (I1.hok.fresh (Nat.le_refl _)) (Nat.ne_of_gt I1.big)⟩
end
/-! ### data, dicts among it, as the heap holds it -/
mutual
inductive Pd (H : Hp) : V → PyData → Prop
  | non : Pd H .non .none
  | int (i : Int) : Pd H (.int i) (.int i)
  | str (x : Str) : Pd H (.str x) (.str x)
  | lst {a : Addr} {xs : List V} {ds : List PyData} : a ≠ sysModules → Rd H a (.lst xs) → PdAll H xs ds → Pd H (.ref a) (.list ds)
  | tup {a : Addr} {xs : List V} {ds : List PyData} : Rd H a (.tup xs) → PdAll H xs ds → Pd H (.ref a) (.tuple ds)
  | dct {a : Addr} {ms : List (Str × V)} {ds : List PyData} : Rd H a (.dK (kvsOf ms)) → PdAll H (ms.map (·.2)) ds → Pd H (.ref a) (.dict ((ms.map fun p => PyData.str p.1).zip ds))
inductive PdAll (H : Hp) : List V → List PyData → Prop
  | nil : PdAll H [] []
  | cons {v : V} {vs : List V} {d : PyData} {ds : List PyData} : Pd H v d → PdAll H vs ds → PdAll H (v :: vs) (d :: ds)
end
theorem PdAll.length {H : Hp} : ∀ {vs : List V} {ds : List PyData}, PdAll H vs ds → vs.length = ds.length
  | _, _, .nil => rfl
  | _, _, .cons _ h => congrArg Nat.succ h.length
mutual
theorem Pd.ex [TabL] {H H' : Hp} (e : Ex H H') : ∀ {v : V} {d : PyData}, Pd H v d → Pd H' v d
  | _, _, .non => .non
  | _, _, .int i => .int i
  | _, _, .str x => .str x
  | _, _, .lst n r h => .lst n (ex_rd e r) (PdAll.ex e h)
  | _, _, .tup r h => .tup (ex_rd e r) (PdAll.ex e h)
  | _, _, .dct r h => .dct (ex_rd e r) (PdAll.ex e h)
theorem PdAll.ex [TabL] {H H' : Hp} (e : Ex H H') : ∀ {vs : List V} {ds : List PyData}, PdAll H vs ds → PdAll H' vs ds
  | _, _, .nil => .nil
  | _, _, .cons h k => .cons (Pd.ex e h) (PdAll.ex e k)
end
theorem reads_keys {P : Program} {w : World} {h : Heap} : ∀ {es : List DictEntry} {ms : List (Str × V)} {vs : List (Key × Value)}, Pairs (mixKind P w) es vs → KV (kvsOf ms) vs →
    ReadsAll h (es.map (·.key)) (ms.map fun p => PyData.str p.1) [] ∧ Vals (ms.map (·.2)) (es.map (·.val))
  | _, [], _, p, k => by
    cases k
    cases p
    exact ⟨.nil, .nil⟩
  | _, m :: ms, _, p, k => by
    cases k with
    | @cons _ q _ qs hk ht =>
      cases p with
      | @cons e _ es _ h1 h2 h3 =>
        obtain ⟨r1, r2⟩ := reads_keys (h := h) h3 ht
        obtain ⟨e1, e2⟩ := hk
        have h1' : keyIs (Sum.inr m.1) e.key = true := by rw [← e1] at h1; exact h1
        rcases keyIs_shape h1' with ⟨i, t, z, _⟩ | ⟨x, t, z, ek⟩
        · cases z
        · have z' : m.1 = x := Sum.inr.inj z
          refine ⟨?_, .cons (by show L2.RelV m.2 e.val; rw [h2]; exact e2) r2⟩
          show ReadsAll h (e.key :: _) (PyData.str m.1 :: _) ([] ++ [])
          rw [ek, z']
          exact .cons (.str _ _) r1
mutual
theorem Pd.reads {X : Cx} {pins : List (Addr × Obj)} {σ : L2.St} {H : Hp} {s : Shared} (I : Inv X pins σ H s) : ∀ {v : V} {d : PyData} {u : Value}, Pd H v d → RelV v u → ∃ as, Reads s.heap u d as ∧ sysModules ∉ as
  | _, _, _, .non, r => by cases (show _ = Value.none from r); exact ⟨_, .none, by simp⟩
  | _, _, _, .int i, r => by obtain ⟨t, e⟩ := (show ∃ t, _ = Value.int i t from r); cases e; exact ⟨_, .int i t, by simp⟩
  | _, _, _, .str x, r => by obtain ⟨t, e⟩ := (show ∃ t, _ = Value.str x t from r); cases e; exact ⟨_, .str x t, by simp⟩
  | _, _, _, @Pd.lst _ a xs ds n rd h, r => by
    cases (show _ = Value.ref a from r)
    obtain ⟨_, its, m, rv, e⟩ := (show ObjOk X.prog X.w H s.heap a (.lst xs) from rd.ok I.hok)
    obtain ⟨as, q, ns⟩ := PdAll.reads I h rv
    exact ⟨_, Reads.list (vs := its.toArray) e rfl rfl (by simpa using q), by simp [ns, n.symm]⟩
  | _, _, _, @Pd.tup _ a xs ds rd h, r => by
    cases (show _ = Value.ref a from r)
    obtain ⟨_, its, rv, o, e1, e2, m, e3⟩ := (show ObjOk X.prog X.w H s.heap a (.tup xs) from rd.ok I.hok)
    obtain ⟨as, q, ns⟩ := PdAll.reads I h rv
    exact ⟨_, Reads.tuple (vs := its.toArray) e1 e2 e3 (by simpa using q), ns⟩
  | _, _, _, @Pd.dct _ a ms ds rd h, r => by
    cases (show _ = Value.ref a from r)
    obtain ⟨_, hs, vs, kv, o, es, ep, e1, e2, e3, _, pr, _⟩ := (show ObjOk X.prog X.w H s.heap a (.dK (kvsOf ms)) from rd.ok I.hok)
    obtain ⟨r1, rv⟩ := reads_keys (h := s.heap) pr kv
    obtain ⟨as, q, ns⟩ := PdAll.reads I h rv
    have hl := h.length
    have k1 : ((ms.map fun p => PyData.str p.1).zip ds).map (·.1) = ms.map fun p => PyData.str p.1 := by
      rw [List.map_fst_zip]
      rw [List.length_map] at hl
      rw [List.length_map]; omega
    have k2 : ((ms.map fun p => PyData.str p.1).zip ds).map (·.2) = ds := by
      rw [List.map_snd_zip]
      rw [List.length_map] at hl
      rw [List.length_map]; omega
    have hne : sysModules ≠ a := fun z => by rw [← z] at hs; simp at hs
    exact ⟨_, Reads.dict (as := []) (bs := as) e1 e2.1 e3 (by rw [k1]; exact r1) (by rw [k2]; exact q), by simp [ns, hne]⟩
theorem PdAll.reads {X : Cx} {pins : List (Addr × Obj)} {σ : L2.St} {H : Hp} {s : Shared} (I : Inv X pins σ H s) : ∀ {vs : List V} {ds : List PyData} {us : List Value}, PdAll H vs ds → Vals vs us → ∃ as, ReadsAll s.heap us ds as ∧ sysModules ∉ as
  | _, _, _, .nil, r => by cases r; exact ⟨_, .nil, by simp⟩
  | _, _, _, .cons h k, r => by
    cases r with
    | cons r1 r2 =>
      obtain ⟨as, q1, n1⟩ := Pd.reads I h r1
      obtain ⟨bs, q2, n2⟩ := PdAll.reads I k r2
      exact ⟨_, .cons q1 q2, by simp [n1, n2]⟩
end
/-- repr(x) -/
def rRepr : List V → Hp → VK → Prop := fun xs H Q => ∃ x d, xs = [x] ∧ Pd H x d ∧ d.showable = true ∧ d.shown.length ≤ sizeLine ∧ d.depth ≤ 40 ∧ Q (.str d.shown) H
section
variable {X : Cx}
theorem call_reprD (hg : X.A.guards = some []) (hu : X.A.units + 64 < cLine) : CallR X (.builtin "repr") rRepr := by
  intro pins s σ H xs us Q I r h
  obtain ⟨x, d, rfl, hp, hs, hz, hd, q⟩ := h
  obtain ⟨u, rfl, r1⟩ := vals1 r
  obtain ⟨as, rd, ns⟩ := hp.reads I r1
  cases hp with
  | non =>
    cases (show _ = Value.none from r1)
    exact PySem.P.repr_of_none ⟨.str _, H, I.tok _, ⟨_, rfl⟩, by simpa only [PyData.shown] using q⟩
  | int i =>
    obtain ⟨t, e⟩ := (show ∃ t, _ = Value.int i t from r1)
    cases e
    exact PySem.P.repr_of_int (by simpa [PyData.showable] using hs) ⟨.str _, H, I.tok _, ⟨_, rfl⟩, by simpa only [PyData.shown] using q⟩
  | str y =>
    obtain ⟨t, e⟩ := (show ∃ t, _ = Value.str y t from r1)
    cases e
    exact PySem.P.repr_of_str ⟨.str _, H, I.tok _, ⟨_, rfl⟩, by simpa only [PyData.shown] using q⟩ (by simpa only [PyData.shown] using hz)
  | lst n rdd al =>
    cases (show _ = Value.ref _ from r1)
    exact repr_of_reads' rd hs (fun _ => ns) hg (by omega) (fun _ _ e => e) (fun h' u tk hk => ⟨.str _, H, I.kept (t' := tk) hk, ⟨_, rfl⟩, q⟩) hz
  | tup rdd al =>
    cases (show _ = Value.ref _ from r1)
    exact repr_of_reads' rd hs (fun _ => ns) hg (by omega) (fun _ _ e => e) (fun h' u tk hk => ⟨.str _, H, I.kept (t' := tk) hk, ⟨_, rfl⟩, q⟩) hz
  | dct rdd al =>
    cases (show _ = Value.ref _ from r1)
    exact repr_of_reads' rd hs (fun _ => ns) hg (by omega) (fun _ _ e => e) (fun h' u tk hk => ⟨.str _, H, I.kept (t' := tk) hk, ⟨_, rfl⟩, q⟩) hz
end
/-! ### documents compared -/
theorem flat_sc {v : V} (z : isSc v = true) : flatB v = true := by cases v <;> first | rfl | cases z
theorem scal_sc {v : V} (z : isSc v = true) : scal v v = true := by cases v <;> first | rfl | cases z
theorem ob_keys {S S' : Addr → Prop} {G G' : Gen} {H : Hp} {n m : Nat} {ms ms' : List (Str × V)} {f : Str → D} (h : Mem S G H n ms f) (h' : Mem S' G' H m ms' f) : ms.length = ms'.length ∧ ∀ p ∈ kvsOf ms, ∃ u, valV (kvsOf ms') p.1 = some u ∧ ∃ d, Dc S G H n p.2 d ∧ Dc S' G' H m u d := by
  have look : ∀ k ∈ ms.map (·.1), ∃ u w, valV ms k = some u ∧ valV ms' k = some w := fun k hk => by
    obtain ⟨u, hu⟩ := valV_some_of hk
    cases hv : valV ms' k with
    | some w => exact ⟨u, w, hu, rfl⟩
    | none =>
      have z := (h.at' k u hu).ne_nil
      rw [h'.no k hv] at z
      cases z
  have look' : ∀ k ∈ ms'.map (·.1), k ∈ ms.map (·.1) := fun k hk => by
    obtain ⟨u, hu⟩ := valV_some_of hk
    cases hv : valV ms k with
    | some w => exact List.mem_map.mpr ⟨_, valV_mem hv, rfl⟩
    | none =>
      have z := (h'.at' k u hu).ne_nil
      rw [h.no k hv] at z
      cases z
  have l1 := sub_len h.nd fun k hk => by
    obtain ⟨_, w, _, hw⟩ := look k hk
    exact (List.mem_map.mpr ⟨_, valV_mem hw, rfl⟩ : k ∈ ms'.map (·.1))
  have l2 := sub_len h'.nd look'
  rw [List.length_map, List.length_map] at l1 l2
  refine ⟨by omega, fun p hp => ?_⟩
  obtain ⟨⟨k, u⟩, hq, e⟩ := List.mem_map.mp hp
  subst e
  obtain ⟨u', w, hu, hw⟩ := look k (List.mem_map.mpr ⟨_, hq, rfl⟩)
  rw [valV_of_mem h.nd hq] at hu
  cases hu
  exact ⟨w, by rw [valV_inK]; exact hw, _, h.at' k u (valV_of_mem h.nd hq), h'.at' k w hw⟩
theorem items_at {C : V → Bool} (sc : ∀ v, C v = true → isSc v = true) {A : Around} {s : Shared} : ∀ {zs : List V} {us ws : List Value}, (∀ z ∈ zs, C z = true) → Vals zs us → Vals zs ws → ∀ j (h1 : j < us.length) (h2 : j < ws.length), SeqAt.EqAt A s us[j] ws[j] true
  | [], _, _, _, r, _, j, h1, _ => by cases r; exact absurd h1 (Nat.not_lt_zero j)
  | z :: zs, _, _, hz, .cons r rs, .cons r' rs', 0, _, _ => eqAt_same r r' (flat_sc (sc z (hz z List.mem_cons_self)))
  | z :: zs, _, _, hz, .cons r rs, .cons r' rs', j + 1, h1, h2 => items_at sc (fun w hw => hz w (List.mem_cons_of_mem _ hw)) rs rs' j (Nat.lt_of_succ_lt_succ h1) (Nat.lt_of_succ_lt_succ h2)
section
variable {X : Cx} {pins : List (Addr × Obj)} {σ : L2.St} {H : Hp} {s : Shared}
theorem items_same (I : Inv X pins σ H s) {C : V → Bool} (sc : ∀ v, C v = true → isSc v = true) {A : Around} : ∀ {zs : List V} {us ws : List Value}, (∀ z ∈ zs, C z = true) → Vals zs us → Vals zs ws → ∀ j (h1 : j < us.length) (h2 : j < ws.length), SeqAt.EqP X.prog X.w A s us[j] ws[j] true
  | [], _, _, _, r, _, j, h1, _ => by cases r; exact absurd h1 (Nat.not_lt_zero j)
  | z :: zs, _, _, hz, .cons r rs, .cons r' rs', 0, _, _ => (eqAt_same r r' (flat_sc (sc z (hz z List.mem_cons_self)))).eqP
  | z :: zs, _, _, hz, .cons r rs, .cons r' rs', j + 1, h1, h2 => items_same I sc (fun w hw => hz w (List.mem_cons_of_mem _ hw)) rs rs' j (Nat.lt_of_succ_lt_succ h1) (Nat.lt_of_succ_lt_succ h2)
/-- two objects that stand for one document -/
theorem docs_rc (I : Inv X pins σ H s) {S S' : Addr → Prop} {G G' : Gen} {n m : Nat} {a b : Addr} {d : D} (ih : ∀ (A : Around) (x y : V) (e : D) (v u : Value), A.units + n < cLine → Dc S G H n x e → Dc S' G' H m y e → RelV x v → RelV y u → SeqAt.EqP X.prog X.w A s v u true)
    {A : Around} (hu : A.units + (n + 1) < cLine) (h : Dc S G H (n + 1) (.ref a) d) (h' : Dc S' G' H (m + 1) (.ref b) d) (E Q : Value → Shared → Prop) (q : Q (.bool true) s) : wpAny (model X.prog X.w) A (richCompare .Eq (.ref a) (.ref b)) Q E s := by
  rcases h with ⟨hx, rfl⟩ | ⟨a', xs, e1, s1, r, hx, rfl⟩ | ⟨a', ms, f, e1, s1, r, nd, ks, rfl, no, at'⟩
  · exact nomatch G.sc _ hx
  · cases e1
    rcases h' with ⟨hy, e⟩ | ⟨b', ys, e2, s', r', hy, e⟩ | ⟨b', ms', f', e2, s', r', nd', ks', e, no', at''⟩
    · cases e
    · cases e2
      injection e with e
      subst e
      obtain ⟨us, r1, p1, _⟩ := I.list (.inl (.inl r))
      obtain ⟨ws, r2, p2, _⟩ := I.list (.inl (.inl r'))
      refine SeqAt.rcP_lists (e := fun _ => true) p1.isList p2.isList (by rw [List.size_toArray, List.size_toArray, ← r1.length, ← r2.length]) (by omega) (fun j h1 h2 => ?_) E Q ?_
      · simpa using items_same I G.sc (A := A.in1) hx.2 r1 r2 j (by simpa using h1) (by simpa using h2)
      · rw [show ((List.range us.toArray.size).all fun _ => true) = true from List.all_eq_true.mpr fun _ _ => rfl]
        exact q
    · cases e
  · cases e1
    rcases h' with ⟨hy, e⟩ | ⟨b', ys, e2, s', r', hy, e⟩ | ⟨b', ms', f', e2, s', r', nd', ks', e, no', at''⟩
    · cases e
    · cases e
    · cases e2
      injection e with e
      subst e
      obtain ⟨_, ya, va, ra, da⟩ := dk_rd I.hok (.inl r)
      obtain ⟨_, yb, vb, rb, db⟩ := dk_rd I.hok (.inl r')
      obtain ⟨hl, hp⟩ := ob_keys (Mem.mk nd ks no at') (Mem.mk nd' ks' no' at'')
      refine PySem.W.rcP_dicts (knd := mixKind X.prog X.w) (r := true) ya yb da db (by omega) (fun _ => hits_run (F := fun x y => ∃ e, Dc S G H n x e ∧ Dc S' G' H m y e) (fun x y v u z rx ry => ?_) rb ra hp) E Q ?_
      · obtain ⟨e, z1, z2⟩ := z
        exact ih _ _ _ _ _ _ (show A.units + 1 + n < cLine by omega) z1 z2 rx ry
      · have e : va.length = vb.length := by rw [← ra.length, ← rb.length, List.length_map, List.length_map]; exact hl
        rw [show (va.length == vb.length && true) = true from by rw [e]; simp]
        exact q
theorem docs_eq (I : Inv X pins σ H s) {S S' : Addr → Prop} {G G' : Gen} : ∀ (n m : Nat) (A : Around) (x y : V) (d : D) (v u : Value), A.units + n < cLine → Dc S G H n x d → Dc S' G' H m y d → RelV x v → RelV y u → SeqAt.EqP X.prog X.w A s v u true
  | 0, _, _, _, _, _, _, _, _, h, _, _, _ => (show False from h).elim
  | _ + 1, 0, _, _, _, _, _, _, _, _, h, _, _ => (show False from h).elim
  | n + 1, m + 1, A, x, y, d, v, u, hu, h, h', rx, ry => by
    by_cases hs : ∃ z, d = .sc z
    · obtain ⟨z, rfl⟩ := hs
      have hx : G.C x = true ∧ x = z := by
        rcases h with ⟨hx, e⟩ | ⟨a, xs, _, _, _, _, e⟩ | ⟨a, ms, f, _, _, _, _, _, e, _⟩
        · injection e with e; exact ⟨hx, e.symm⟩
        · cases e
        · cases e
      have hy : y = z := by
        rcases h' with ⟨_, e⟩ | ⟨a, xs, _, _, _, _, e⟩ | ⟨a, ms, f, _, _, _, _, _, e, _⟩
        · injection e with e; exact e.symm
        · cases e
        · cases e
      rw [hy, ← hx.2] at ry
      exact (eqAt_same rx ry (flat_sc (G.sc _ hx.1))).eqP
    · have ref : ∀ {S : Addr → Prop} {G : Gen} {k : Nat} {x : V}, Dc S G H k x d → ∃ a, x = .ref a := fun {S G k x} z => by
        refine z.cases (fun _ _ _ e => absurd ⟨_, e⟩ hs) (fun _ a _ _ e _ _ _ _ => ⟨a, e⟩) (fun _ a _ _ _ e _ _ _ _ => ⟨a, e⟩)
      obtain ⟨a, rfl⟩ := ref h
      obtain ⟨b, rfl⟩ := ref h'
      cases (show v = Value.ref a from rx)
      cases (show u = Value.ref b from ry)
      by_cases e : a = b
      · subst e
        exact (SeqAt.EqAt.same _).eqP
      · exact SeqAt.eqP_refs e (docs_rc I (fun A x y e v u hu => docs_eq I n m A x y e v u hu) hu h h')
/-- != of two documents that are equal -/
def rNeDoc : R2 := fun x y H Q => ∃ (S S' : Addr → Prop) (G G' : Gen) (n m : Nat) (d : D), n ≤ 40 ∧ Dc S G H n x d ∧ Dc S' G' H m y d ∧ Q (.bl false) H
theorem op_neDoc (hu : X.A.units + 64 < cLine) : OpR X (compareOp .NotEq) rNeDoc := by
  intro pins s σ H x y v u Q I rx ry h
  obtain ⟨S, S', G, G', n, m, d, hn, h, h', q⟩ := h
  cases n with
  | zero => exact (show False from h).elim
  | succ n =>
  cases m with
  | zero => exact (show False from h').elim
  | succ m =>
    rcases id h with ⟨hx, rfl⟩ | ⟨a, xs, rfl, s1, r, hx, rfl⟩ | ⟨a, ms, f, rfl, s1, r, nd, ks, rfl, no, at'⟩
    · rcases h' with ⟨hy, e⟩ | ⟨b, ys, rfl, s', r', hy, e⟩ | ⟨b, ms', f', rfl, s', r', nd', ks', e, no', at''⟩
      · injection e with e
        subst e
        exact op_ne pins s σ H x x v u Q I rx ry ⟨scal_sc (G.sc _ hx), by simpa using q⟩
      · cases e
      · cases e
    · rcases h' with ⟨hy, e⟩ | ⟨b, ys, rfl, s', r', hy, e⟩ | ⟨b, ms', f', rfl, s', r', nd', ks', e, no', at''⟩
      · cases e
      · injection e with e
        subst e
        cases (show v = Value.ref a from rx)
        cases (show u = Value.ref b from ry)
        obtain ⟨us, r1, p1, _⟩ := I.list (.inl (.inl r))
        obtain ⟨ws, r2, p2, _⟩ := I.list (.inl (.inl r'))
        refine SeqAt.RcNeAt.lists (e := fun _ => true) p1.isList p2.isList (by rw [List.size_toArray, List.size_toArray, ← r1.length, ← r2.length]) (by omega) (fun j h1 h2 => ?_) _ _ _ _ ?_
        · simpa using items_at G.sc (A := X.A.in1) (s := s) hx.2 r1 r2 j (by simpa using h1) (by simpa using h2)
        · rw [show ((List.range us.toArray.size).all fun _ => true) = true from List.all_eq_true.mpr fun _ _ => rfl]
          exact ⟨.bl false, H, I, rfl, q⟩
      · cases e
    · rcases h' with ⟨hy, e⟩ | ⟨b, ys, rfl, s', r', hy, e⟩ | ⟨b, ms', f', rfl, s', r', nd', ks', e, no', at''⟩
      · cases e
      · cases e
      · injection e with e
        subst e
        cases (show v = Value.ref a from rx)
        cases (show u = Value.ref b from ry)
        obtain ⟨_, ya, va, ra, da⟩ := dk_rd I.hok (.inl r)
        obtain ⟨_, yb, vb, rb, db⟩ := dk_rd I.hok (.inl r')
        obtain ⟨hl, hp⟩ := ob_keys (Mem.mk nd ks no at') (Mem.mk nd' ks' no' at'')
        have e : va.length = vb.length := by rw [← ra.length, ← rb.length, List.length_map, List.length_map]; exact hl
        refine wpAny_richCompare_same_room (op := .NotEq) da.typeIs db.typeIs PySem.F.slot_dict_ne (wpAny_call_entry PySem.F.slot_dict_ne da.typeIs PySem.F.entry_dict_ne ?_ (PySem.F.args_dict_ne_2 _ _)) (by omega)
        refine wpAny_bind ?_
        unfold Builtin.Dict.dictSlotArgs
        refine wpAny_bind (wpAny_notOrdered_dict da.typeIs (wpAny_pure (wpAny_bind (wpAny_isInstance (T := "dict") db.typeIs PySem.F.sub_dict_dict ?_))))
        simp only [Bool.not_true, Bool.false_eq_true, if_false]
        refine wpAny_bind (wpAny_pure (wpAny_bind (wpAny_pure (wpAny_bind (PySem.W.samePairsP (r := true) ya yb da db (fun _ => hits_run (F := fun x y => ∃ e, Dc S G H n x e ∧ Dc S' G' H m y e) (fun x y v u z rx ry => ?_) rb ra hp) ?_)))))
        · obtain ⟨e, z1, z2⟩ := z
          exact docs_eq I n m _ _ _ _ _ _ (show X.A.units + 1 + n < cLine by omega) z1 z2 rx ry
        · refine wpAny_pure ⟨_, rfl, (fun x => nomatch x), ?_⟩
          exact ⟨.bl false, H, I, by rw [e]; simp [L2.RelV], q⟩
end
/-! ### max(xs, default=d) of whole numbers -/
section
variable {X : Cx}
def rMaxDef (K : PySem.W.Frag) : List V → List V → Hp → VK → Prop := fun vs zs H Q => ∃ (a : Addr) (ns : List Int) (d : Int), vs = [V.ref a] ∧ zs = [.int d] ∧ SqL K H a (ns.map V.int) ∧
  (ns = [] → Q (.int d) H) ∧ ∀ z ∈ ns, (∀ y ∈ ns, y ≤ z) → Q (.int z) H
theorem int_holds {h : Heap} : ∀ {ns : List Int} {us : List Value}, Vals (ns.map V.int) us → PySem.W.HoldAll h us ns
  | [], _, r => by cases r; exact .nil
  | n :: ns, _, r => by
    cases r with
    | cons r rs =>
      obtain ⟨t, e⟩ := (show ∃ t, _ = Value.int n t from r)
      subst e
      exact .cons ⟨_, .int n t⟩ (int_holds rs)
theorem maxOf_spec : ∀ (ns : List Int) (n : Int), PySem.W.maxOf n ns ∈ n :: ns ∧ ∀ y ∈ n :: ns, y ≤ PySem.W.maxOf n ns
  | [], n => ⟨List.mem_cons_self, fun y hy => by rw [List.mem_singleton.mp hy]; exact Int.le_refl _⟩
  | m :: ns, n => by
    show (PySem.W.maxOf (if PySem.W.DatumOrd.lt n m = true then m else n) ns) ∈ _ ∧ ∀ y ∈ _, y ≤ PySem.W.maxOf (if PySem.W.DatumOrd.lt n m = true then m else n) ns
    have e : (PySem.W.DatumOrd.lt n m = true) ↔ n < m := by
      show decide (n < m) = true ↔ n < m
      exact decide_eq_true_iff
    obtain ⟨h1, h2⟩ := maxOf_spec ns (if PySem.W.DatumOrd.lt n m = true then m else n)
    by_cases c : PySem.W.DatumOrd.lt n m = true
    · rw [if_pos c] at h1 h2 ⊢
      refine ⟨List.mem_cons_of_mem _ h1, fun y hy => ?_⟩
      rcases List.mem_cons.mp hy with rfl | hy
      · exact Int.le_trans (Int.le_of_lt (e.mp c)) (h2 m List.mem_cons_self)
      · exact h2 y hy
    · rw [if_neg c] at h1 h2 ⊢
      refine ⟨(List.mem_cons.mp h1).elim (fun z => by rw [z]; exact List.mem_cons_self) fun z => List.mem_cons_of_mem _ (List.mem_cons_of_mem _ z), fun y hy => ?_⟩
      rcases List.mem_cons.mp hy with rfl | hy
      · exact h2 _ List.mem_cons_self
      · rcases List.mem_cons.mp hy with rfl | hy
        · have := h2 n List.mem_cons_self
          have c' : ¬ n < y := fun z => c (e.mpr z)
          omega
        · exact h2 y (List.mem_cons_of_mem _ hy)
theorem cr_maxDef (hu : X.A.units + 64 < cLine) (hh : X.A.handled = none) : CallRK X (.builtin "max") [Str.ofString "default"] (rMaxDef X.K) := by
  intro pins s σ H vs zs us ws Q I r rz h
  obtain ⟨a, ns, d, rfl, rfl, hs, h0, hq⟩ := h
  obtain rfl := Vals.ref1 r
  obtain ⟨w1, rfl, t, rfl⟩ := vals1 rz
  obtain ⟨its, rv, hl, hz⟩ := I.list hs
  refine PySem.W.max_list_datum_default (xs := ns) hh hl.isList (by simpa using int_holds rv) (show X.A.units + 1 + 0 < cLine by omega) (fun e h' tk hk => ⟨.int d, H, I.kept (t' := tk) hk, ⟨t, rfl⟩, h0 e⟩) fun y ys i v h' tk e hi hv hk => ?_
  obtain ⟨as, rd⟩ := hv
  obtain ⟨m1, m2⟩ := maxOf_spec ys y
  refine ⟨.int (PySem.W.maxOf y ys), H, I.kept (t' := tk) hk, ?_, hq _ (by rw [e]; exact m1) (by rw [e]; exact m2)⟩
  cases rd with
  | int i t => exact ⟨t, rfl⟩
end
/-! ### the script -/
def rCatScr (K : PySem.W.Frag) : R2 := fun x y H Q => ∃ l b xs zs, x = .ref l ∧ y = .ref b ∧ ScrAt K H l xs ∧ H b = some (.lst zs) ∧ zs.length ≤ 1000 ∧ ∀ p, H p = none → Q (.ref p) (upd H p (.lst (xs ++ zs)))
theorem op_catScr {X : Cx} : OpR X (binaryOp .Add) (rCatScr X.K) := by
  intro pins s σ H x y v u Q I rx ry h
  obtain ⟨l, b, xs, zs, rfl, rfl, ⟨its, r, lx, hH⟩, hB, lz, q⟩ := h
  cases (show v = Value.ref l from rx)
  cases (show u = Value.ref b from ry)
  obtain ⟨z2, its2, n2, r2, hl2, e2⟩ := I.lstM hB
  have e : s.heap.get? l = some { cls := .type "list", data := .seq its.toArray } := by
    rcases hH with hH | hH
    · exact I.kIn l _ hH
    · exact (I.hok l _ hH).1
  have hz : xs.length + zs.length ≤ sizeLine := Nat.le_trans (show _ ≤ 2000 by omega) (by decide)
  have l1 := r.length
  refine PySem.P.add_list e e2 ?_ (by rw [List.size_toArray, List.size_toArray]; omega)
  rw [show its.toArray ++ its2.toArray = (its ++ its2).toArray by simp]
  exact ⟨.ref _, _, I.lnew (t' := s.toks) (r.append r2) (by rw [List.length_append]; omega), rfl, q _ I.fresh⟩
/-! ### walks over a locked dict with text keys -/
section
variable {d D : Addr} {o : Obj} {ms : List (Str × V)} {g : TG} {tt : TT} {te tk tv : TE} {vs : List Nat} {σ : L2.St} {H1 : Hp} {Qd : Hp → Prop}
theorem keyAt {i : Nat} {k : Key} {v : V} (h : (kvsOf ms)[i]? = some (k, v)) : ∃ x, ms[i]? = some (x, v) ∧ k = Sum.inr x := by
  rw [List.getElem?_map] at h
  cases e : ms[i]? with
  | none => rw [e] at h; cases h
  | some p =>
    rw [e] at h
    obtain ⟨x, w⟩ := p
    cases h
    exact ⟨x, rfl, rfl⟩
theorem dc_keys (Pv : Nat → Hp → Prop) (h0 : Pv 0 (upd H1 D (.dK []))) (hl : ∀ i H, i ≤ ms.length → Pv i H → H d = some (.frz o (.dK (kvsOf ms))))
    (hs : ∀ i k u H, ms[i]? = some (k, u) → Pv i H → g (.str k) (wipe σ vs) H fun σ2 H2 => wipe σ2 vs = wipe σ vs ∧ tt σ2 H2 fun b H3 =>
      if b = true then tk σ2 H3 fun y H4 => tv σ2 H4 fun z H5 => ∃ kvs k, y = kV k ∧ H5 D = some (.dK kvs) ∧ kvs.length < sizeLine ∧ Pv (i + 1) (upd H5 D (.dK (putK kvs k z))) else Pv (i + 1) H3)
    (hd : ∀ H, Pv ms.length H → Qd H) :
    ∃ W : Nat → Nat → Hp → Prop, (∃ m, W 0 m (upd H1 D (.dK []))) ∧ ∀ i m H, W i m H →
      ((Itk d o (kvsOf ms)).stop i H ∧ Qd H) ∨ ((Itk d o (kvsOf ms)).go i H ∧ ∃ Nx : Hp → Prop, (∀ H', Nx H' → ∃ m', m' < m ∧ W (i + 1) m' H') ∧ ∀ x H', (Itk d o (kvsOf ms)).yld i H x H' → g x (wipe σ vs) H' fun σ2 H2 => wipe σ2 vs = wipe σ vs ∧ tt σ2 H2 fun b H3 =>
        if b = true then tk σ2 H3 fun y H4 => tv σ2 H4 fun z H5 => ∃ kvs k, y = kV k ∧ H5 D = some (.dK kvs) ∧ kvs.length < sizeLine ∧ Nx (upd H5 D (.dK (putK kvs k z))) else Nx H3) := by
  refine ⟨fun i m H => m + i = ms.length ∧ Pv i H, ⟨ms.length, rfl, h0⟩, ?_⟩
  rintro i m H ⟨e, p⟩
  have q := hl i H (by omega) p
  have len : (kvsOf ms).length = ms.length := List.length_map ..
  cases m with
  | zero =>
    have e' : i = ms.length := by omega
    subst e'
    exact .inl ⟨⟨q, by omega⟩, hd H p⟩
  | succ m =>
    refine .inr ⟨⟨q, by omega⟩, Pv (i + 1), fun H' p' => ⟨m, by omega, by omega, p'⟩, fun x H' y => ?_⟩
    obtain ⟨rfl, k, v, h1, rfl⟩ := y
    obtain ⟨z, h2, rfl⟩ := keyAt h1
    exact hs i z v _ h2 p
theorem lc_keys (Pv : Nat → Hp → Prop) (h0 : Pv 0 (upd H1 D (.lst []))) (hl : ∀ i H, i ≤ ms.length → Pv i H → H d = some (.frz o (.dK (kvsOf ms))))
    (hs : ∀ i k u H, ms[i]? = some (k, u) → Pv i H → g (.str k) (wipe σ vs) H fun σ2 H2 => wipe σ2 vs = wipe σ vs ∧ tt σ2 H2 fun b H3 =>
      if b = true then te σ2 H3 fun y H4 => ∃ acc, H4 D = some (.lst acc) ∧ acc.length < sizeLine ∧ Pv (i + 1) (upd H4 D (.lst (acc ++ [y]))) else Pv (i + 1) H3)
    (hd : ∀ H, Pv ms.length H → Qd H) :
    ∃ W : Nat → Nat → Hp → Prop, (∃ m, W 0 m (upd H1 D (.lst []))) ∧ ∀ i m H, W i m H →
      ((Itk d o (kvsOf ms)).stop i H ∧ Qd H) ∨ ((Itk d o (kvsOf ms)).go i H ∧ ∃ Nx : Hp → Prop, (∀ H', Nx H' → ∃ m', m' < m ∧ W (i + 1) m' H') ∧ ∀ x H', (Itk d o (kvsOf ms)).yld i H x H' → g x (wipe σ vs) H' fun σ2 H2 => wipe σ2 vs = wipe σ vs ∧ tt σ2 H2 fun b H3 =>
        if b = true then te σ2 H3 fun y H4 => ∃ acc, H4 D = some (.lst acc) ∧ acc.length < sizeLine ∧ Nx (upd H4 D (.lst (acc ++ [y]))) else Nx H3) := by
  refine ⟨fun i m H => m + i = ms.length ∧ Pv i H, ⟨ms.length, rfl, h0⟩, ?_⟩
  rintro i m H ⟨e, p⟩
  have q := hl i H (by omega) p
  have len : (kvsOf ms).length = ms.length := List.length_map ..
  cases m with
  | zero =>
    have e' : i = ms.length := by omega
    subst e'
    exact .inl ⟨⟨q, by omega⟩, hd H p⟩
  | succ m =>
    refine .inr ⟨⟨q, by omega⟩, Pv (i + 1), fun H' p' => ⟨m, by omega, by omega, p'⟩, fun x H' y => ?_⟩
    obtain ⟨rfl, k, v, h1, rfl⟩ := y
    obtain ⟨z, h2, rfl⟩ := keyAt h1
    exact hs i z v _ h2 p
theorem for_keys {tb : TS} {E : Ends} {H : Hp} (Pv : Nat → L2.St → Hp → Prop) (h0 : Pv 0 σ H) (hl : ∀ i σ H, i ≤ ms.length → Pv i σ H → H d = some (.frz o (.dK (kvsOf ms))))
    (hs : ∀ i k u σ H, ms[i]? = some (k, u) → Pv i σ H → g (.str k) σ H fun σ2 H2 => tb { E with nx := Pv (i + 1), ct := Pv (i + 1), bk := E.nx } σ2 H2) (hd : ∀ σ H, Pv ms.length σ H → E.nx σ H) :
    ∃ W : Nat → Nat → L2.St → Hp → Prop, (∃ m, W 0 m σ H) ∧ ∀ i m σ H, W i m σ H →
      ((Itk d o (kvsOf ms)).stop i H ∧ E.nx σ H) ∨ ((Itk d o (kvsOf ms)).go i H ∧ ∃ N : L2.St → Hp → Prop, (∀ σ' H', N σ' H' → ∃ m', m' < m ∧ W (i + 1) m' σ' H') ∧ ∀ x H', (Itk d o (kvsOf ms)).yld i H x H' → g x σ H' fun σ2 H2 => tb { E with nx := N, ct := N, bk := E.nx } σ2 H2) := by
  refine ⟨fun i m σ H => m + i = ms.length ∧ Pv i σ H, ⟨ms.length, rfl, h0⟩, ?_⟩
  rintro i m σ H ⟨e, p⟩
  have q := hl i σ H (by omega) p
  have len : (kvsOf ms).length = ms.length := List.length_map ..
  cases m with
  | zero =>
    have e' : i = ms.length := by omega
    subst e'
    exact .inl ⟨⟨q, by omega⟩, hd σ H p⟩
  | succ m =>
    refine .inr ⟨⟨q, by omega⟩, Pv (i + 1), fun σ' H' p' => ⟨m, by omega, by omega, p'⟩, fun x H' y => ?_⟩
    obtain ⟨rfl, k, v, h1, rfl⟩ := y
    obtain ⟨z, h2, rfl⟩ := keyAt h1
    exact hs i z v σ _ h2 p
end
/-! ### name = {k: v for ..} on one line -/
section
variable {X : Cx}
theorem sw_dc {kx vx : Expr} {gs : List Comprehension} {scope : Scope} {pos py : Pos} {y : Str} {l : Nat} {env : Env} (hk : env.scope.kind = .function) (hy : env.scope.names.lookup y = some .local) (hl : (py.line == pos.line) = true)
    (ha : (scope.names.any fun (n, k) => n == y && (k == .local || k == .cell)) = false) : swapsWith (.DictComp kx vx gs scope pos) (some (.Name y py)) l env = pure true := by
  have k1 : env.kindOf y = some .local := hy
  have k2 : env.blockKind = .function := by
    unfold Env.blockKind
    rw [hk]
    rfl
  unfold swapsWith
  simp only [k2, k1, ha, Expr.pos, hl]
  rfl
theorem ps_setDc {i : Nat} {y : Str} {py : Pos} {kx vx tg iter : Expr} {ifs : List Expr} {scope : Scope} {own : List (Str × Nat)} {pos spos : Pos} {wi : TI} {g : TG} {tt : TT} {tk tv : TE} (hc : X.calm = true) (hN : X.N.Nodup) (hy : X.N[i]? = some y) (hyl : X.env.scope.names.lookup y = some .local)
    (hsw : swapsWith (.DictComp kx vx [⟨tg, iter, ifs, 0⟩] scope pos) (some (.Name y py)) spos.line X.env = pure true) (hi : PI X tg iter wi) (ok : BlkOk X.N X.env.scope scope own)
    (hg : ∀ (s : Shared) (H : Hp) (C : Addr) (cl : List (Str × Addr)) (fp : List Addr), PG (X.blk s H scope (compEnvC scope cl C X.env) fp) tg g)
    (ht : ∀ (s : Shared) (H : Hp) (C : Addr) (cl : List (Str × Addr)) (fp : List Addr), PTs (X.blk s H scope (compEnvC scope cl C X.env) fp) ifs tt)
    (hk : ∀ (s : Shared) (H : Hp) (C : Addr) (cl : List (Str × Addr)) (fp : List Addr), PE (X.blk s H scope (compEnvC scope cl C X.env) fp) kx tk)
    (he : ∀ (s : Shared) (H : Hp) (C : Addr) (cl : List (Str × Addr)) (fp : List Addr), PE (X.blk s H scope (compEnvC scope cl C X.env) fp) vx tv) (hs : ∀ x, foldedSetIterable iter X.env x = pure x := by intro _; rfl) :
    PS X (.Assign [.Name y py] (.DictComp kx vx [⟨tg, iter, ifs, 0⟩] scope pos) spos) (tAsg (tDc wi g tt tk tv (own.map (·.2))) (gName i)) := by
  refine ⟨fun pins s σ H E I h => ?_⟩
  rw [exec_Assign_Name_used _ _ _ _ hsw]
  refine wpAny_bind (wpAny_standAt (wpAny_bind ?_))
  refine wpAny_bind (thn (dc_core (use := some (assign (.Name y py) X.env)) (Qf := fun _ s' => SP X pins E .next s') hc hN I hi ok hg ht hk he hs (show tDc wi g tt tk tv (own.map (·.2)) σ H (fun x H1 => gName i x σ H1 E.nx) from h) fun L C s' m H' I' q hn f => ?_) fun _ s' hq => wpAny_pure (wpAny_pure hq))
  refine wpAny_assign_Name (store_ok2 (v := V.ref L) I' hN hy (.inl hyl) rfl (fun s2 I2 ⟨a, sb, ha⟩ => ?_) (.inr hyl))
  obtain ⟨f0, f1, f2, f3, f4, f5⟩ := f
  have ne : C ≠ a := ha.elim (fun z => by rw [z]; exact f1) fun z e => f4 y a z e.symm
  exact ⟨m, hn.sameBut sb ne, fun h3 sb3 => ⟨_, H', I2.turned (t' := s2.toks) (fun b o hb e => (sb3.2 b hb).trans e) f0 f1 f3 f4 f5, q⟩⟩
end
/-! ### isinstance of what stands for a document -/
theorem tyx_dk {K : PySem.W.Frag} {H : Hp} {a : Addr} {kvs : List (Key × V)} (r : Rd H a (.dK kvs)) : TyX K H (.ref a) (.type "dict") := by
  rcases r with r | ⟨o, r⟩
  · exact .base (.dK r)
  · exact .fDict r
theorem tyx_ls {K : PySem.W.Frag} {H : Hp} {a : Addr} {xs : List V} (r : Rd H a (.lst xs)) : TyX K H (.ref a) (.type "list") := by
  rcases r with r | ⟨o, r⟩
  · exact .base (.lst r)
  · exact .base (.frz r)
theorem tyx_sc {K : PySem.W.Frag} {H : Hp} {v : V} (h : isSc v = true) : ∃ t, (t = "NoneType" ∨ t = "int" ∨ t = "str") ∧ TyX K H v (.type t) := by
  cases v <;> first | cases h | skip
  · exact ⟨_, .inl rfl, .base .non⟩
  · exact ⟨_, .inr (.inl rfl), .base (.int _)⟩
  · exact ⟨_, .inr (.inr rfl), .base (.str _)⟩
def D.isOb : D → Bool
  | .ob _ => true
  | _ => false
def D.isLs : D → Bool
  | .ls _ => true
  | _ => false
theorem isiD {S : Addr → Prop} {G : Gen} {H : Hp} {n : Nat} {v : V} {d : D} (K : PySem.W.Frag) (h : Dc S G H n v d) : ∃ t, TyX K H v t ∧ PySem.W.kitOne K t (.type "dict") = some d.isOb := by
  refine h.cases (fun m _ hs e => ?_) (fun m a xs _ e _ r _ e' => ?_) (fun m a ms f _ e _ r _ e' => ?_)
  · subst e
    obtain ⟨t, ht, ty⟩ := tyx_sc (K := K) (H := H) (G.sc _ hs)
    refine ⟨_, ty, kit_ty (r := false) ?_⟩
    rcases ht with rfl | rfl | rfl <;> decide +kernel
  · subst e; subst e'
    exact ⟨_, tyx_ls (.inl r), kit_ty (r := false) (by decide +kernel)⟩
  · subst e; subst e'
    exact ⟨_, tyx_dk (.inl r), kit_ty (r := true) (by decide +kernel)⟩
theorem isiL {S : Addr → Prop} {G : Gen} {H : Hp} {n : Nat} {v : V} {d : D} (K : PySem.W.Frag) (h : Dc S G H n v d) : ∃ t, TyX K H v t ∧ PySem.W.kitOne K t (.type "list") = some d.isLs := by
  refine h.cases (fun m _ hs e => ?_) (fun m a xs _ e _ r _ e' => ?_) (fun m a ms f _ e _ r _ e' => ?_)
  · subst e
    obtain ⟨t, ht, ty⟩ := tyx_sc (K := K) (H := H) (G.sc _ hs)
    refine ⟨_, ty, kit_ty (r := false) ?_⟩
    rcases ht with rfl | rfl | rfl <;> decide +kernel
  · subst e; subst e'
    exact ⟨_, tyx_ls (.inl r), kit_ty (r := true) (by decide +kernel)⟩
  · subst e; subst e'
    exact ⟨_, tyx_dk (.inl r), kit_ty (r := false) (by decide +kernel)⟩
theorem t_yes {σ : L2.St} {H : Hp} {A B : Hp → Prop} (h : A H) : tYes σ H (fun b H3 => if b = true then A H3 else B H3) := by
  show (if true = true then A H else B H)
  rw [if_pos rfl]
  exact h
/-- d if isinstance(d, dict) else {} -/
theorem t_dictor [TabL] {K : PySem.W.Frag} {S : Addr → Prop} {G : Gen} {H : Hp} {n : Nat} {v : V} {d : D} {i : Nat} {σ : L2.St} {Q : VK} (hσ : σ[i]? = some (some v)) (hv : Dc S G H (n + 1) v d)
    (h : ∀ a1 ms1 St H1, Ex H H1 → H1 a1 = some (.dK (kvsOf ms1)) → St a1 → Mem St G H1 n ms1 d.tgt → (∀ x, St x → (S x ∧ H x ≠ none) ∨ H x = none) → (∀ x, St x → H1 x ≠ none) → Q (.ref a1) H1) :
    tIf (tB (tCB (rIsi K) (tCons (tVar i) (tCons (tC (.ty "dict")) tNil)))) (tVar i) tDNewK σ H Q := by
  obtain ⟨t1, ty1, kit1⟩ := isiD K hv
  refine ⟨v, hσ, v, .ty "dict", t1, _, _, rfl, .ty _, ty1, kit1, _, rfl, ?_⟩
  have none_way : d.isOb = false → d.tgt = (fun _ => .nil) → (if d.isOb = true then tVar i σ H Q else tDNewK σ H Q) := fun e e2 => by
    rw [e]
    refine iteF fun p hp => ?_
    exact h p [] (fun x => x = p) _ (Ex.new hp) upd_same rfl (by rw [e2]; exact Mem.nil) (fun x hx => .inr (by rw [hx]; exact hp)) fun x hx => by rw [hx, upd_same]; exact fun z => nomatch z
  refine hv.cases (fun m _ _ e => ?_) (fun m a xs _ _ _ _ _ e => ?_) (fun m a ms f em ev hS r M e => ?_)
  · exact none_way (by rw [e]; rfl) (by rw [e]; rfl)
  · exact none_way (by rw [e]; rfl) (by rw [e]; rfl)
  · subst e; subst ev; cases em
    refine iteT ⟨_, hσ, ?_⟩
    exact h a ms (fun x => S x ∧ H x ≠ none) H (Ex.refl H) r ⟨hS, by rw [r]; exact fun z => nomatch z⟩ ⟨M.nd, M.ks, M.no, fun k u hu => (M.at' k u hu).alloc⟩ (fun x hx => .inl hx) fun x hx => hx.2
theorem ifT {c : Bool} {A B : Prop} (hc : c = true) (h : A) : if c = true then A else B := by
  rw [if_pos hc]
  exact h
theorem ifF {c : Bool} {A B : Prop} (hc : c = false) (h : B) : if c = true then A else B := by
  rw [hc, if_neg Bool.false_ne_true]
  exact h
/-- what every heap knows of its dicts -/
def tKnow (t : TE) : TE := fun σ H Q => t σ H fun v H' => (∀ a kvs, H' a = some (.dK kvs) → a ≠ sysModules) → Q v H'
theorem pe_know {X : Cx} {e : Expr} {t : TE} (h : PE X e t) : PE X e (tKnow t) := by
  refine ⟨fun pins s σ H Q I hw => thn (h.run pins s σ H _ I hw) fun u s1 ⟨v, H', I', rv, q⟩ => ⟨v, H', I', rv, q fun a kvs e z => ?_⟩⟩
  obtain ⟨_, z', _⟩ := (show ObjOk X.prog X.w H' s1.heap a (.dK kvs) from I'.hok a _ e)
  rw [z] at z'
  simp at z'
theorem pairs_map {α β : Type} {F G : α → β → Prop} : ∀ {xs : List α} {ys : List β}, Paired F xs ys → (∀ a b, a ∈ xs → F a b → G a b) → Paired G xs ys
  | _, _, .nil, _ => .nil
  | _, _, .cons h t, f => .cons (f _ _ List.mem_cons_self h) (pairs_map t fun a b ha => f a b (List.mem_cons_of_mem _ ha))
theorem pairs_at {α β : Type} {F : α → β → Prop} {x : α} : ∀ {xs : List α} {ys : List β}, Paired F xs ys → x ∈ xs → ∃ y, F x y
  | _, _, .nil, h => nomatch h
  | _, _, .cons h t, hx => (List.mem_cons.mp hx).elim (fun e => ⟨_, by rw [e]; exact h⟩) fun hx => pairs_at t hx
end TP

namespace TP
open PySem PySem.Spec PyProof.Rows L2
/-! ### operators that a class of the program defines -/
def rAddOwn (C : Addr) (sp : Sp) (E : XK) : R2 := fun x y H Q => ∃ a dx fs b dy gs, x = .ref a ∧ y = .ref b ∧ H a = some (.ins C dx fs) ∧ H b = some (.ins C dy gs) ∧ sp [x, y] H (fun v H' => (∃ r, v = .ref r) ∧ Q v H') E
theorem inst_at {X : Cx} {pins : List (Addr × Obj)} {σ : L2.St} {H : Hp} {s : Shared} {a C dx : Addr} {fs : List (Str × V)} (I : Inv X pins σ H s) (h : H a = some (.ins C dx fs)) : ∃ od, PySem.W.InstAt s.heap a (PySem.W.instObj C dx) C (some od) := by
  have o := I.hok a _ h
  simp only [ObjOk] at o
  obtain ⟨_, _, _, o1, mA, o2, _⟩ := o
  obtain ⟨od, ho⟩ : ∃ od, s.heap.get? dx = some od := by
    obtain ⟨y, hy⟩ := I.hok dx _ (by assumption)
    exact ⟨y, hy⟩
  exact ⟨od, ⟨o1, rfl, rfl, ho⟩⟩
theorem op_addOwn {X : Cx} {CX : CXT} {k : Nat} {f C : Addr} {fd : FuncData} {sp : Sp} {E : XK} {ps : List Str}
    (G : FnOk X.prog X.w X.K X.mg X.base CX k f fd ps sp) (hr : Room k X.A) (b : Binds X.K fd ps []) (px : Passes CX X E)
    (sf : PySem.W.selfFirst X.K C = true) (hf : PySem.W.findIn X.K (.ref C) (PySem.dunder "add") = some (some (.ref f))) (fn : PySem.W.isFn X.K (.ref f) = true) :
    OpR X (binaryOp .Add) (rAddOwn C sp E) := by
  intro pins s σ H x y v u Q I rx ry h
  obtain ⟨a, dx, fs, b', dy, gs, rfl, rfl, ha, hb, hs⟩ := h
  cases (show v = Value.ref a from rx)
  cases (show u = Value.ref b' from ry)
  obtain ⟨m, fr⟩ := I.fr
  obtain ⟨oa, ia⟩ := inst_at I ha
  obtain ⟨ob, ib⟩ := inst_at I hb
  refine PySem.W.binop_K fr I.ok.mod.1 ia ib.type sf hf fn ?_
  refine PySem.wpAny_mono (run_fn (vs := [.ref a, .ref b']) (dvs := []) (ds := []) G hr b .nil px I (.cons rx (.cons ry .nil)) (by simpa using hs)) ?_ (fun _ _ z => z)
  rintro v s1 ⟨v', H', I', rv, ⟨r, rfl⟩, q⟩
  cases (show v = Value.ref r from rv)
  exact ⟨_, _, I', rv, q⟩
/-! ### lambda pair: pair[0] -/
abbrev lamPs (p : Pos) : Arguments := { posonlyargs := [], args := [{ arg := "pair", annotation := none, pos := p : PySem.Arg }], vararg := none, kwonlyargs := [], kw_defaults := [], kwarg := none, defaults := [] : PySem.Arguments }
abbrev lamB (p q r : Pos) : Expr := .Subscript (.Name "pair" p) (.Constant (.int 0) 0 q) r
abbrev lamSc : Scope := { kind := PySem.ScopeKind.function, names := [(PySem.Str.ofString "pair", PySem.NameKind.local)], isGenerator := false, isCoroutine := false, more := [] : PySem.Scope }
theorem lam_first {prog : Program} {w : World} {A : Around} {h : Heap} {g : Array GenState} {dr : Drawn} {tk : Nat} {os : OsState} {f p c' : Addr} {nm qual k : Str} {t : Tok} {us : List Value} {pm ctv : Value} {p0 p1 p2 p3 : Pos}
    (hd : A.depth < recursionLimit) (hf : h.get? f = some (PySem.W.kla_obj nm qual (lamPs p0) (lamB p1 p2 p3) lamSc [] pm c' ctv)) (hc : h.CodeRec (.ref c') qual) (nl : h.NoLimit) (ht : IsTup h p (Value.str k t :: us).toArray) :
    wpAny (model prog w) A (call (.ref f) [.ref p]) (PySem.W.KeyPure (.str k) ⟨h, g, dr, tk, os⟩) (fun _ _ => False) ⟨h, g, dr, tk, os⟩ := by
  refine PySem.wpAny_call (PySem.W.kla_callFunE hd hf rfl rfl rfl rfl hc ?_)
  have hb : bindArgs (PySem.W.kla_fn nm qual (lamPs p0) (lamB p1 p2 p3) lamSc [] pm (Value.ref c') ctv) { pos := [.ref p] } = pure [(("pair" : Str), Value.ref p)] := by
    rfl
  rw [hb]
  refine PySem.wpAny_pure (PySem.wpAny_newFunctionEnv ?_ ?_ fun h' ns sb => ⟨nl.fresh _ sb, ?_⟩)
  · intro x hx
    simp at hx
    subst hx
    exact fun z => nomatch z
  · intro x hx
    simp at hx
    subst hx
    rfl
  have keep : ∀ (b : Addr) (o : Obj), h.get? b = some o → h'.get? b = some o := fun b o hb => by
    have lt := PySem.Heap.lt_size hb
    rw [sb.2 b (Nat.ne_of_lt lt)]
    exact PySem.Heap.get?_push_of_some _ hb
  refine PySem.W.kla_codeExpr (PyProof.Rows.Subscript_ (PyProof.Rows.ldG (v := .ref p) ns rfl (PySem.wpAny_Constant_int ?_)))
  obtain ⟨o, ho, oc, n, od⟩ := ht
  refine PyProof.Rows.item_tupleL (l := Value.str k t :: us) (j := 0) ⟨o, keep p o ho, oc, n, od⟩ (by decide) (by decide) (by simp [seqIndex?]) rfl ?_
  refine ⟨h', _, rfl, keep, ?_⟩
  exact .str _ _
/-- the lambda is made: a code object more in the table at P, at the first time -/
theorem lam_make3 [TabL] {X : Cx} {pins : List (Addr × Obj)} {σ : L2.St} {H : Hp} {s : Shared} {c P : Addr} {p0 p1 p2 p3 pos : Pos} {E Q : Value → Shared → Prop}
    (I : Inv X pins σ H s) (TB : LamX.TabB X.base X.mg c P) (hc : X.env.code = .ref c) (hR : TabL.R P (X.env.qual ++ Str.ofString "<lambda>")) (tb : LamX.TabS H P (X.env.qual ++ Str.ofString "<lambda>"))
    (k : ∀ f c' pm ctv H1 s', Inv X pins σ H1 s' → Ex H H1 → s'.heap.get? f = some (PySem.W.kla_obj "<lambda>" (X.env.qual ++ Str.ofString "<lambda>") (lamPs p0) (lamB p1 p2 p3) lamSc [] pm c' ctv) → s'.heap.CodeRec (.ref c') (X.env.qual ++ Str.ofString "<lambda>") → Q (.ref f) s') :
    wpAny (model X.prog X.w) X.A (eval (.Lambda (lamPs p0) (lamB p1 p2 p3) lamSc pos) X.env) Q E s := by
  obtain ⟨ps, hP, tri, hq⟩ := tb
  have oP := I.hok P _ hP
  simp only [ObjOk] at oP
  have keep := I.bk
  have hcl : closureFor lamSc X.env = pure [] := by rfl
  refine PySem.W.kla_eval rfl ?_
  have hd := TB.code.keeps keep
  have bm := TB.bm.keeps keep
  have ns : s.heap.Ns mainGlobals X.mg := I.ok.mod.glob.keeps keep
  cases e : codeAmong pos ps.toList with
  | none =>
    refine PySem.W.kla_makeFunction hcl I.ok.glob ns hc hd oP tri e TB.gP bm fun c' ctv h' tk eb lc lc2 cr hP' => ?_
    have Pne : P ≠ c' := fun z => by
      have := PySem.Heap.lt_size oP
      rw [z] at this
      exact Nat.lt_irrefl _ (Nat.lt_of_lt_of_le this lc)
    have new : ∀ b, s.heap.objs.size ≤ b → H b = none := fun b hb => by
      cases z : H b with
      | none => rfl
      | some o => exact absurd ((I.hok b _ z).lt) (Nat.not_lt.mpr hb)
    obtain ⟨c2, oc, vs, t, ce, g1, g2, g3⟩ := cr
    cases ce
    have I2 := LamX.inv_table (t' := tk) (q := X.env.qual ++ Str.ofString "<lambda>") (h' := h'.push (PySem.W.kla_obj "<lambda>" (X.env.qual ++ Str.ofString "<lambda>") (lamPs p0) (lamB p1 p2 p3) lamSc [] ((X.mg (Str.ofString "__name__")).getD Value.none) c' ctv)) I hP (fun b o n h => PySem.Heap.get?_push_of_some _ (eb b o n h)) (PySem.Heap.get?_push_of_some _ hP') lc ⟨oc, vs, t, PySem.Heap.get?_push_of_some _ g1, g2, g3⟩
    refine k _ c' _ ctv _ _ I2 ⟨fun b o hb z => ?_, fun b hb => ?_, fun b q r t => ?_⟩ (PySem.Heap.get?_push_size _ rfl) ⟨c', oc, vs, t, rfl, PySem.Heap.get?_push_of_some _ g1, g2, g3⟩
    · rw [upd_ne (ne_of_none hb (new c' lc)), upd_ne (fun y => by rw [y, hP] at hb; cases hb; cases z)]
      exact hb
    · by_cases y : b = c'
      · rw [y, upd_same]
        exact fun z => nomatch z
      · rw [upd_ne y]
        by_cases y2 : b = P
        · rw [y2, upd_same]
          exact fun z => nomatch z
        · rw [upd_ne y2]
          exact hb
    · obtain ⟨ps', t1, t2, t3⟩ := t
      by_cases y : b = P
      · subst y
        rw [hP] at t1
        cases t1
        have hqq := TabL.one _ _ _ r hR
        subst hqq
        refine ⟨ps ++ #[rawInt ↑pos.line, rawInt ↑pos.col, Value.ref c'], by rw [upd_ne Pne, upd_same], ?_, fun pos' cv hcv => ?_⟩
        · rw [Array.toList_append]
          exact PySem.TriplesOk_snoc _ _ _ _ t2
        · rw [Array.toList_append] at hcv
          rcases LamX.among_app _ t2 hcv with h | h
          · obtain ⟨d, e1, e2⟩ := t3 pos' cv h
            refine ⟨d, e1, ?_⟩
            rw [upd_ne (ne_of_none e2 (new c' lc)), upd_ne (fun z => by rw [z, hP] at e2; cases e2)]
            exact e2
          · exact ⟨c', h, upd_same⟩
      · refine ⟨ps', by rw [upd_ne (ne_of_none t1 (new c' lc)), upd_ne y]; exact t1, t2, fun pos' cv h => ?_⟩
        obtain ⟨d, e1, e2⟩ := t3 pos' cv h
        refine ⟨d, e1, ?_⟩
        rw [upd_ne (ne_of_none e2 (new c' lc)), upd_ne (fun z => by rw [z, hP] at e2; cases e2)]
        exact e2
  | some cv =>
    obtain ⟨c', rfl, hc'⟩ := hq pos cv e
    refine PySem.W.kla_makeFunctionHit hcl I.ok.glob ns hc hd oP tri e bm fun ctv h' tk ex sz => ?_
    have ex2 : ∀ (b : Addr) (o : Obj), s.heap.get? b = some o → (h'.push (PySem.W.kla_obj "<lambda>" (X.env.qual ++ Str.ofString "<lambda>") (lamPs p0) (lamB p1 p2 p3) lamSc [] ((X.mg (Str.ofString "__name__")).getD Value.none) c' ctv)).get? b = some o := fun b o h => PySem.Heap.get?_push_of_some _ (ex b o h)
    refine k _ c' _ ctv H _ (I.kept ex2) (Ex.refl H) (PySem.Heap.get?_push_size _ rfl) ?_
    have oc := I.hok c' _ hc'
    simp only [LamX.CodeO, ObjOk] at oc
    obtain ⟨⟨o1, vs, t, g1, g2, g3⟩, _⟩ := oc
    exact ⟨c', o1, vs, t, rfl, ex2 _ _ g1, g2, g3⟩
/-- sorted(e, key=lambda pair: pair[0]), of a list of pairs that begin with a text -/
abbrev Bs : Type := Addr × Str × V
abbrev bkey : Bs → PyData := fun b => .str b.2.1
def sortB (bs : List Bs) : List Bs := bs.mergeSort (PySem.W.dataLe false bkey)
def tSortL [TabL] (P : Addr) (q : Str) (t : TA) : TE := fun σ H Q => t σ H fun xs H1 => ∃ (a : Addr) (bs : List Bs), xs = [.ref a] ∧ H1 a = some (.lst (bs.map fun b => V.ref b.1)) ∧ (∀ b ∈ bs, H1 b.1 = some (.tup [.str b.2.1, b.2.2])) ∧ LamX.TabS H1 P q ∧
  ∀ H2 D, Ex H1 H2 → H2 D = none → Q (.ref D) (upd H2 D (.lst ((sortB bs).map fun b => V.ref b.1)))
theorem each_of {H : Hp} {bs : List Bs} {its : List Value} {R : Value → Bs → Prop} (h : Vals (bs.map fun b => V.ref b.1) its) (r : ∀ b ∈ bs, R (.ref b.1) b) : PySem.W.EachIs R its bs := by
  induction bs generalizing its with
  | nil => cases h; exact .nil
  | cons b bs ih =>
    cases h with
    | cons a c =>
      cases (show _ = Value.ref b.1 from a)
      exact .cons (r b List.mem_cons_self) (ih c fun x hx => r x (List.mem_cons_of_mem _ hx))
theorem vals_of {bs : List Bs} {its : List Value} {R : Value → Bs → Prop} (h : PySem.W.EachIs R its bs) (r : ∀ v b, R v b → v = .ref b.1) : Vals (bs.map fun b => V.ref b.1) its := by
  induction h with
  | nil => exact .nil
  | cons a _ ih => exact .cons (r _ _ a) ih
theorem pe_sortL [TabL] {X : Cx} {c P : Addr} {e : Expr} {t : TA} {p0 p1 p2 p3 p4 p5 p6 p7 : Pos}
    (he : PA X [e] t) (hg : Gl X "sorted") (hm : X.mg "sorted" = none) (hb : PySem.bootBuiltins "sorted" = some (.builtin "sorted"))
    (TB : LamX.TabB X.base X.mg c P) (hc : X.env.code = .ref c) (hR : TabL.R P (X.env.qual ++ Str.ofString "<lambda>")) (hr : Room 1 X.A)
    (a1 : backTo p7 (starEach [e] X.env) = (false, eval e X.env) :: backTo p7 (starEach [] X.env) := by rfl)
    (a2 : ((backTo p7 (starEach [e] X.env)).any fun x => x.1) = false := by rfl) :
    PE X (.Call (.Name "sorted" p0) [e] [{ arg := some "key", value := .Lambda (lamPs p1) (lamB p2 p3 p4) lamSc p5, pos := p6 }] p7) (tSortL P (X.env.qual ++ Str.ofString "<lambda>") t) := by
  refine ⟨fun pins s σ H Q I h => ?_⟩
  refine PySem.wpAny_Call_ofName (ld_blt I hg hm hb ?_)
  refine PyProof.Rows.callWith_kw (PySem.wpAny_mono (he.run p7 pins s σ H _ I h) ?_ fun _ _ z => z) a1 a2 rfl rfl
  rintro us s1 ⟨vs, H1, I1, rv, a, bs, rfl, ha, hbs, tb, k⟩
  cases rv with
  | cons ra rn =>
  cases rn
  cases (show _ = Value.ref a from ra)
  refine PyProof.Rows.kws_cons (lam_make3 I1 TB hc hR tb fun f c' pm ctv H2 s2 I2 ex hf cr => PyProof.Rows.kws_nil ?_)
  obtain ⟨its, rits, ⟨o, n, ho, oc, _, od⟩, hl⟩ := I2.list (.inl (.inl (ex a _ ha)))
  show wpAny _ _ (call (Value.builtin "sorted") [Value.ref a] [("key", Value.ref f)]) _ _ _
  refine PySem.W.sorted_key_data (bs := bs) (vs := its) (R := fun v b => v = .ref b.1 ∧ ∃ k t us, k = b.2.1 ∧ IsTup s2.heap b.1 (Value.str k t :: us).toArray) (b := false) bkey ⟨o, ho, oc, n, od⟩ (each_of (H := H2) rits fun b hb => ⟨rfl, ?_⟩) ?_ ?_ (by simpa using hl) ?_ (PyProof.Rows.ksk_s1 _ _) (fun x => PyProof.Rows.ksk_l1 _ _) (fun x => PyProof.Rows.ksk_t1 _ _) ?_ ?_
  · obtain ⟨jts, rj, tj, _⟩ := I2.tuple (.inl (.inl (ex b.1 _ (hbs b hb))))
    cases rj with
    | cons r1 r2 =>
    obtain ⟨t, rfl⟩ := (show ∃ t, _ = Value.str b.2.1 t from r1)
    exact ⟨_, t, _, rfl, tj⟩
  · intro d hd d' hd'
    obtain ⟨b, _, rfl⟩ := List.mem_map.mp hd
    obtain ⟨b', _, rfl⟩ := List.mem_map.mp hd'
    rfl
  · refine .inr fun d hd => ?_
    obtain ⟨b, _, rfl⟩ := List.mem_map.mp hd
    exact ⟨(fun z => nomatch z), fun xs z => nomatch z⟩
  · intro b hb
    have := hr.un
    show X.A.units + 2 + 0 < cLine
    omega
  · rintro v b ⟨rfl, k, t, us, rfl, ht⟩ hb h tk hx
    refine lam_first (t := t) (us := us) ?_ (hx _ _ hf) (cr.keeps hx) (I2.nolimit.at fun o z => hx _ o z) ?_
    · have := hr.dp
      show X.A.depth < recursionLimit
      omega
    · obtain ⟨o, h1, h2⟩ := ht
      exact ⟨o, hx _ _ h1, h2⟩
  · intro out c2 h' tk hx hn hl' hlen he'
    refine ⟨.ref _, _, I2.laid (a := s2.heap.objs.size + 1) (o := .lst ((sortB bs).map fun b => V.ref b.1)) hx (Nat.le_succ _) ?_, rfl, ?_⟩
    · simp only [ObjOk]
      refine ⟨?_, out, c2, vals_of he' fun v b z => z.1, hl'⟩
      unfold sortB
      rw [List.length_map, List.length_mergeSort]
      simpa using hl
    · refine k H2 _ ex ?_
      cases z : H2 (s2.heap.objs.size + 1) with
      | none => rfl
      | some o => exact absurd (I2.hok _ _ z).lt (Nat.not_lt.mpr (Nat.le_succ _))
end TP

namespace TP
open PySem PySem.Spec PyProof.Rows L2
/-! ### an object is called -/
def tInst (C : Addr) (sp : Sp) (E : XK) (t : TE) (i : Nat) : TE := fun σ H Q => t σ H fun y H1 => ∃ a dx fs v, y = .ref a ∧ H1 a = some (.ins C dx fs) ∧ σ[i]? = some (some v) ∧ sp [y, v] H1 Q E
theorem pe_inst {X : Cx} {CX : CXT} {k i : Nat} {f C : Addr} {fd : FuncData} {sp : Sp} {E : XK} {ps : List Str} {fe : Expr} {x : Str} {p pos : Pos} {t : TE}
    (hf : PE X fe t) (G : FnOk X.prog X.w X.K X.mg X.base CX k f fd ps sp) (hr : Room k X.A) (b : Binds X.K fd ps []) (px : Passes CX X E)
    (fc : PySem.W.findIn X.K (.ref C) "__call__" = some (some (.ref f))) (fn : PySem.W.isFn X.K (.ref f) = true) (fi : PySem.W.fnIn X.K f = true)
    (hx : X.N[i]? = some x) (hk : List.lookup x X.env.scope.names = some .local) (hv : Vis X.env.scope x)
    (nd : (x == Str.ofString "__debug__") = false := by rfl)
    (ev : eval (.Call fe [.Name x p] [] pos) X.env = (do
          let f ← eval fe X.env
          callWith pos f [] (backTo pos (starEach [.Name x p] X.env)) (backToKw pos (keywordEach [] X.env))) := by rfl) :
    PE X (.Call fe [.Name x p] [] pos) (tInst C sp E t i) := by
  refine ⟨fun pins s σ H Q I h => PyProof.Rows.Call_ (PySem.wpAny_mono (hf.run pins s σ H _ I h) ?_ fun _ _ z => z) ev⟩
  rintro u s1 ⟨y, H1, I1, ry, a, dx, fs, v, rfl, ha, hσ, hs⟩
  cases (show u = Value.ref a from ry)
  obtain ⟨oa, ia⟩ := inst_at I1 ha
  obtain ⟨m, ns, hm⟩ := I1.loc
  obtain ⟨w, rw', lk⟩ := hm i x v hx hσ hv
  have hmx : m x = some w := by
    rcases lk with ⟨_, z⟩ | ⟨z, _⟩
    · exact z
    · rw [show X.env.kindOf x = some .local from hk] at z
      rcases z with z | z <;> cases z
  refine PySem.W.kco_callWith I1.kIn ia rfl fc (PyProof.Rows.spliced_more (PyProof.Rows.ldG ns hmx (PyProof.Rows.spliced_none ⟨⟨I1.kIn, ia⟩, ?_⟩) I1.ok.kind hk nd))
  refine PySem.wpAny_call (PySem.W.kco_code I1.kIn ia rfl fc fn fi (PySem.codeAny_mono (G.run X.A X.stack s1 H1 ⟨[.ref a, w], []⟩ [.ref a, w] [.ref a, v] Q E hr I1.env0 ?_ (.cons ry (.cons rw' .nil)) hs) ?_))
  · have := G.len _ _ _ _ hs
    exact b s1 [.ref a, w] I1.kIn (by simpa using this)
  · rintro r s2 h
    match r, h with
    | .ok (.ret u), ⟨v2, H2, os, bare, un, hok, rv, q⟩ =>
      refine ⟨v2, H2, ?_, rv, q⟩
      have := I1.call (t' := s2.toks) (d' := s2.drawn) un hok bare fun b hb => nomatch hb
      rw [← os] at this
      exact this
    | .error e, h => exact px pins σ H1 s1 e s2 I1 h
end TP

namespace TP
open PySem PySem.Spec PyProof.Rows L2
def topS (i : Nat) : Stmt := PySem.Challenge.pw_twopatches_k24_trees_of_rows_by_hand.main.body.getD i (.Pass ⟨0, 0, 0, 0⟩)
abbrev sCopied : Stmt := topS 10
/-- a def of the text, as the top has left it -/
structure Df (K : PySem.W.Frag) (mg : Str → Option Value) (x : Str) (st : Stmt) (ps : List Str) (f : Addr) (fd : FuncData) : Prop where
  F : Fun K x x st f fd
  m : mg x = some (.ref f)
  b : Binds K fd ps []
/-- the built-in names are the built-in things -/
def Bi (mg : Str → Option Value) : Prop := ∀ x ∈ (["isinstance", "dict", "list", "int", "str", "bool", "sorted", "sum", "max", "all", "len", "range", "abs", "repr", "tuple"] : List Str), mg x = none
theorem Bi.of {mg : Str → Option Value} (h : Bi mg) (x : Str) (hx : x ∈ (["isinstance", "dict", "list", "int", "str", "bool", "sorted", "sum", "max", "all", "len", "range", "abs", "repr", "tuple"] : List Str) := by decide +kernel) : mg x = none := h x hx
/-- new since H -/
abbrev Nw (H : Hp) : Addr → Prop := fun a => H a = none
theorem Nw.ex [TabL] {H H' : Hp} (e : Ex H H') {a : Addr} (h : Nw H' a) : Nw H a := fresh_back e h
section
variable [TabL] {P : Program} {w : World} {K : PySem.W.Frag} {mg : Str → Option Value} {base : Heap}
theorem fn_zero {k : Nat} {f : Addr} {fd : FuncData} {ps : List Str} {sp : Sp} (h : ∀ vs H Q E, ¬ sp vs H Q E) : FnOk P w K mg base CX0 k f fd ps sp :=
  ⟨fun vs H Q E z => (h _ _ _ _ z).elim, fun _ _ _ _ _ _ _ _ _ _ _ _ _ z => (h _ _ _ _ z).elim⟩
/-! ### copied -/
def spCopied (G : Gen) (n : Nat) : Sp := fun vs H Q _ => ∃ (S : Addr → Prop) (v : V) (d : D), vs = [v] ∧ Dc S G H n v d ∧ ∀ r H', Ex H H' → Dc (Nw H) G H' n r d → Q r H'
theorem scCopied : FnScope ["document", "key"] ["document"] (defScope sCopied) := ⟨rfl, rfl, rfl, by decide +kernel, rfl, by decide +kernel, by decide +kernel⟩
theorem sizeK {G : Gen} (h : G.KS.length ≤ 5000) {S H n ms f} (m : Mem S G H n ms f) : (kvsOf ms).length < sizeLine := by
  have := m.len
  rw [List.length_map]
  exact Nat.lt_of_le_of_lt (show _ ≤ 5000 by omega) (by decide)
theorem ok_copied {f : Addr} {fd : FuncData} (Dd : Df K mg "copied" sCopied ["document"] f fd) (T : Bi mg) {G : Gen} (hG : G.KS.length ≤ 5000) : ∀ n, FnOk P w K mg base CX0 n f fd ["document"] (spCopied G n)
  | 0 => fn_zero fun vs H Q E ⟨_, _, _, _, h, _⟩ => h
  | n + 1 => by
    have ih := ok_copied Dd T hG n
    refine Dd.F.ok scCopied (fun vs H Q E h => ?_) (fun cdv A outer s H vs Q E hr h => ?_)
    · obtain ⟨_, v, d, rfl, _⟩ := h
      rfl
    obtain ⟨S, v, d, rfl, hv, k⟩ := h
    have hu := hu_of hr
    refine ⟨_, pss_cons (ps_if (pt_val (pe_callB call_isi (by rfl) (T.of "isinstance") (by decide +kernel) (pa_cons (pv 0) (pa_cons (pe_bltn (v := .ty "dict") (by rfl) (T.of "dict") (by decide +kernel) rfl) pa_nil))))
        (pss_one (ps_ret (pe_lock (pe_dc (own := [("key", 1)]) (g := gName 1) (tt := tYes) rfl scCopied.nd (pi_keys (pv 0)) (blkOk_by (N := ["document", "key"]) (sc := defScope sCopied) (by decide +kernel)) (fun _ _ _ _ _ => pg_name (i := 1) scCopied.nd rfl (Or.inl rfl)) (fun _ _ _ _ _ => pts_nil)
          (fun _ _ _ _ _ => pv 1) (fun _ _ _ _ _ => pe_call ih hr rfl Dd.m Dd.F.kp Dd.b .nil pass0 (pa_cons (pe_dget hu (pv 0) (pv 1) (fun _ _ => rfl)) pa_nil)))))) pss_nil)
      (pss_cons (ps_if (pt_val (pe_callB call_isi (by rfl) (T.of "isinstance") (by decide +kernel) (pa_cons (pv 0) (pa_cons (pe_bltn (v := .ty "list") (by rfl) (T.of "list") (by decide +kernel) rfl) pa_nil))))
        (pss_one (ps_ret (pe_callTy call_list_of (by rfl) (T.of "list") (by decide +kernel) (pa_cons (pv 0) pa_nil)))) pss_nil)
      (pss_one (ps_ret (pv 0)))), ?_⟩
    obtain ⟨t1, ty1, kit1⟩ := isiD K hv
    obtain ⟨t2, ty2, kit2⟩ := isiL K hv
    refine ⟨v, rfl, v, .ty "dict", t1, _, _, rfl, .ty _, ty1, kit1, _, rfl, ?_⟩
    refine hv.cases (fun m e hs ed => ?_) (fun m a xs e ev hS r hx ed => ?_) (fun m a ms f e ev hS r M ed => ?_)
    · subst ed
      refine iteF ⟨v, rfl, v, .ty "list", t2, _, _, rfl, .ty _, ty2, kit2, _, rfl, iteF ⟨v, rfl, ?_⟩⟩
      exact k v H (Ex.refl H) (by cases e; exact Dc.sc hs)
    · subst ed; subst ev
      refine iteF ⟨_, rfl, .ref a, .ty "list", t2, _, _, rfl, .ty _, ty2, kit2, _, rfl, iteT ⟨_, rfl, a, xs, rfl, .inl (.inl (.inl r)), fun l hl => ?_⟩⟩
      exact k _ _ (Ex.new hl) (by cases e; exact Dc.ls hl upd_same hx)
    · subst ed; subst ev
      cases e
      refine iteT ⟨a, _, r, trivial, fun od => ?_⟩
      have M' := M.lock r hS (o := .frz od (.dK (kvsOf ms)))
      refine ⟨_, rfl, a, od, rfl, .inl ⟨_, upd_same, fun Da hD => ?_⟩⟩
      have hDa : Da ≠ a := fun z => by rw [z, upd_same] at hD; cases hD
      have hDH : H Da = none := by rw [upd_ne hDa] at hD; exact hD
      refine dc_keys (o := od) (d := a) (ms := ms) (fun i H2 => Ex (upd H a (.frz od (.dK (kvsOf ms)))) H2 ∧ ∃ ms2 f2, H2 Da = some (.dK (kvsOf ms2)) ∧ Mem (fun b => H b = none ∧ b ≠ Da) G H2 n ms2 f2 ∧ f2 = mix ms i f (fun _ => .nil)) ?_ ?_ ?_ ?_
      · exact ⟨Ex.new hD, [], fun _ => .nil, upd_same, Mem.nil, mix_zero.symm⟩
      · exact fun i H2 _ p => p.1 a _ upd_same
      · intro i key u H2 hi p
        obtain ⟨ex, ms2, f2, h2, M2, hf⟩ := p
        have hku : valV ms key = some u := valV_of_mem M.nd (List.mem_of_getElem? hi)
        refine ⟨rfl, ?_⟩
        refine t_yes ?_
        refine ⟨.str key, rfl, .ref a, rfl, .str key, rfl, a, u, rfl, .inl ⟨_, Sum.inr key, .inr ⟨od, ex a _ upd_same⟩, rfl, by rw [valV_inK]; exact hku.symm⟩, ?_⟩
        refine ⟨S, u, f key, rfl, (M'.at' key u hku).ex ex, fun z H5 ex5 hz => ?_⟩
        have h5 := ex5 Da _ h2
        have M5 := M2.ex ex5
        have nz : Dc (fun b => H b = none ∧ b ≠ Da) G H5 n z (f key) := hz.imp fun b hb => by
          have q := fresh_back ex hb
          by_cases zz : b = a
          · rw [zz, upd_same] at q; cases q
          · rw [upd_ne zz] at q
            exact ⟨q, (ne_of_none h2 hb).symm⟩
        refine ⟨kvsOf ms2, Sum.inr key, rfl, h5, sizeK hG M5, ?_, putK ms2 key z, D.fup f2 key (f key), by rw [upd_same, putK_inK], ?_, ?_⟩
        · exact Ex.mut (ex.trans ex5) hD h5
        · exact (M5.put (M.ks key (List.mem_map.mpr ⟨_, List.mem_of_getElem? hi, rfl⟩)) nz).off fun z => z.2 rfl
        · rw [hf]; exact mix_succ hi
      · intro H2 p
        obtain ⟨ex, ms2, f2, h2, M2, hf⟩ := p
        refine ⟨ex a _ upd_same, ?_⟩
        refine k _ _ (ex_unlock r ex) (Dc.ob hDH (by rw [upd_ne hDa]; exact h2) ?_)
        have e : f2 = f := by
          rw [hf]
          exact mix_all fun k hk => M.no k (valV_none_of hk)
        rw [← e]
        exact (M2.imp fun b hb => hb.1).off (fun z => by rw [show H a = none from z] at r; cases r)
end
end TP

namespace TP
open PySem PySem.Spec PyProof.Rows L2
abbrev sCheck : Stmt := topS 8
-- no sApplied
abbrev sDepth : Stmt := topS 11
abbrev sParts : Stmt := topS 12
abbrev sWrong : Stmt := topS 13
abbrev sIsAtom : Stmt := topS 14
abbrev sIsElem : Stmt := topS 15
section
variable [TabL] {P : Program} {w : World} {K : PySem.W.Frag} {mg : Str → Option Value} {base : Heap}
/-! ### is_element -/
def spElem : Sp := fun vs H Q _ => ∃ v, vs = [v] ∧ isSc v = true ∧ ∀ H', Ex H H' → Q (.bl true) H'
theorem scElem : FnScope ["value"] ["value"] (defScope sIsElem) := ⟨rfl, rfl, rfl, by decide +kernel, rfl, by decide +kernel, by decide +kernel⟩
theorem ok_elem {f : Addr} {fd : FuncData} (Dd : Df K mg "is_element" sIsElem ["value"] f fd) (T : Bi mg) : FnOk P w K mg base CX0 1 f fd ["value"] spElem := by
  refine Dd.F.ok scElem (fun vs H Q E h => ?_) (fun cdv A outer s H vs Q E hr h => ?_)
  · obtain ⟨v, rfl, _⟩ := h
    rfl
  obtain ⟨v, rfl, hv, k⟩ := h
  refine ⟨_, pss_one (ps_ret (pe_or (pe_cmpR op_isN (pv 0) pe_non (nomark _)) (pe_one (pe_and (pe_callB call_isiT (by rfl) (T.of "isinstance") (by decide +kernel) (pa_cons (pv 0) (pa_cons (pe_tup (pa_cons (pe_bltn (v := .ty "int") (by rfl) (T.of "int") (by decide +kernel) rfl) (pa_cons (pe_bltn (v := .ty "str") (by rfl) (T.of "str") (by decide +kernel) rfl) pa_nil))) pa_nil)))
    (pe_one (pe_not (pe_callB call_isi (by rfl) (T.of "isinstance") (by decide +kernel) (pa_cons (pv 0) (pa_cons (pe_bltn (v := .ty "bool") (by rfl) (T.of "bool") (by decide +kernel) rfl) pa_nil))))))))), ?_⟩
  refine ⟨v, rfl, rfl, _, rfl, ?_⟩
  have way : ∀ t : String, (∀ H', TyX K H' v (.type t)) → v ≠ .non → PySem.W.kitAny K (.type t) [.type "int", .type "str"] = some true → PySem.W.kitOne K (.type t) (.type "bool") = some false →
      tAndV (tCB (rIsiT K) (tCons (tVar 0) (tCons (tTup (tCons (tC (.ty "int")) (tCons (tC (.ty "str")) tNil))) tNil))) (tNotV (tCB (rIsi K) (tCons (tVar 0) (tCons (tC (.ty "bool")) tNil)))) (start ["value"] [v]) H Q := fun t ty _ ka kb =>
    ⟨v, rfl, (by show 2 ≤ sizeLine; decide), fun p hp => ⟨v, p, [.ty "int", .ty "str"], _, _, _, rfl, upd_same, .cons (.ty _) (.cons (.ty _) .nil), ty _, ka, _, rfl, iteT ⟨v, rfl, v, .ty "bool", _, _, _, rfl, .ty _, ty _, kb, _, rfl, k _ (Ex.new hp)⟩⟩⟩
  cases v <;> first | cases hv | skip
  · exact iteT (k H (Ex.refl H))
  · exact ifF rfl (way "int" (fun _ => .base (.int _)) (fun z => nomatch z) (kitAny_cons (b := true) (kit_ty (by decide +kernel)) (fun z => nomatch z) fun _ => rfl) (kit_ty (r := false) (by decide +kernel)))
  · exact ifF rfl (way "str" (fun _ => .base (.str _)) (fun z => nomatch z) (kitAny_cons (b := false) (kit_ty (by decide +kernel)) (fun _ => kitAny_cons (b := true) (kit_ty (by decide +kernel)) (fun z => nomatch z) fun _ => rfl) fun z => nomatch z) (kit_ty (r := false) (by decide +kernel)))
/-! ### is_atom -/
def spAtom (G : Gen) : Sp := fun vs H Q _ => ∃ (S : Addr → Prop) (n : Nat) (v : V) (d : D), vs = [v] ∧ Dc S G H n v d ∧ d.isOb = false ∧ ∀ H', Ex H H' → Q (.bl true) H'
theorem scAtom : FnScope ["value", "element"] ["value"] (defScope sIsAtom) := ⟨rfl, rfl, rfl, by decide +kernel, rfl, by decide +kernel, by decide +kernel⟩
theorem ok_atom {f fe : Addr} {fd fde : FuncData} (Dd : Df K mg "is_atom" sIsAtom ["value"] f fd) (De : Df K mg "is_element" sIsElem ["value"] fe fde) (T : Bi mg) {G : Gen} (hL : G.L ≤ 5000) : FnOk P w K mg base CX0 2 f fd ["value"] (spAtom G) := by
  have ge : FnOk P w K mg base CX0 1 fe fde ["value"] spElem := ok_elem De T
  refine Dd.F.ok scAtom (fun vs H Q E h => ?_) (fun cdv A outer s H vs Q E hr h => ?_)
  · obtain ⟨_, _, v, _, rfl, _⟩ := h
    rfl
  obtain ⟨S, n, v, d, rfl, hv, ho, k⟩ := h
  refine ⟨_, pss_cons (ps_if (pt_val (pe_callB call_isi (by rfl) (T.of "isinstance") (by decide +kernel) (pa_cons (pv 0) (pa_cons (pe_bltn (v := .ty "list") (by rfl) (T.of "list") (by decide +kernel) rfl) pa_nil))))
      (pss_one (ps_ret (pe_callB (cr_all rfl) (by rfl) (T.of "all") (by decide +kernel) (pa_cons (pe_lc (own := [("element", 1)]) (g := gName 1) (tt := tYes) rfl scAtom.nd (pi_list (pv 0)) (blkOk_by (N := ["value", "element"]) (sc := defScope sIsAtom) (by decide +kernel))
        (fun _ _ _ _ _ => pg_name (i := 1) scAtom.nd rfl (Or.inl rfl)) (fun _ _ _ _ _ => pts_nil) (fun _ _ _ _ _ => pe_call ge hr rfl De.m De.F.kp De.b .nil pass0 (pa_cons (pv 1) pa_nil))) pa_nil)))) pss_nil)
    (pss_one (ps_ret (pe_call ge hr rfl De.m De.F.kp De.b .nil pass0 (pa_cons (pv 0) pa_nil)))), ?_⟩
  obtain ⟨t1, ty1, kit1⟩ := isiL K hv
  refine ⟨v, rfl, v, .ty "list", t1, _, _, rfl, .ty _, ty1, kit1, _, rfl, ?_⟩
  refine hv.cases (fun m _ hs e => ?_) (fun m a xs _ ev hS r hx e => ?_) (fun m a ms g _ _ _ _ _ e => ?_)
  · subst e
    exact iteF ⟨v, rfl, v, rfl, G.sc _ hs, fun H' ex => k H' ex⟩
  · subst e; subst ev
    refine iteT ⟨_, rfl, a, rfl, ⟨_, .inl (.inl r)⟩, fun Da hD => ?_⟩
    refine lc_list (K := K) (a := a) (xs := xs) (fun i H2 => Ex H H2 ∧ H2 Da = some (.lst (List.replicate i (.bl true)))) ⟨Ex.new hD, upd_same⟩ (fun i H2 _ q => .inl (.inl (q.1 a _ r))) ?_ ?_
    · intro i x H2 hi q
      refine ⟨rfl, t_yes ?_⟩
      refine ⟨x, rfl, x, rfl, G.sc _ (hx.2 x (List.mem_of_getElem? hi)), fun H5 ex5 => ⟨_, ex5 Da _ q.2, ?_, Ex.mut (q.1.trans ex5) hD (ex5 Da _ q.2), ?_⟩⟩
      · have := (List.getElem?_eq_some_iff.mp hi).1
        rw [List.length_replicate]
        exact Nat.lt_of_le_of_lt (show i ≤ 5000 by omega) (by decide)
      · rw [upd_same, List.replicate_succ']
    · intro H2 q
      refine ⟨Da, List.replicate xs.length true, rfl, .inl (.inl (by rw [q.2, List.map_replicate])), ?_⟩
      rw [show (List.replicate xs.length true).all id = true by simp]
      exact k H2 q.1
  · subst e
    cases ho
/-! ### wrong_path -/
def spWrong (G : Gen) (n : Nat) : Sp := fun vs H Q _ => ∃ (S : Addr → Prop) (v : V) (d : D), vs = [v] ∧ Dc S G H n v d ∧ ∀ H', Ex H H' → Q .non H'
abbrev nWrong : List Str := ["value", "key", "path"]
theorem scWrong : FnScope nWrong ["value"] (defScope sWrong) := ⟨rfl, rfl, rfl, by decide +kernel, rfl, by decide +kernel, by decide +kernel⟩
theorem ok_wrong {f fa fe : Addr} {fd fda fde : FuncData} (Dd : Df K mg "wrong_path" sWrong ["value"] f fd) (Da' : Df K mg "is_atom" sIsAtom ["value"] fa fda) (De : Df K mg "is_element" sIsElem ["value"] fe fde) (T : Bi mg) {G : Gen} (hL : G.L ≤ 5000) (hG : G.KS.length < 64) :
    ∀ n, FnOk P w K mg base CX0 (n + 2) f fd ["value"] (spWrong G n)
  | 0 => fn_zero fun vs H Q E ⟨_, _, _, _, h, _⟩ => h
  | n + 1 => by
    have ih := ok_wrong Dd Da' De T hL hG n
    have ga : FnOk P w K mg base CX0 (n + 2) fa fda ["value"] (spAtom G) := (ok_atom Da' De T hL).mono (by omega)
    refine Dd.F.ok scWrong (fun vs H Q E h => ?_) (fun cdv A outer s H vs Q E hr h => ?_)
    · obtain ⟨_, v, _, rfl, _⟩ := h
      rfl
    obtain ⟨S, v, d, rfl, hv, k⟩ := h
    have hu := hu_of hr
    refine ⟨_, pss_cons (ps_if (pt_not (pt_val (pe_callB call_isi (by rfl) (T.of "isinstance") (by decide +kernel) (pa_cons (pv 0) (pa_cons (pe_bltn (v := .ty "dict") (by rfl) (T.of "dict") (by decide +kernel) rfl) pa_nil)))))
        (pss_one (ps_ret (pe_ifExp (pt_val (pe_call ga hr rfl Da'.m Da'.F.kp Da'.b .nil pass0 (pa_cons (pv 0) pa_nil))) pe_non (pe_tup pa_nil)))) pss_nil)
      (pss_cons (ps_if (pt_not (pt_val (pe_callB (cr_all rfl) (by rfl) (T.of "all") (by decide +kernel) (pa_cons (pe_lock (pe_lc (own := [("key", 1)]) (g := gName 1) (tt := tYes) rfl scWrong.nd (pi_keys (pv 0)) (blkOk_by (N := nWrong) (sc := defScope sWrong) (by decide +kernel))
          (fun _ _ _ _ _ => pg_name (i := 1) scWrong.nd rfl (Or.inl rfl)) (fun _ _ _ _ _ => pts_nil) (fun _ _ _ _ _ => pe_callB (id := "isinstance") (r := rIsi K) call_isi (by rfl) (T.of "isinstance") (by decide +kernel) (pa_cons (pv 1) (pa_cons (pe_bltn (v := .ty "str") (by rfl) (T.of "str") (by decide +kernel) rfl) pa_nil))))) pa_nil))))
          (pss_one ps_never) pss_nil)
      (pss_cons (ps_for PassesOwn.never rfl (pi_list (pe_callB (call_sortedD rfl) (by rfl) (T.of "sorted") (by decide +kernel) (pa_cons (pv 0) pa_nil))) (pg_name (i := 1) scWrong.nd rfl (Or.inl rfl))
        (pss_cons (ps_set (i := 2) scWrong.nd rfl (Or.inl rfl) (pe_call ih hr rfl Dd.m Dd.F.kp Dd.b .nil pass0 (pa_cons (pe_dget hu (pv 0) (pv 1) (fun _ _ => rfl)) pa_nil)))
        (pss_one (ps_if (pt_cmpR op_notN (pv 2) pe_non (nomark _)) (pss_one ps_never) pss_nil))))
      (pss_one (ps_ret pe_non)))), ?_⟩
    obtain ⟨t1, ty1, kit1⟩ := isiD K hv
    refine ⟨v, rfl, v, .ty "dict", t1, _, _, rfl, .ty _, ty1, kit1, _, rfl, ?_⟩
    refine hv.cases (fun m _ hs e => ?_) (fun m a xs _ ev hS r hx e => ?_) (fun m a ms g em ev hS r M e => ?_)
    · subst e
      exact iteT ⟨v, rfl, S, _, v, _, rfl, hv, rfl, fun H' ex => ⟨_, rfl, iteT (k H' ex)⟩⟩
    · subst e
      exact iteT ⟨v, rfl, S, _, v, _, rfl, hv, rfl, fun H' ex => ⟨_, rfl, iteT (k H' ex)⟩⟩
    subst e; subst ev; cases em
    refine iteF ⟨a, _, r, trivial, fun od => ⟨_, rfl, a, od, rfl, .inl ⟨_, upd_same, fun Da hD => ?_⟩⟩⟩
    have hDa : Da ≠ a := fun z => by rw [z, upd_same] at hD; cases hD
    have hml := M.len
    refine lc_keys (o := od) (d := a) (ms := ms) (fun i H2 => Ex (upd H a (.frz od (.dK (kvsOf ms)))) H2 ∧ H2 Da = some (.lst (List.replicate i (.bl true)))) ⟨Ex.new hD, upd_same⟩ (fun i H2 _ q => q.1 a _ upd_same) ?_ ?_
    · intro i key u H2 hi q
      refine ⟨rfl, t_yes ?_⟩
      refine ⟨.str key, rfl, .str key, .ty "str", _, _, _, rfl, .ty _, .base (.str key), kit_ty (r := true) (by decide +kernel), _, q.2, ?_, Ex.mut q.1 hD q.2, ?_⟩
      · have := (List.getElem?_eq_some_iff.mp hi).1
        rw [List.length_replicate]
        exact Nat.lt_of_le_of_lt (show i ≤ 5000 by omega) (by decide)
      · rw [upd_same, List.replicate_succ']
    intro H2 q
    refine ⟨q.1 a _ upd_same, ?_⟩
    refine ⟨Da, List.replicate ms.length true, rfl, .inl (.inl (by rw [upd_ne hDa, q.2, List.map_replicate])), ?_⟩
    have ex : Ex H (upd H2 a (.dK (kvsOf ms))) := ex_unlock r q.1
    generalize upd H2 a (.dK (kvsOf ms)) = H3 at ex
    rw [show (List.replicate ms.length true).all id = true by simp]
    refine ⟨_, rfl, iteF ?_⟩
    refine ⟨_, rfl, a, kvsOf ms, ms.map (·.1), rfl, .inl (ex a _ r), by rw [List.map_map, List.map_map]; rfl, by rw [List.length_map]; omega, fun ys p hp _ nw => ?_⟩
    refine ⟨p, rfl, ⟨_, .inl (.inl upd_same)⟩, for_list (K := K) (a := p) (xs := ys.map V.str) (fun i σ H4 => (∃ x y, σ = [some (.ref a), x, y]) ∧ Ex H H4 ∧ H4 p = some (.lst (ys.map V.str))) ⟨⟨_, _, rfl⟩, ex.trans (Ex.new nw), upd_same⟩ (fun i σ H4 _ q => .inl (.inl q.2.2)) ?_ ?_⟩
    · rintro i x σ H4 hi ⟨⟨x1, y1, rfl⟩, e4, hp4⟩
      obtain ⟨key, hk, rfl⟩ : ∃ key, key ∈ ys ∧ x = .str key := by
        obtain ⟨key, h1, h2⟩ := List.mem_map.mp (List.mem_of_getElem? hi)
        exact ⟨key, h1, h2.symm⟩
      obtain ⟨u, hku⟩ := valV_some_of ((hp.mem_iff).mp hk)
      refine ⟨.ref a, rfl, .str key, rfl, a, u, rfl, .inl ⟨_, Sum.inr key, .inl (e4 a _ r), rfl, by rw [valV_inK]; exact hku.symm⟩, S, u, g key, rfl, (M.at' key u hku).ex e4, fun H5 e5 => ?_⟩
      exact ⟨_, rfl, rfl, _, rfl, iteF ⟨⟨_, _, rfl⟩, e4.trans e5, e5 p _ hp4⟩⟩
    · rintro σ H4 ⟨_, e4, _⟩
      exact k H4 e4
end
end TP

namespace TP
open PySem PySem.Spec PyProof.Rows L2
section
variable [TabL] {P : Program} {w : World} {K : PySem.W.Frag} {mg : Str → Option Value} {base : Heap}
/-! ### depth -/
def spDepth (G : Gen) (n : Nat) : Sp := fun vs H Q _ => ∃ (S : Addr → Prop) (v : V) (d : D) (b : Nat), vs = [v] ∧ Dc S G H n v d ∧ DD d b ∧ ∀ (j : Int) H', Ex H H' → 0 ≤ j → j ≤ b → Q (.int j) H'
theorem scDepth : FnScope ["document", "key"] ["document"] (defScope sDepth) := ⟨rfl, rfl, rfl, by decide +kernel, rfl, by decide +kernel, by decide +kernel⟩
theorem ok_depth {f : Addr} {fd : FuncData} (Dd : Df K mg "depth" sDepth ["document"] f fd) (T : Bi mg) {G : Gen} (hG : G.KS.length ≤ 5000) : ∀ n, FnOk P w K mg base CX0 n f fd ["document"] (spDepth G n)
  | 0 => fn_zero fun vs H Q E ⟨_, _, _, _, _, h, _⟩ => h
  | n + 1 => by
    have ih := ok_depth Dd T hG n
    refine Dd.F.ok scDepth (fun vs H Q E h => ?_) (fun cdv A outer s H vs Q E hr h => ?_)
    · obtain ⟨_, v, d, _, rfl, _⟩ := h
      rfl
    obtain ⟨S, v, d, b, rfl, hv, hd, k⟩ := h
    have hu := hu_of hr
    refine ⟨_, pss_cons (ps_if (pt_not (pt_val (pe_callB call_isi (by rfl) (T.of "isinstance") (by decide +kernel) (pa_cons (pv 0) (pa_cons (pe_bltn (v := .ty "dict") (by rfl) (T.of "dict") (by decide +kernel) rfl) pa_nil)))))
        (pss_one (ps_ret pe_int)) pss_nil)
      (pss_one (ps_ret (pe_op op_add pe_int (pe_callBK (cr_maxDef hr.units hr.hd) (by rfl) (T.of "max") (by decide +kernel) (pa_cons (pe_lock (pe_lc (own := [("key", 1)]) (g := gName 1) (tt := tYes) rfl scDepth.nd (pi_keys (pv 0)) (blkOk_by (N := ["document", "key"]) (sc := defScope sDepth) (by decide +kernel))
          (fun _ _ _ _ _ => pg_name (i := 1) scDepth.nd rfl (Or.inl rfl)) (fun _ _ _ _ _ => pts_nil) (fun _ _ _ _ _ => pe_call ih hr rfl Dd.m Dd.F.kp Dd.b .nil pass0 (pa_cons (pe_dget hu (pv 0) (pv 1) (fun _ _ => rfl)) pa_nil)))) pa_nil) (pk_cons pe_int pk_nil))))), ?_⟩
    obtain ⟨t1, ty1, kit1⟩ := isiD K hv
    refine ⟨v, rfl, v, .ty "dict", t1, _, _, rfl, .ty _, ty1, kit1, _, rfl, ?_⟩
    refine hv.cases (fun m _ hs e => ?_) (fun m a xs _ ev hS r hx e => ?_) (fun m a ms g em ev hS r M e => ?_)
    · subst e
      exact iteT (k 0 H (Ex.refl H) (Int.le_refl _) (by omega))
    · subst e
      exact iteT (k 0 H (Ex.refl H) (Int.le_refl _) (by omega))
    subst e; subst ev; cases em
    refine iteF ⟨a, _, r, trivial, fun od => ⟨_, rfl, a, od, rfl, .inl ⟨_, upd_same, fun Da hD => ?_⟩⟩⟩
    have hDa : Da ≠ a := fun z => by rw [z, upd_same] at hD; cases hD
    have hml := M.len
    have M' := M.lock r hS (o := .frz od (.dK (kvsOf ms)))
    refine lc_keys (o := od) (d := a) (ms := ms) (fun i H2 => Ex (upd H a (.frz od (.dK (kvsOf ms)))) H2 ∧ ∃ ns : List Int, H2 Da = some (.lst (ns.map V.int)) ∧ ns.length = i ∧ ∀ x ∈ ns, 0 ≤ x ∧ x ≤ ((b - 1 : Nat) : Int)) ⟨Ex.new hD, [], upd_same, rfl, fun x hx => nomatch hx⟩ (fun i H2 _ q => q.1 a _ upd_same) ?_ ?_
    · rintro i key u H2 hi ⟨ex, ns, h2, hl, hb⟩
      have hku : valV ms key = some u := valV_of_mem M.nd (List.mem_of_getElem? hi)
      refine ⟨rfl, t_yes ?_⟩
      refine ⟨.ref a, rfl, .str key, rfl, a, u, rfl, .inl ⟨_, Sum.inr key, .inr ⟨od, ex a _ upd_same⟩, rfl, by rw [valV_inK]; exact hku.symm⟩, S, u, g key, b - 1, rfl, (M'.at' key u hku).ex ex, hd.2 key, fun j H5 e5 j0 j1 => ?_⟩
      refine ⟨_, e5 Da _ h2, ?_, Ex.mut (ex.trans e5) hD (e5 Da _ h2), ns ++ [j], ?_, ?_, ?_⟩
      · have := (List.getElem?_eq_some_iff.mp hi).1
        rw [List.length_map, hl]
        exact Nat.lt_of_le_of_lt (show i ≤ 5000 by omega) (by decide)
      · rw [upd_same, List.map_append]; rfl
      · rw [List.length_append, hl]; rfl
      · intro x hx
        rcases List.mem_append.mp hx with hx | hx
        · exact hb x hx
        · rw [List.mem_singleton.mp hx]; exact ⟨j0, j1⟩
    rintro H2 ⟨ex, ns, h2, hl, hb⟩
    refine ⟨ex a _ upd_same, ?_⟩
    have ex' : Ex H (upd H2 a (.dK (kvsOf ms))) := ex_unlock r ex
    have hd1 := hd.1
    refine ⟨Da, ns, 0, rfl, rfl, .inl (.inl (by rw [upd_ne hDa]; exact h2)), fun _ => ?_, fun z hz _ => ?_⟩
    · exact ⟨_, _, rfl, rfl, k _ _ ex' (by omega) (by omega)⟩
    · have := hb z hz
      exact ⟨_, _, rfl, rfl, k _ _ ex' (by omega) (by omega)⟩
/-! ### parts -/
def spParts (G : Gen) (n : Nat) : Sp := fun vs H Q _ => ∃ (S : Addr → Prop) (v : V) (d : D) (p : Nat), vs = [v] ∧ Dc S G H n v d ∧ PD d p ∧ ∀ (j : Int) H', Ex H H' → 1 ≤ j → j ≤ p → Q (.int j) H'
theorem scParts : FnScope ["document", "key"] ["document"] (defScope sParts) := ⟨rfl, rfl, rfl, by decide +kernel, rfl, by decide +kernel, by decide +kernel⟩
theorem ok_parts {f : Addr} {fd : FuncData} (Dd : Df K mg "parts" sParts ["document"] f fd) (T : Bi mg) {G : Gen} (hG : G.KS.length ≤ 5000) : ∀ n, FnOk P w K mg base CX0 n f fd ["document"] (spParts G n)
  | 0 => fn_zero fun vs H Q E ⟨_, _, _, _, _, h, _⟩ => h
  | n + 1 => by
    have ih := ok_parts Dd T hG n
    refine Dd.F.ok scParts (fun vs H Q E h => ?_) (fun cdv A outer s H vs Q E hr h => ?_)
    · obtain ⟨_, v, d, _, rfl, _⟩ := h
      rfl
    obtain ⟨S, v, d, p, rfl, hv, hp, k⟩ := h
    have hu := hu_of hr
    refine ⟨_, pss_cons (ps_if (pt_not (pt_val (pe_callB call_isi (by rfl) (T.of "isinstance") (by decide +kernel) (pa_cons (pv 0) (pa_cons (pe_bltn (v := .ty "dict") (by rfl) (T.of "dict") (by decide +kernel) rfl) pa_nil)))))
        (pss_one (ps_ret pe_int)) pss_nil)
      (pss_one (ps_ret (pe_op op_add pe_int (pe_callB (cr_sum rfl) (by rfl) (T.of "sum") (by decide +kernel) (pa_cons (pe_lock (pe_lc (own := [("key", 1)]) (g := gName 1) (tt := tYes) rfl scParts.nd (pi_keys (pv 0)) (blkOk_by (N := ["document", "key"]) (sc := defScope sParts) (by decide +kernel))
          (fun _ _ _ _ _ => pg_name (i := 1) scParts.nd rfl (Or.inl rfl)) (fun _ _ _ _ _ => pts_nil) (fun _ _ _ _ _ => pe_call ih hr rfl Dd.m Dd.F.kp Dd.b .nil pass0 (pa_cons (pe_dget hu (pv 0) (pv 1) (fun _ _ => rfl)) pa_nil)))) pa_nil))))), ?_⟩
    obtain ⟨t1, ty1, kit1⟩ := isiD K hv
    refine ⟨v, rfl, v, .ty "dict", t1, _, _, rfl, .ty _, ty1, kit1, _, rfl, ?_⟩
    refine hv.cases (fun m _ hs e => ?_) (fun m a xs _ ev hS r hx e => ?_) (fun m a ms g em ev hS r M e => ?_)
    · subst e
      have hp : 1 ≤ p := hp
      exact iteT (k 1 H (Ex.refl H) (Int.le_refl _) (by omega))
    · subst e
      have hp : 1 ≤ p := hp
      exact iteT (k 1 H (Ex.refl H) (Int.le_refl _) (by omega))
    subst e; subst ev; cases em
    obtain ⟨ks, q, hks, hq, hsum⟩ := hp
    refine iteF ⟨a, _, r, trivial, fun od => ⟨_, rfl, a, od, rfl, .inl ⟨_, upd_same, fun Da hD => ?_⟩⟩⟩
    have hDa : Da ≠ a := fun z => by rw [z, upd_same] at hD; cases hD
    have hml := M.len
    have M' := M.lock r hS (o := .frz od (.dK (kvsOf ms)))
    refine lc_keys (o := od) (d := a) (ms := ms) (fun i H2 => Ex (upd H a (.frz od (.dK (kvsOf ms)))) H2 ∧ ∃ ns : List Int, H2 Da = some (.lst (ns.map V.int)) ∧ ns.length = i ∧ 0 ≤ ns.sum ∧ ns.sum ≤ ((((ms.take i).map (·.1)).map q).sum : Nat)) ⟨Ex.new hD, [], upd_same, rfl, by simp, by simp⟩ (fun i H2 _ q => q.1 a _ upd_same) ?_ ?_
    · rintro i key u H2 hi ⟨ex, ns, h2, hl, hb0, hb1⟩
      have hku : valV ms key = some u := valV_of_mem M.nd (List.mem_of_getElem? hi)
      refine ⟨rfl, t_yes ?_⟩
      refine ⟨.ref a, rfl, .str key, rfl, a, u, rfl, .inl ⟨_, Sum.inr key, .inr ⟨od, ex a _ upd_same⟩, rfl, by rw [valV_inK]; exact hku.symm⟩, S, u, g key, q key, rfl, (M'.at' key u hku).ex ex, hq key, fun j H5 e5 j0 j1 => ?_⟩
      refine ⟨_, e5 Da _ h2, ?_, Ex.mut (ex.trans e5) hD (e5 Da _ h2), ns ++ [j], ?_, ?_, ?_, ?_⟩
      · have := (List.getElem?_eq_some_iff.mp hi).1
        rw [List.length_map, hl]
        exact Nat.lt_of_le_of_lt (show i ≤ 5000 by omega) (by decide)
      · rw [upd_same, List.map_append]; rfl
      · rw [List.length_append, hl]; rfl
      · rw [List.sum_append]; simp; omega
      · rw [List.sum_append, List.take_add_one, hi]
        simp
        simp at hb1
        omega
    rintro H2 ⟨ex, ns, h2, hl, hb0, hb1⟩
    refine ⟨ex a _ upd_same, ?_⟩
    have ex' : Ex H (upd H2 a (.dK (kvsOf ms))) := ex_unlock r ex
    refine ⟨Da, ns, rfl, .inl (.inl (by rw [upd_ne hDa]; exact h2)), _, _, rfl, rfl, k _ _ ex' (by omega) ?_⟩
    rw [List.take_length] at hb1
    have := sum_sub q M.nd (ys := ks) fun x hx => by
      obtain ⟨u, hu⟩ := valV_some_of hx
      exact hks x (M.at' x u hu).ne_nil
    omega
/-! ### check -/
def spCheck (G : Gen) (n : Nat) : Sp := fun vs H Q _ => ∃ (S : Addr → Prop) (v : V) (d : D), vs = [v] ∧ Dc S G H n v d ∧ PD d 200 ∧ DD d 8 ∧ ∀ H', Ex H H' → Q .non H'
theorem scCheck : FnScope ["value", "path"] ["value"] (defScope sCheck) := ⟨rfl, rfl, rfl, by decide +kernel, rfl, by decide +kernel, by decide +kernel⟩
/-- what the program's own defs are -/
structure Prog (K : PySem.W.Frag) (mg : Str → Option Value) (aCheck aWrong aAtom aElem aDepth aParts aCopied : Addr) (fCheck fWrong fAtom fElem fDepth fParts fCopied : FuncData) : Prop where
  check : Df K mg "check" sCheck ["value"] aCheck fCheck
  wrong : Df K mg "wrong_path" sWrong ["value"] aWrong fWrong
  atom : Df K mg "is_atom" sIsAtom ["value"] aAtom fAtom
  elem : Df K mg "is_element" sIsElem ["value"] aElem fElem
  depth : Df K mg "depth" sDepth ["document"] aDepth fDepth
  parts : Df K mg "parts" sParts ["document"] aParts fParts
  copied : Df K mg "copied" sCopied ["document"] aCopied fCopied
  md : ∃ t, mg "MOST_DEPTH" = some (.int 8 t)
  mp : ∃ t, mg "MOST_PARTS" = some (.int 200 t)
variable {aCheck aWrong aAtom aElem aDepth aParts aCopied : Addr} {fCheck fWrong fAtom fElem fDepth fParts fCopied : FuncData}
theorem ok_check (R : Prog K mg aCheck aWrong aAtom aElem aDepth aParts aCopied fCheck fWrong fAtom fElem fDepth fParts fCopied) (T : Bi mg) {G : Gen} (hL : G.L ≤ 5000) (hG : G.KS.length < 64) (n : Nat) : FnOk P w K mg base CX0 (n + 3) aCheck fCheck ["value"] (spCheck G n) := by
  have gw : FnOk P w K mg base CX0 (n + 2) aWrong fWrong ["value"] (spWrong G n) := ok_wrong R.wrong R.atom R.elem T hL hG n
  have gd : FnOk P w K mg base CX0 (n + 2) aDepth fDepth ["document"] (spDepth G n) := (ok_depth R.depth T (by omega) n).mono (by omega)
  have gp : FnOk P w K mg base CX0 (n + 2) aParts fParts ["document"] (spParts G n) := (ok_parts R.parts T (by omega) n).mono (by omega)
  obtain ⟨t1, md⟩ := R.md
  obtain ⟨t2, mp⟩ := R.mp
  refine R.check.F.ok scCheck (fun vs H Q E h => ?_) (fun cdv A outer s H vs Q E hr h => ?_)
  · obtain ⟨_, v, d, rfl, _⟩ := h
    rfl
  obtain ⟨S, v, d, rfl, hv, hp, hn, k⟩ := h
  refine ⟨_, pss_cons (ps_set (i := 1) scCheck.nd rfl (Or.inl rfl) (pe_call gw hr rfl R.wrong.m R.wrong.F.kp R.wrong.b .nil pass0 (pa_cons (pv 0) pa_nil)))
    (pss_cons (ps_if (pt_cmpR op_notN (pv 1) pe_non (nomark _)) (pss_one ps_never) pss_nil)
    (pss_cons (ps_if (pt_cmpR op_gt (pe_call gd hr rfl R.depth.m R.depth.F.kp R.depth.b .nil pass0 (pa_cons (pv 0) pa_nil)) (pe_glob (v := .int 8) rfl md ⟨t1, rfl⟩) (nomark _)) (pss_one ps_never) pss_nil)
    (pss_one (ps_if (pt_cmpR op_gt (pe_call gp hr rfl R.parts.m R.parts.F.kp R.parts.b .nil pass0 (pa_cons (pv 0) pa_nil)) (pe_glob (v := .int 200) rfl mp ⟨t2, rfl⟩) (nomark _)) (pss_one ps_never) pss_nil)))), ?_⟩
  refine ⟨v, rfl, S, v, d, rfl, hv, fun H1 e1 => ⟨_, rfl, rfl, _, rfl, iteF ?_⟩⟩
  refine ⟨v, rfl, S, v, d, 8, rfl, hv.ex e1, hn, fun j H2 e2 j0 j1 => ⟨_, _, rfl, rfl, _, rfl, ifF (decide_eq_false (by omega)) ?_⟩⟩
  refine ⟨v, rfl, S, v, d, 200, rfl, (hv.ex e1).ex e2, hp, fun i H3 e3 i0 i1 => ⟨_, _, rfl, rfl, _, rfl, ifF (decide_eq_false (by omega)) ?_⟩⟩
  exact k H3 ((e1.trans e2).trans e3)
end
end TP

namespace TP
open PySem PySem.Spec PyProof.Rows L2
abbrev sState : Stmt := topS 28
abbrev sDigit : Stmt := topS 29
abbrev sAtom' : Stmt := topS 31
abbrev sPatch : Stmt := topS 32
/-! ### what the law draws -/
def c4 : List V := [.non, .int 0, .int 1, .int 2, .int (-7), .int 5, .str "a", .str "b", .str ""]
def g4 : Gen where
  KS := ["a", "b", "c"]
  C := fun v => decide (v ∈ c4)
  L := 2
  sc := fun v h => by
    have h := of_decide_eq_true h
    simp only [c4, List.mem_cons, List.not_mem_nil, or_false] at h
    rcases h with rfl | rfl | rfl | rfl | rfl | rfl | rfl | rfl | rfl <;> rfl
/-- the state that draws go through -/
def StAt (H : Hp) (a : Addr) : Prop := ∃ x y z : Int, H a = some (.lst [.int x, .int y, .int z]) ∧ 0 ≤ x ∧ 0 ≤ y ∧ y < 2147483640 ∧ 0 ≤ z
/-- only the state at a has moved -/
structure Mv [TabL] (a : Addr) (H H' : Hp) : Prop where
  st : StAt H' a
  go : ∀ b o, b ≠ a → H b = some o → isTbl o = false → H' b = some o
  ne : ∀ b, H b ≠ none → H' b ≠ none
  tab : ∀ b q, TabL.R b q → LamX.TabS H b q → LamX.TabS H' b q
theorem Mv.ex [TabL] {a H H'} (x : Mv a H H') (b : Addr) (o : HO) [z : NT o] (n : b ≠ a) (h : H b = some o) : H' b = some o := x.go b o n h z.h
theorem Mv.trans [TabL] {a H H1 H2} (x : Mv a H H1) (y : Mv a H1 H2) : Mv a H H2 := ⟨y.st, fun b o n h z => y.go b o n (x.go b o n h z) z, fun b h => y.ne b (x.ne b h), fun b q r h => y.tab b q r (x.tab b q r h)⟩
theorem Mv.refl [TabL] {a H} (h : StAt H a) : Mv a H H := ⟨h, fun _ _ _ z _ => z, fun _ z => z, fun _ _ _ z => z⟩
theorem Mv.of_ex [TabL] {a H H'} (e : Ex H H') (h : StAt H a) : Mv a H H' := ⟨let ⟨x, y, z, hx, r⟩ := h; ⟨x, y, z, e a _ hx, r⟩, fun b o _ h z => e.go b o h z, e.ne, e.tab⟩
/-- the state itself is written -/
theorem Mv.put [TabL] {a H} (h : StAt H a) (x y z : Int) (x0 : 0 ≤ x) (y0 : 0 ≤ y) (y1 : y < 2147483640) (z0 : 0 ≤ z) : Mv a H (upd H a (.lst [.int x, .int y, .int z])) := by
  obtain ⟨u, v, w, hx, _⟩ := h
  refine ⟨⟨x, y, z, upd_same, x0, y0, y1, z0⟩, fun b o n e _ => by rw [upd_ne n]; exact e, fun b e => ?_, fun b q _ t => tab_upd t fun w hw => by rw [hx] at hw; cases hw; rfl⟩
  by_cases c : b = a
  · rw [c, upd_same]; exact fun z => nomatch z
  · rw [upd_ne c]; exact e
/-- what is new since H may change -/
theorem Mv.mut [TabL] {a H H1 p o u} (x : Mv a H H1) (ha : H a ≠ none) (hp : H p = none) (hu : H1 p = some u) (pl : isPl u = true := by rfl) : Mv a H (upd H1 p o) := by
  have npa : a ≠ p := fun z => ha (by rw [z]; exact hp)
  obtain ⟨c, y, z, hx, r⟩ := x.st
  exact ⟨⟨c, y, z, by rw [upd_ne npa]; exact hx, r⟩, fun b w n e z => by rw [upd_ne (ne_of_none e hp)]; exact x.go b w n e z, fun b e => by rw [upd_ne (fun z => e (by rw [z]; exact hp))]; exact x.ne b e, fun b q r t => tab_upd (x.tab b q r t) fun w hw => by rw [hu] at hw; cases hw; exact pl⟩
theorem Mv.new [TabL] {a H H1 p o} (x : Mv a H H1) (hp : H1 p = none) : Mv a H (upd H1 p o) := by
  exact x.trans (.of_ex (Ex.new hp) x.st)
theorem Mv.free [TabL] {a H H1 p} (x : Mv a H H1) (ha : H a ≠ none) (hp : H1 p = none) : H p = none := by
  cases e : H p with
  | none => rfl
  | some o => exact absurd hp (x.ne p (by rw [e]; exact fun z => nomatch z))
theorem StAt.ne {H a} (h : StAt H a) : H a ≠ none := by
  obtain ⟨u, y, w, h, _⟩ := h
  rw [h]
  exact fun z => nomatch z
theorem Dc.mv [TabL] {S G H H' n v d a} (x : Mv a H H') (hS : ¬ S a) (h : Dc S G H n v d) : Dc S G H' n v d := Dc.mono (fun _ z => z) (fun b u s y r => x.go b u (fun z => hS (by rw [← z]; exact s)) r y) (Nat.le_refl _) h
theorem Mem.mv [TabL] {S G H H' n ms f a} (x : Mv a H H') (hS : ¬ S a) (h : Mem S G H n ms f) : Mem S G H' n ms f := ⟨h.nd, h.ks, h.no, fun k u z => (h.at' k u z).mv x hS⟩
/-- new since H, and away from one address -/
abbrev Sl (H : Hp) : Addr → Prop := fun x => H x = none ∧ x ≠ sysModules
section
variable [TabL] {P : Program} {w : World} {K : PySem.W.Frag} {mg : Str → Option Value} {base : Heap}
/-! ### _law_state -/
def spState : Sp := fun vs H Q _ => ∃ n : Int, vs = [.int n] ∧ ∀ p H', H p = none → Ex H H' → StAt H' p → (∀ b, b ≠ p → H b = none → H' b = none) → Q (.ref p) H'
theorem scState : FnScope ["_law_source"] ["_law_source"] (defScope sState) := ⟨rfl, rfl, rfl, by decide +kernel, rfl, by decide +kernel, by decide +kernel⟩
theorem ok_state {f : Addr} {fd : FuncData} (Dd : Df K mg "_law_state" sState ["_law_source"] f fd) (T : Bi mg) : FnOk P w K mg base CX0 1 f fd ["_law_source"] spState := by
  refine Dd.F.ok scState (fun vs H Q E h => ?_) (fun cdv A outer s H vs Q E hr h => ?_)
  · obtain ⟨n, rfl, _⟩ := h
    rfl
  obtain ⟨n, rfl, k⟩ := h
  refine ⟨_, pss_cons (ps_set (i := 0) scState.nd rfl (Or.inl rfl) (pe_callB call_abs (by rfl) (T.of "abs") (by decide +kernel) (pa_cons (pv 0) pa_nil)))
    (pss_one (ps_ret (pe_lst (pa_cons (pe_op op_mul (pv 0) (pe_callTy call_int1 (by rfl) (T.of "int") (by decide +kernel) (pa_cons (pe_cmpR op_ge (pv 0) (pe_op op_pow pe_int pe_int) (nomark _)) pa_nil)))
      (pa_cons (pe_op op_add (pe_op op_mod (pv 0) pe_int) pe_int) (pa_cons (pe_op op_mod (pv 0) pe_int) pa_nil)))))), ?_⟩
  refine ⟨_, rfl, n, rfl, ?_⟩
  have h0 : 0 ≤ (if n < 0 then -n else n) := by split <;> omega
  generalize (if n < 0 then -n else n) = m at h0
  refine ⟨_, rfl, _, rfl, _, _, rfl, rfl, ⟨by decide, by decide, by decide⟩, _, _, rfl, rfl, .inr ⟨_, rfl, _, _, rfl, rfl, .inr ?_, ?_⟩⟩
  · split <;> decide
  refine ⟨_, rfl, _, _, rfl, rfl, (by show (0 : Int) < 2147483629; decide), _, _, rfl, rfl, _, rfl, _, _, rfl, rfl, (by show (0 : Int) < 2147483587; decide), (by show 3 ≤ sizeLine; decide), fun p hp => ?_⟩
  refine k p _ hp (Ex.new hp) ⟨_, _, _, upd_same, ?_, ?_, ?_, ?_⟩ fun b nb hb => by rw [upd_ne nb]; exact hb
  · split
    · omega
    · omega
  · have := Int.emod_nonneg m (show (2147483629 : Int) ≠ 0 by decide)
    omega
  · have := Int.emod_lt_of_pos m (show (0 : Int) < 2147483629 by decide)
    omega
  · exact Int.emod_nonneg m (by decide)
/-! ### _law_digit -/
def spDigit : Sp := fun vs H Q _ => ∃ (a : Addr) (b : Int), vs = [.ref a, .int b] ∧ StAt H a ∧ 0 < b ∧ b < 1000 ∧ ∀ (d : Int) H', 0 ≤ d → d < b → Mv a H H' → (∀ c, c ≠ a → H' c = H c) → Q (.int d) H'
abbrev nDigit : List Str := ["_law_state_here", "_law_base", "_law_found", "_law_mixed"]
theorem scDigit : FnScope nDigit ["_law_state_here", "_law_base"] (defScope sDigit) := ⟨rfl, rfl, rfl, by decide +kernel, rfl, by decide +kernel, by decide +kernel⟩
theorem ok_digit {f : Addr} {fd : FuncData} (Dd : Df K mg "_law_digit" sDigit ["_law_state_here", "_law_base"] f fd) : FnOk P w K mg base CX0 1 f fd ["_law_state_here", "_law_base"] spDigit := by
  refine Dd.F.ok scDigit (fun vs H Q E h => ?_) (fun cdv A outer s H vs Q E hr h => ?_)
  · obtain ⟨a, b, rfl, _⟩ := h
    rfl
  obtain ⟨a, b, rfl, ⟨x, y, z, ha, x0, y0, y1, z0⟩, b0, b1, k⟩ := h
  refine ⟨_, pss_cons (ps_if (pt_cmpR op_gt (pe_ix ix_list (pv 0) pe_int (fun _ _ => rfl)) pe_int (nomark _))
      (pss_cons (ps_set (i := 2) scDigit.nd rfl (Or.inl rfl) (pe_op op_mod (pe_ix ix_list (pv 0) pe_int (fun _ _ => rfl)) (pv 1)))
      (pss_cons (ps_asg (pe_op op_fdiv (pe_ix ix_list (pv 0) pe_int (fun _ _ => rfl)) (pv 1)) (pg_sub (pv 0) pe_int set_list))
      (pss_one (ps_ret (pv 2))))) pss_nil)
    (pss_cons (ps_set (i := 3) scDigit.nd rfl (Or.inl rfl) (pe_op op_mul (pe_ix ix_list (pv 0) pe_int (fun _ _ => rfl)) (pe_op op_add (pe_op op_fdiv (pe_ix ix_list (pv 0) pe_int (fun _ _ => rfl)) pe_int) pe_int)))
    (pss_cons (ps_asg (pe_op op_add (pe_op op_mod (pe_op op_add (pv 3) (pe_ix ix_list (pv 0) pe_int (fun _ _ => rfl))) pe_int) pe_int) (pg_sub (pv 0) pe_int set_list))
    (pss_one (ps_ret (pe_op op_mod (pe_op op_fdiv (pe_ix ix_list (pv 0) pe_int (fun _ _ => rfl)) pe_int) (pv 1)))))), ?_⟩
  have L : SqL K H a [.int x, .int y, .int z] := .inl (.inl ha)
  refine ⟨.ref a, rfl, a, _, 0, _, rfl, rfl, L, atI_nat (j := 0) rfl, _, _, rfl, rfl, _, rfl, ?_⟩
  refine ite2 (fun c => ?_) fun c => ?_
  · have c : 0 < x := of_decide_eq_true c
    refine ⟨.ref a, rfl, a, _, 0, _, rfl, rfl, L, atI_nat (j := 0) rfl, _, rfl, _, _, rfl, rfl, b0, ?_⟩
    refine ⟨.ref a, rfl, a, _, 0, _, rfl, rfl, L, atI_nat (j := 0) rfl, _, rfl, _, _, rfl, rfl, ⟨b0, by omega⟩, .ref a, rfl, a, _, 0, 0, rfl, rfl, ha, rfl, ?_⟩
    refine ⟨_, rfl, ?_⟩
    refine k _ _ (Int.emod_nonneg x (by omega)) (Int.emod_lt_of_pos x b0) (Mv.put ⟨x, y, z, ha, x0, y0, y1, z0⟩ (x / b) y z (Int.ediv_nonneg x0 (by omega)) y0 y1 z0) fun c n => upd_ne n
  · refine ⟨.ref a, rfl, a, _, 1, _, rfl, rfl, L, atI_nat (j := 1) rfl, .ref a, rfl, a, _, 1, _, rfl, rfl, L, atI_nat (j := 1) rfl, _, _, rfl, rfl, ⟨by decide, by decide⟩, _, _, rfl, rfl, _, _, rfl, rfl, .inl ⟨by omega, by omega⟩, ?_⟩
    refine ⟨_, rfl, .ref a, rfl, a, _, 2, _, rfl, rfl, L, atI_nat (j := 2) rfl, _, _, rfl, rfl, _, _, rfl, rfl, (by show (0 : Int) < 2147483629; decide), _, _, rfl, rfl, .ref a, rfl, a, _, 1, 1, rfl, rfl, ha, rfl, ?_⟩
    generalize y * (y / 1009 + 69621) + z = m
    have h0 := Int.emod_nonneg m (show (2147483629 : Int) ≠ 0 by decide)
    have h1 := Int.emod_lt_of_pos m (show (0 : Int) < 2147483629 by decide)
    refine ⟨.ref a, rfl, a, _, 1, _, rfl, rfl, .inl (.inl upd_same), atI_nat (j := 1) rfl, _, _, rfl, rfl, ⟨by decide, by decide⟩, _, rfl, _, _, rfl, rfl, b0, ?_⟩
    exact k _ _ (Int.emod_nonneg _ (by omega)) (Int.emod_lt_of_pos _ b0) (Mv.put ⟨x, y, z, ha, x0, y0, y1, z0⟩ x _ z x0 (by omega) (by omega) z0) fun c n => upd_ne n
end
end TP

namespace TP
open PySem PySem.Spec PyProof.Rows L2
/-! ### walks over a list or a tuple -/
abbrev SqA (K : PySem.W.Frag) (H : Hp) (a : Addr) (xs : List V) : Prop := SqL K H a xs ∨ SqT K H a xs
theorem pi_seq {X : Cx} {tg l : Expr} {i : Nat} (h : PE X l (tVar i)) : PI X tg l (fun σ H R => iList X.K (tVar i) σ H R ∨ iTup X.K (tVar i) σ H R) :=
  ⟨fun pins s σ H R I z => z.elim (fun z => (pi_list h).run pins s σ H R I z) fun z => (pi_tup h).run pins s σ H R I z⟩
/-! ### effects, as mathematics -/
inductive Ef where
  | no
  | keep
  | drop
  | set (d : D)
  | merge (f : Str → Ef)
  | build (f : Str → Ef)
/-- the object's fields -/
def eflds (kd : Str) (av : V) (t : Addr) : List (Str × V) := [("kind", .str kd), ("atom", av), ("members", .ref t)]
theorem eflds_kind (kd : Str) (av : V) (t : Addr) : (eflds kd av t).lookup ("kind" : Str) = some (.str kd) := by rfl
theorem eflds_atom (kd : Str) (av : V) (t : Addr) : (eflds kd av t).lookup ("atom" : Str) = some av := by
  have : ¬ (("atom" : Str) = "kind") := by decide +kernel
  unfold eflds
  rw [List.lookup_cons]
  simp only [show (("atom" : Str) == "kind") = false by decide +kernel]
  rfl
theorem eflds_mem (kd : Str) (av : V) (t : Addr) : (eflds kd av t).lookup ("members" : Str) = some (.ref t) := by
  unfold eflds
  rw [List.lookup_cons, List.lookup_cons]
  simp only [show (("members" : Str) == "kind") = false by decide +kernel, show (("members" : Str) == "atom") = false by decide +kernel]
  rfl
theorem eflds_put (kd : Str) (av : V) (t : Addr) : putF "members" (.ref t) (putF "atom" av (putF "kind" (.str kd) [])) = eflds kd av t := by
  have a : ¬ (("kind" : Str) = "atom") := by decide +kernel
  have b : ¬ (("kind" : Str) = "members") := by decide +kernel
  have c : ¬ (("atom" : Str) = "members") := by decide +kernel
  simp only [putF, a, b, c, if_false]
  rfl
theorem eflds_put2 (k : V) (av : V) : putF "atom" av (putF "kind" k []) = [(("kind" : Str), k), ("atom", av)] := by
  have a : ¬ (("kind" : Str) = "atom") := by decide +kernel
  simp only [putF, a, if_false]
/-- pairs (key, member) in the heap -/
def BsAt (S : Addr → Prop) (H : Hp) (bs : List Bs) : Prop := ∀ b ∈ bs, S b.1 ∧ H b.1 = some (.tup [.str b.2.1, b.2.2])
/-- an atom as an effect holds it -/
def AtomAt (S : Addr → Prop) (G : Gen) (H : Hp) (av : V) (d : D) : Prop :=
  (d = .sc av ∧ G.C av = true) ∨ ∃ ta xs, d = .ls xs ∧ av = .ref ta ∧ S ta ∧ H ta = some (.tup xs) ∧ xs.length ≤ G.L ∧ ∀ x ∈ xs, G.C x = true
theorem AtomAt.ch {S S' : Addr → Prop} {G : Gen} {H H' : Hp} {av : V} {d : D} (h : AtomAt S G H av d) (c : ∀ b xs, S b → H b = some (.tup xs) → S' b ∧ H' b = some (.tup xs)) : AtomAt S' G H' av d :=
  h.imp id fun ⟨ta, xs, e1, e2, s, r, l, z⟩ => ⟨ta, xs, e1, e2, (c ta xs s r).1, (c ta xs s r).2, l, z⟩
/-- a tuple, and no more than that -/
def TpX (H : Hp) (t : Addr) (xs : List V) : Prop := ∃ o : Obj, o.dict = none ∧ H t = some (.frz o (.tup xs))
/-- keys in their order, each once -/
def leS (a b : Str) : Bool := decide (a.cps.toList ≤ b.cps.toList)
def NdS (ks : List Str) : Prop := ks.Nodup ∧ ks.Pairwise fun a b => leS a b = true
theorem sortB_eq (bs : List Bs) : sortB bs = bs.mergeSort fun b c => leS b.2.1 c.2.1 := by
  unfold sortB
  rw [PySem.W.dataLe_str fun b : Bs => b.2.1]
  rfl
theorem leS_trans {a b c : Str} (h : leS a b = true) (k : leS b c = true) : leS a c = true := decide_eq_true (List.le_trans (of_decide_eq_true h) (of_decide_eq_true k))
theorem leS_total (a b : Str) : (leS a b || leS b a) = true := by
  unfold leS
  rcases List.le_total a.cps.toList b.cps.toList with h | h
  · rw [decide_eq_true h]; rfl
  · rw [decide_eq_true h, Bool.or_true]
theorem leS_anti {a b : Str} (h : leS a b = true) (k : leS b a = true) : a = b := by
  have := List.le_antisymm (of_decide_eq_true h) (of_decide_eq_true k)
  cases a; cases b
  congr 1
  exact Array.ext' this
theorem sortB_srt (bs : List Bs) : ((sortB bs).map fun b => b.2.1).Pairwise fun a b => leS a b = true := by
  rw [sortB_eq, List.pairwise_map]
  exact List.pairwise_mergeSort (le := fun b c : Bs => leS b.2.1 c.2.1) (fun a b c => leS_trans) (fun a b => leS_total _ _) bs
theorem ndS_nil : NdS [] := ⟨List.nodup_nil, List.Pairwise.nil⟩
/-- the same keys in their order are the same list -/
theorem ndS_eq : ∀ {xs ys : List Str}, NdS xs → NdS ys → (∀ k, k ∈ xs ↔ k ∈ ys) → xs = ys := by
  intro xs ys h1 h2 e
  have p : xs.Perm ys := (List.perm_ext_iff_of_nodup h1.1 h2.1).mpr e
  exact List.Perm.eq_of_pairwise (fun a b _ _ => leS_anti) h1.2 h2.2 p
/-- the effect e at v, n levels deep -/
def Ec (C : Addr) (S : Addr → Prop) (G : Gen) (H : Hp) : Nat → V → Ef → Prop
  | 0, _, _ => False
  | n + 1, v, e => ∃ a dx kd av t bs, v = .ref a ∧ S a ∧ H a = some (.ins C dx (eflds kd av t)) ∧ S t ∧ TpX H t (bs.map fun b => V.ref b.1) ∧ BsAt S H bs ∧ NdS (bs.map fun b => b.2.1) ∧ (∀ b ∈ bs, b.2.1 ∈ G.KS) ∧
    match e with
    | .no => False
    | .keep => kd = "keep" ∧ bs = [] ∧ av = .non
    | .drop => kd = "drop" ∧ bs = [] ∧ av = .non
    | .set d => kd = "set" ∧ bs = [] ∧ AtomAt S G H av d
    | .merge f => kd = "merge" ∧ av = .non ∧ (∀ k, k ∉ bs.map (fun b => b.2.1) → f k = .no) ∧ ∀ b ∈ bs, Ec C S G H n b.2.2 (f b.2.1)
    | .build f => kd = "build" ∧ av = .non ∧ (∀ k, k ∉ bs.map (fun b => b.2.1) → f k = .no) ∧ ∀ b ∈ bs, Ec C S G H n b.2.2 (f b.2.1)
theorem sortB_perm (bs : List Bs) : (sortB bs).Perm bs := List.mergeSort_perm _ _
/-- i pairs are made anew, in the list at D -/
def PvI [TabL] (H3 : Hp) (D : Addr) (bs : List Bs) (i : Nat) (H4 : Hp) : Prop := Ex H3 H4 ∧ ∃ bs4 : List Bs, H4 D = some (.lst (bs4.map fun b => V.ref b.1)) ∧ bs4.map (·.2) = (bs.take i).map (·.2) ∧ BsAt (fun b => H3 b = none ∧ b ≠ D) H4 bs4
theorem PvI.start [TabL] {H3 : Hp} {D : Addr} {bs : List Bs} (hD : H3 D = none) : PvI H3 D bs 0 (upd H3 D (.lst [])) := ⟨Ex.new hD, [], upd_same, rfl, fun b hb => nomatch hb⟩
theorem PvI.step [TabL] {H3 H4 : Hp} {D p : Addr} {bs : List Bs} {i : Nat} {b : Bs} (hD : H3 D = none) (hi : bs[i]? = some b) (q : PvI H3 D bs i H4) (hp : H4 p = none) :
    ∃ acc, (upd H4 p (.tup [.str b.2.1, b.2.2])) D = some (.lst acc) ∧ acc.length = i ∧ PvI H3 D bs (i + 1) (upd (upd H4 p (.tup [.str b.2.1, b.2.2])) D (.lst (acc ++ [.ref p]))) := by
  obtain ⟨e, bs4, h4, hm, hb⟩ := q
  have npD : D ≠ p := ne_of_none h4 hp
  have h5 : (upd H4 p (.tup [.str b.2.1, b.2.2])) D = some (.lst (bs4.map fun b => V.ref b.1)) := by rw [upd_ne npD]; exact h4
  refine ⟨_, h5, ?_, (e.trans (Ex.new hp)).mut hD h5, bs4 ++ [(p, b.2)], by rw [upd_same, List.map_append]; rfl, ?_, ?_⟩
  · have := congrArg List.length hm
    rw [List.length_map, List.length_map, List.length_take] at this
    have hlt := (List.getElem?_eq_some_iff.mp hi).1
    rw [List.length_map, this]
    omega
  · rw [List.map_append, hm, List.take_add_one, hi, Option.toList_some, List.map_append]
    rfl
  · intro c hc
    rcases List.mem_append.mp hc with hc | hc
    · obtain ⟨⟨s1, s2⟩, r⟩ := hb c hc
      refine ⟨⟨s1, s2⟩, ?_⟩
      rw [upd_ne s2, upd_ne (ne_of_none r hp)]
      exact r
    · rw [List.mem_singleton.mp hc]
      exact ⟨⟨fresh_back e hp, npD.symm⟩, by rw [upd_ne npD.symm, upd_same]⟩
end TP

namespace TP
open PySem PySem.Spec PyProof.Rows L2
def Ef.isNo : Ef → Bool
  | .no => true
  | _ => false
def Ef.isDrop : Ef → Bool
  | .drop => true
  | _ => false
/-- the members of a drop, a set or a build -/
def Ef.mem : Ef → Str → Ef
  | .build f => f
  | .merge f => f
  | _ => fun _ => .no
/-- what an effect does -/
def Ef.on : Ef → D → D
  | .no, d => d
  | .keep, d => d
  | .drop, _ => .nil
  | .set a, _ => a
  | .merge f, d => .ob fun k => if (f k).isNo then d.tgt k else (f k).on (d.tgt k)
  | .build f, _ => .ob fun k => if (f k).isNo then .nil else (f k).on .nil
/-- the effect of a patch, not None as a member -/
def pef : D → Ef
  | .ob f => .merge fun k => if (f k).isNil then .no else if (f k).isNon then .drop else pef (f k)
  | d => .set d
def Ef.fol : Ef → Ef → Ef
  | one, .keep => one
  | .keep, .merge g => .merge g
  | .merge f, .merge g => .merge fun k => if (g k).isNo then f k else if (f k).isNo then g k else (f k).fol (g k)
  | one, .merge g => .build fun k => if (g k).isNo then one.mem k else if (Ef.fol (if (one.mem k).isNo then .drop else one.mem k) (g k)).isDrop then .no else Ef.fol (if (one.mem k).isNo then .drop else one.mem k) (g k)
  | _, other => other
/-- atoms are no objects; nothing is nothing only as a member -/
def Ef.ok : Ef → Prop
  | .no => True
  | .keep => True
  | .drop => True
  | .set a => a.isOb = false
  | .merge f => ∀ k, (f k).ok
  | .build f => ∀ k, (f k).ok
theorem on_pef : ∀ (p d : D), (pef p).on d = D.app d p
  | .ob f, d => by
    rw [app_ob]
    show D.ob _ = _
    congr 1
    funext k
    show (if (if (f k).isNil then Ef.no else if (f k).isNon then .drop else pef (f k)).isNo = true then d.tgt k else (if (f k).isNil then Ef.no else if (f k).isNon then .drop else pef (f k)).on (d.tgt k)) = _
    have ih := on_pef (f k) (d.tgt k)
    have nn : (pef (f k)).isNo = false := by
      cases f k <;> rfl
    by_cases c : (f k).isNil = true
    · simp [c, Ef.isNo]
    · by_cases c2 : (f k).isNon = true
      · simp [c, c2, Ef.isNo, Ef.on]
      · simp [c, c2, nn, ih]
  | .nil, d => by rfl
  | .sc v, d => by rfl
  | .ls xs, d => by rfl
theorem tgt_ob {f : Str → D} : (D.ob f).tgt = f := rfl
theorem tgt_no {d : D} (h : d.isOb = false) : d.tgt = fun _ => .nil := by
  cases d with
  | ob f => cases h
  | _ => rfl
theorem fol_no : ∀ {e m : Ef}, e.isNo = false → m.isNo = false → (e.fol m).isNo = false := by
  intro e m he hm
  cases m <;> cases e <;> first | rfl | exact he | exact hm
theorem drop_on {e : Ef} (h : e.isDrop = true) (d : D) : e.on d = .nil := by
  cases e <;> first | rfl | cases h
theorem on_no {e : Ef} (h : e.isNo = true) (d : D) : e.on d = d := by
  cases e <;> first | rfl | cases h
/-- the build of a merge after e, when e leaves an object with nothing but its members -/
theorem on_built {e : Ef} {g : Str → Ef} {d : D} (ih : ∀ k, (g k).isNo = false → ∀ e : Ef, e.isNo = false → e.ok → ∀ d, (e.fol (g k)).on d = (g k).on (e.on d)) (hm : ∀ k, (e.mem k).ok) (ht : ∀ k, (e.on d).tgt k = if (e.mem k).isNo then .nil else (e.mem k).on .nil) :
    (Ef.build fun k => if (g k).isNo then e.mem k else if (Ef.fol (if (e.mem k).isNo then .drop else e.mem k) (g k)).isDrop then .no else Ef.fol (if (e.mem k).isNo then .drop else e.mem k) (g k)).on d = (Ef.merge g).on (e.on d) := by
  show D.ob _ = D.ob _
  congr 1
  funext k
  show (if (if (g k).isNo = true then e.mem k else if (Ef.fol (if (e.mem k).isNo then .drop else e.mem k) (g k)).isDrop then .no else Ef.fol (if (e.mem k).isNo then .drop else e.mem k) (g k)).isNo = true then D.nil else (if (g k).isNo = true then e.mem k else if (Ef.fol (if (e.mem k).isNo then .drop else e.mem k) (g k)).isDrop then .no else Ef.fol (if (e.mem k).isNo then .drop else e.mem k) (g k)).on .nil) = if (g k).isNo = true then (e.on d).tgt k else (g k).on ((e.on d).tgt k)
  by_cases c : (g k).isNo = true
  · simp only [c, if_true]
    rw [ht k]
  · have c' : (g k).isNo = false := by simpa using c
    have hb : (if (e.mem k).isNo then Ef.drop else e.mem k).isNo = false := by
      by_cases z : (e.mem k).isNo = true
      · rw [if_pos z]; rfl
      · rw [if_neg z]; simpa using z
    have hok : (if (e.mem k).isNo then Ef.drop else e.mem k).ok := by
      by_cases z : (e.mem k).isNo = true
      · simp [z, Ef.ok]
      · simpa [z] using hm k
    have hon : (if (e.mem k).isNo then Ef.drop else e.mem k).on .nil = if (e.mem k).isNo then .nil else (e.mem k).on .nil := by
      by_cases z : (e.mem k).isNo = true
      · simp [z, Ef.on]
      · simp [z]
    have I := ih k c' _ hb hok .nil
    rw [hon, ← ht k] at I
    simp only [c', Bool.false_eq_true, if_false]
    by_cases y : (Ef.fol (if (e.mem k).isNo then .drop else e.mem k) (g k)).isDrop = true
    · rw [if_pos y, ← I, drop_on y]
      rfl
    · rw [if_neg y, if_neg (by rw [fol_no hb c']; exact fun z => nomatch z)]
      exact I
theorem on_fol : ∀ (m : Ef), m.isNo = false → ∀ e : Ef, e.isNo = false → e.ok → ∀ d, (e.fol m).on d = m.on (e.on d)
  | .no, h, _, _, _, _ => by cases h
  | .keep, _, e, _, _, d => by cases e <;> rfl
  | .drop, _, e, _, _, d => by cases e <;> rfl
  | .set a, _, e, _, _, d => by cases e <;> rfl
  | .build f, _, e, _, _, d => by cases e <;> rfl
  | .merge g, _, e, h, he, d => by
    have ih := fun k => on_fol (g k)
    cases e with
    | no => cases h
    | keep => rfl
    | drop => exact on_built (e := .drop) ih (fun k => trivial) fun k => rfl
    | set a =>
      refine on_built (e := .set a) ih (fun k => trivial) fun k => ?_
      show a.tgt k = _
      rw [tgt_no he]
      rfl
    | build f => exact on_built (e := .build f) ih he fun k => rfl
    | merge f =>
      show D.ob _ = D.ob _
      congr 1
      funext k
      show (if (if (g k).isNo = true then f k else if (f k).isNo = true then g k else (f k).fol (g k)).isNo = true then d.tgt k else (if (g k).isNo = true then f k else if (f k).isNo = true then g k else (f k).fol (g k)).on (d.tgt k)) = if (g k).isNo = true then (if (f k).isNo = true then d.tgt k else (f k).on (d.tgt k)) else (g k).on (if (f k).isNo = true then d.tgt k else (f k).on (d.tgt k))
      by_cases c : (g k).isNo = true
      · simp only [c, if_true]
      · have c' : (g k).isNo = false := by simpa using c
        simp only [c', Bool.false_eq_true, if_false]
        by_cases y : (f k).isNo = true
        · simp only [y, if_true, c', Bool.false_eq_true, if_false]
        · have y' : (f k).isNo = false := by simpa using y
          simp only [y', Bool.false_eq_true, if_false, fol_no y' c']
          exact ih k c' _ y' (he k) _
theorem ok_pef : ∀ p : D, (pef p).ok
  | .ob f => fun k => by
    have ih := ok_pef (f k)
    show (if (f k).isNil then Ef.no else if (f k).isNon then .drop else pef (f k)).ok
    by_cases c : (f k).isNil = true
    · simp [c, Ef.ok]
    · by_cases c2 : (f k).isNon = true
      · simp [c, c2, Ef.ok]
      · simpa [c, c2] using ih
  | .nil => rfl
  | .sc _ => rfl
  | .ls _ => rfl
theorem ok_fol : ∀ (m : Ef), m.ok → ∀ e : Ef, e.ok → (e.fol m).ok
  | .no, h, e, _ => by cases e <;> exact h
  | .keep, _, e, he => by cases e <;> exact he
  | .drop, h, e, _ => by cases e <;> exact h
  | .set a, h, e, _ => by cases e <;> exact h
  | .build f, h, e, _ => by cases e <;> exact h
  | .merge g, h, e, he => by
    have ih := fun k => ok_fol (g k) (h k)
    have bd : ∀ e : Ef, (∀ k, (e.mem k).ok) → (Ef.build fun k => if (g k).isNo then e.mem k else if (Ef.fol (if (e.mem k).isNo then .drop else e.mem k) (g k)).isDrop then .no else Ef.fol (if (e.mem k).isNo then .drop else e.mem k) (g k)).ok := fun e hm k => by
      have hok : (if (e.mem k).isNo then Ef.drop else e.mem k).ok := by
        by_cases z : (e.mem k).isNo = true
        · simp [z, Ef.ok]
        · simpa [z] using hm k
      show (if (g k).isNo then e.mem k else if (Ef.fol (if (e.mem k).isNo then .drop else e.mem k) (g k)).isDrop then Ef.no else Ef.fol (if (e.mem k).isNo then .drop else e.mem k) (g k)).ok
      by_cases c : (g k).isNo = true
      · rw [if_pos c]; exact hm k
      · rw [if_neg c]
        by_cases y : (Ef.fol (if (e.mem k).isNo then .drop else e.mem k) (g k)).isDrop = true
        · rw [if_pos y]; trivial
        · rw [if_neg y]; exact ih k _ hok
    cases e with
    | no => exact bd .no fun k => trivial
    | keep => exact h
    | drop => exact bd .drop fun k => trivial
    | set a => exact bd (.set a) fun k => trivial
    | build f => exact bd (.build f) he
    | merge f =>
      intro k
      show (if (g k).isNo then f k else if (f k).isNo then g k else (f k).fol (g k)).ok
      split
      · exact he k
      · split
        · exact h k
        · exact ih k _ (he k)
/-- an effect stands as long as its objects stand -/
theorem BsAt.ch {S S' : Addr → Prop} {H H' : Hp} {bs : List Bs} (h : BsAt S H bs) (c : ∀ b o, S b → isTbl o = false → H b = some o → S' b ∧ H' b = some o) : BsAt S' H' bs := fun b hb => c _ _ (h b hb).1 rfl (h b hb).2
theorem Ec.ch {C : Addr} {G : Gen} {S S' : Addr → Prop} {H H' : Hp} (c : ∀ b o, S b → isTbl o = false → H b = some o → S' b ∧ H' b = some o) : ∀ {n m : Nat} {v : V} {e : Ef}, n ≤ m → Ec C S G H n v e → Ec C S' G H' m v e
  | 0, _, _, _, _, h => h.elim
  | n + 1, 0, _, _, l, _ => absurd l (by omega)
  | n + 1, m + 1, v, e, l, h => by
    have l' : n ≤ m := by omega
    have ih := fun {v : V} {e : Ef} (h : Ec C S G H n v e) => Ec.ch (m := m) c l' h
    obtain ⟨a, dx, kd, av, t, bs, rfl, sa, ha, st, ht, hb, nd, ks, z⟩ := h
    refine ⟨a, dx, kd, av, t, bs, rfl, (c a _ sa rfl ha).1, (c a _ sa rfl ha).2, let ⟨_, _, ht⟩ := ht; (c t _ st rfl ht).1, (let ⟨o, od, ht⟩ := ht; ⟨o, od, (c t _ st rfl ht).2⟩), hb.ch c, nd, ks, ?_⟩
    cases e with
    | no => exact z
    | keep => exact z
    | drop => exact z
    | set d => exact ⟨z.1, z.2.1, z.2.2.ch fun b xs s r => c b _ s rfl r⟩
    | merge f => exact ⟨z.1, z.2.1, z.2.2.1, fun b hb => ih (z.2.2.2 b hb)⟩
    | build f => exact ⟨z.1, z.2.1, z.2.2.1, fun b hb => ih (z.2.2.2 b hb)⟩
theorem Ec.ex [TabL] {C : Addr} {G : Gen} {S : Addr → Prop} {H H' : Hp} {n : Nat} {v : V} {e : Ef} (h : Ec C S G H n v e) (x : Ex H H') : Ec C S G H' n v e := h.ch (fun b o s z r => ⟨s, x.go b o r z⟩) (Nat.le_refl _)
theorem Ec.imp {C : Addr} {G : Gen} {S S' : Addr → Prop} {H : Hp} {n : Nat} {v : V} {e : Ef} (h : Ec C S G H n v e) (i : ∀ b, S b → S' b) : Ec C S' G H n v e := h.ch (fun b o s z r => ⟨i b s, r⟩) (Nat.le_refl _)
theorem Ec.lift {C : Addr} {G : Gen} {S : Addr → Prop} {H : Hp} {n m : Nat} {v : V} {e : Ef} (h : Ec C S G H n v e) (l : n ≤ m) : Ec C S G H m v e := h.ch (fun b o s z r => ⟨s, r⟩) l
theorem Ec.alloc {C : Addr} {G : Gen} {S : Addr → Prop} {H : Hp} {n : Nat} {v : V} {e : Ef} (h : Ec C S G H n v e) : Ec C (fun b => S b ∧ H b ≠ none) G H n v e := h.ch (fun b o s z r => ⟨⟨s, by rw [r]; exact fun z => nomatch z⟩, r⟩) (Nat.le_refl _)
theorem Ec.off {C : Addr} {G : Gen} {S : Addr → Prop} {H : Hp} {n : Nat} {v : V} {e : Ef} {a : Addr} {o : HO} (h : Ec C S G H n v e) (hS : ¬ S a) : Ec C S G (upd H a o) n v e := h.ch (fun b u s _ r => ⟨s, by rw [upd_ne (fun z => hS (by rw [← z]; exact s))]; exact r⟩) (Nat.le_refl _)
theorem Ec.not_no {C : Addr} {G : Gen} {S : Addr → Prop} {H : Hp} {n : Nat} {v : V} {e : Ef} (h : Ec C S G H n v e) : e.isNo = false := by
  cases n with
  | zero => exact h.elim
  | succ n =>
    obtain ⟨a, dx, kd, av, t, bs, _, _, _, _, _, _, _, _, z⟩ := h
    cases e with
    | no => exact z.elim
    | _ => rfl
end TP

namespace TP
open PySem PySem.Spec PyProof.Rows L2
/-! ### dict of a tuple of pairs -/
theorem pairItems_tup {prog : Program} {w : World} {A : Around} {E : Value → Shared → Prop} {s : Shared} {b : Addr} {u v : Value} {Q : List Value → Shared → Prop} (h : IsTup s.heap b #[u, v]) (q : Q [u, v] s) : wpAny (model prog w) A (Builtin.Dict.pairItems (.ref b)) Q E s := by
  unfold Builtin.Dict.pairItems
  obtain ⟨o, h1, h2, n, h3⟩ := h
  refine PySem.wpAny_bind (PySem.wpAny_typeOf_ref h1 ?_)
  rw [h2]
  exact PySem.wpAny_bind (PySem.wpAny_seqItems h1 h3 (PySem.wpAny_pure q))
theorem ud_quiet {p : List Value} {k : List (Str × Value)} : (Code.builtin "dict.update.loop" { pos := p, kw := k }).quiet = true := by
  simp [Code.quiet, Thread.loud, Thread.atCollectorCode, Thread.yieldsInsideHandler]
theorem upd_loopT {prog : Program} {w : World} {A : Around} {R : Result → Shared → Prop} {S I l : Addr} {items : Array Value} {res : Value} (hh : A.handled = none) (h1 : l ≠ I) (h2 : S ≠ I) (h3 : S ≠ l) :
    ∀ (rest : List (Key × Value)) (i : Nat) (acc : List (Key × Value)) (ix : Int) (t : Tok) (s : Shared), items.size = i + rest.length → acc.length + rest.length ≤ sizeLine →
      (∀ (j : Nat) (q : Key × Value), rest[j]? = some q → ∃ b u, items[i + j]? = some (Value.ref b) ∧ b ≠ S ∧ b ≠ I ∧ IsTup s.heap b #[u, q.2] ∧ keyIs q.1 u = true) →
      IsTupIter s.heap I l i → IsTup s.heap l items → Heap.DictOf (mixKind prog w) s.heap S acc →
      (∀ (h' : Heap) (tk : Nat), Heap.DictOf (mixKind prog w) h' S (merged acc rest) → (∀ (b : Addr) (o : Obj), b ≠ S → b ≠ I → s.heap.get? b = some o → h'.get? b = some o) → R (.ok (.ret res)) { s with heap := h', toks := tk }) →
      codeAny (model prog w) A (Code.builtin "dict.update.loop" { pos := [.ref S, .ref I, .int ix t, res] }) R s
  | [], i, acc, ix, t, s, hs, hl, hp, hi, ht, hd, k => by
    refine PySem.codeAny_builtin ud_entry ?_
    rw [PySem.Around.under_plainId ud_plain]
    unfold Builtin.«dict.update.loop»
    refine PySem.wpAny_bind (next_tuple_end (items := items) hh hi ht (by simp [hs]) fun h' eb => ?_)
    exact PySem.wpAny_bind (PySem.wpAny_pure (PySem.wpAny_pure (k h' _ (hd.extBut eb h2) fun b o _ n h => eb b o n h)))
  | q :: rest, i, acc, ix, t, s, hs, hl, hp, hi, ht, hd, k => by
    refine PySem.codeAny_builtin ud_entry ?_
    rw [PySem.Around.under_plainId ud_plain]
    unfold Builtin.«dict.update.loop»
    obtain ⟨b, u, e1, bS, bI, e2, e3⟩ := hp 0 q rfl
    refine PySem.wpAny_bind (next_tuple_item (items := items) (x := .ref b) hi ht (by simpa using e1) fun h' hi' sb => ?_)
    have st : ∀ (c : Addr) (o : Obj), c ≠ I → s.heap.get? c = some o → h'.get? c = some o := fun c o n h => by rw [sb.2 c n]; exact h
    have tp : ∀ {c : Addr} {xs : Array Value}, c ≠ I → IsTup s.heap c xs → IsTup h' c xs := fun n ⟨o, x, y⟩ => ⟨o, st _ _ n x, y⟩
    refine PySem.wpAny_bind (PySem.wpAny_holding (PySem.wpAny_bind (PySem.wpAny_tryCatch (pairItems_tup (tp bI e2) (PySem.wpAny_holding (PySem.wpAny_dictSet_pairs (knd := mixKind prog w) (k := q.1) (kvs := acc) (by rw [mixKind_is]; exact e3) (hd.sameBut sb h2) (fun h2' hd2 sb2 => PySem.wpAny_pure ?_) ?_))))))
    · have st2 : ∀ (c : Addr) (o : Obj), c ≠ S → c ≠ I → s.heap.get? c = some o → h2'.get? c = some o := fun c o n1 n2 h => by rw [sb2.2 c n1]; exact st c o n2 h
      have tp2 : ∀ {c : Addr} {xs : Array Value}, c ≠ S → c ≠ I → IsTup s.heap c xs → IsTup h2' c xs := fun n1 n2 ⟨o, x, y⟩ => ⟨o, st2 _ _ n1 n2 x, y⟩
      refine ⟨ud_quiet, upd_loopT hh h1 h2 h3 rest (i + 1) (stored acc q.1 q.2) (ix + 1) 0 _ (by rw [hs, List.length_cons]; omega) ?_ (fun j q' hq => ?_) ?_ (tp2 h3.symm h1 ht) hd2 fun h3' tk hd3 st3 => ?_⟩
      · have := stored_length_le acc q.1 q.2
        rw [List.length_cons] at hl
        omega
      · obtain ⟨b', u', f1, f2, f3, f4, f5⟩ := hp (j + 1) q' (by rw [List.getElem?_cons_succ]; exact hq)
        exact ⟨b', u', by rw [show i + 1 + j = i + (j + 1) by omega]; exact f1, f2, f3, tp2 f2 f3 f4, f5⟩
      · obtain ⟨o, x, y⟩ := hi'
        exact ⟨o, by rw [sb2.2 I h2.symm]; exact x, y⟩
      · exact k h3' tk hd3 fun c o n1 n2 h => st3 c o n1 n2 (st2 c o n1 n2 h)
    · have := hl
      rw [List.length_cons] at this
      omega
theorem miss_tuple {prog : Program} {w : World} {A : Around} {E : Value → Shared → Prop} {s : Shared} {a : Addr} {xs : Array Value} {k : Nat} {sl : Array (Option Value)} {Q : Option Value → Shared → Prop} (h : s.heap.get? a = some { cls := .type "tuple", data := .seq xs k, slots := sl }) (hh : A.handled = none)
    (q : ∀ (h' : Heap) (tk : Nat), (∀ (b : Addr) (ob : Obj), s.heap.get? b = some ob → h'.get? b = some ob) → Q none { s with heap := h', toks := tk }) : wpAny (model prog w) A (getAttr? (.ref a) (Str.ofString "keys")) Q E s := by
  unfold getAttr? mkText
  refine PySem.wpAny_bind (PySem.wpAny_bind ?_)
  refine PySem.wpAny_fresh (PySem.wpAny_pure ?_)
  unfold getAttrBy?
  refine PySem.wpAny_bind (PySem.wpAny_attempt ?_)
  unfold getAttrBy
  refine PySem.wpAny_holding (PySem.wpAny_bind (PySem.wpAny_typeOf_ref h ?_))
  rw [PySem.F.slot_tuple_getattribute.lookup]
  refine PySem.wpAny_bind (PySem.wpAny_pure ?_)
  show wpAny _ _ (getAttrByItsOwn (.ref a) _ (.type "tuple") (.builtin "tuple.__getattribute__") false false) _ _ _
  unfold getAttrByItsOwn hookBefore callGetattribute
  refine PySem.wpAny_bind (PySem.wpAny_pure (PySem.wpAny_bind (PySem.wpAny_attempt (PySem.wpAny_holding ?_))))
  show wpAny _ _ (boundAndCalled _ _ _) _ _ _
  unfold boundAndCalled
  rw [PySem.F.slot_tuple_getattribute.bind]
  refine PySem.wpAny_bind (PySem.wpAny_pure ?_)
  refine PySem.call_meets (T := "tuple") PySem.F.slot_tuple_getattribute (by exact ⟨_, h, rfl⟩) PySem.am_entry_tuple_getattribute (PySem.F.args_tuple_getattribute_2 _ _) (PySem.meets_getattribute_miss_tuple a xs k sl (Str.ofString "keys") s.toks rfl (by decide +kernel)) ⟨h, hh, fun h' tk e ne => ?_⟩
  obtain ⟨t, u, he⟩ := ne.there
  show wpAny _ _ (getattributeRaised _ _ _ _ _ _ _) _ _ _
  unfold getattributeRaised
  refine PySem.wpAny_bind (PySem.wpAny_isInstance (T := "AttributeError") (b := true) (by exact ⟨_, he, rfl⟩) PySem.sub_AttributeError ?_)
  unfold hookBehind
  rw [if_pos rfl, show onTheHeap (Value.type "tuple") = false from rfl, if_neg (fun z => nomatch z), PySem.am_tuple_getattr_none]
  refine PySem.wpAny_bind (PySem.wpAny_pure ?_)
  show wpAny _ _ (attributeErrorLeaves _ _ _ false false) _ _ _
  unfold attributeErrorLeaves
  refine PySem.wpAny_bind (PySem.wpAny_throw ?_)
  refine PySem.wpAny_bind (PySem.wpAny_isInstance (T := "AttributeError") (b := true) (by exact ⟨_, he, rfl⟩) PySem.sub_AttributeError ?_)
  rw [if_pos rfl]
  exact PySem.wpAny_pure (q h' tk ne.keeps)
/-- dict of a tuple of pairs -/
theorem call_dict_tup {prog : Program} {w : World} {A : Around} {E : Value → Shared → Prop} {s : Shared} {l : Addr} {items : Array Value} {n : Nat} {sl : Array (Option Value)} {prs : List (Key × Value)} {Q : Value → Shared → Prop} (hh : A.handled = none) (h : s.heap.get? l = some { cls := .type "tuple", data := .seq items n, slots := sl }) (hs : items.size = prs.length) (hz : prs.length ≤ sizeLine)
    (hp : ∀ (j : Nat) (q : Key × Value), prs[j]? = some q → ∃ b u, items[j]? = some (Value.ref b) ∧ IsTup s.heap b #[u, q.2] ∧ keyIs q.1 u = true)
    (k : ∀ (h' : Heap) (tk : Nat), Heap.DictOf (mixKind prog w) h' s.heap.objs.size (merged [] prs) → (∀ (b : Addr) (o : Obj), s.heap.get? b = some o → h'.get? b = some o) → Q (.ref s.heap.objs.size) { s with heap := h', toks := tk }) :
    wpAny (model prog w) A (call (Value.type "dict") [Value.ref l]) Q E s := by
  refine PySem.callType_codes (Q₁ := fun v s1 => v = .ref s.heap.objs.size ∧ s1 = { s with heap := s.heap.push { cls := .type "dict", data := .dict #[] } }) PySem.F.kt_called_dict (PySem.F.kt_typeCall_dict_1 _) PySem.F.entry_dict_init (PySem.kt_code_dict_new _ ⟨rfl, rfl⟩) ?_
  rintro obj s1 ⟨rfl, rfl⟩
  have d0 : Heap.DictOf (mixKind prog w) (s.heap.push { cls := .type "dict", data := .dict #[] }) s.heap.objs.size [] := PySem.Heap.DictOf.new _
  have l0 : (s.heap.push { cls := .type "dict", data := .dict #[] }).get? l = some { cls := .type "tuple", data := .seq items n, slots := sl } := PySem.Heap.get?_push_of_some _ h
  refine ⟨d0.typeIs (s := { s with heap := s.heap.push { cls := .type "dict", data := .dict #[] } }), ?_, ?_⟩
  · exact PySem.F.args_dict_init_2 _ _
  unfold Builtin.«dict.__init__»
  refine PySem.wpAny_bind ?_
  unfold Builtin.Dict.selfAndRest
  refine PySem.wpAny_bind (PySem.wpAny_notOrdered_dict (d0.typeIs (s := { s with heap := s.heap.push { cls := .type "dict", data := .dict #[] } })) ?_)
  refine PySem.wpAny_bind (PySem.wpAny_pure (PySem.wpAny_pure ?_))
  show wpAny _ _ (Builtin.Dict.updateFrom "dict.__init__" s.heap.objs.size (.ref l) [] .none) _ _ _
  unfold Builtin.Dict.updateFrom
  refine PySem.wpAny_bind (PySem.wpAny_typeOf_ref l0 ?_)
  rw [if_pos (by rfl)]
  refine PySem.wpAny_bind (miss_tuple l0 hh fun h2 tk2 k2 => ?_)
  rw [if_pos (show (none : Option Value).isNone = true from rfl)]
  refine PySem.wpAny_bind (PySem.wpAny_rule (PySem.wpAny_bind (iter_tuple (items := items) ⟨_, k2 _ _ l0, rfl, n, rfl⟩ (PySem.wpAny_pure ⟨ud_quiet, ?_⟩))))
  have lS : l ≠ s.heap.objs.size := Nat.ne_of_lt (PySem.Heap.lt_size h)
  have zS : s.heap.objs.size < h2.objs.size := by
    obtain ⟨o, ho⟩ : ∃ o, (s.heap.push { cls := .type "dict", data := .dict #[] }).get? s.heap.objs.size = some o := ⟨_, PySem.Heap.get?_push_size _ rfl⟩
    exact PySem.Heap.lt_size (k2 _ _ ho)
  have lI : l ≠ h2.objs.size := Nat.ne_of_lt (PySem.Heap.lt_size (k2 _ _ l0))
  have k3 : ∀ (b : Addr) (o : Obj), s.heap.get? b = some o → (h2.push { cls := .type "tuple_iterator", data := .fields #[.ref l, .int 0 0] }).get? b = some o := fun b o hb => PySem.Heap.get?_push_of_some _ (k2 _ _ (PySem.Heap.get?_push_of_some _ hb))
  refine upd_loopT (A := A.in1) (l := l) (items := items) (res := .none) hh lI (Nat.ne_of_lt zS) lS.symm prs 0 [] 0 0 { heap := h2.push { cls := .type "tuple_iterator", data := .fields #[.ref l, .int 0 0] }, gens := s.gens, drawn := s.drawn, toks := tk2, os := s.os } (by simpa using hs) (by simpa using hz) (fun j q hq => ?_) ⟨_, PySem.Heap.get?_push_size _ rfl, rfl, rfl⟩ ⟨_, k3 _ _ h, rfl, n, rfl⟩ ((d0.keep k2).push _) fun h' tk hd st => ?_
  · obtain ⟨b, u, e1, ⟨o, e2, e3⟩, e4⟩ := hp j q hq
    have lt := PySem.Heap.lt_size e2
    exact ⟨b, u, by rw [Nat.zero_add]; exact e1, Nat.ne_of_lt lt, Nat.ne_of_lt (Nat.lt_trans lt zS), ⟨o, k3 _ _ e2, e3⟩, e4⟩
  · refine ⟨rfl, k h' tk hd fun b o hb => st b o (Nat.ne_of_lt (PySem.Heap.lt_size hb)) (Nat.ne_of_lt (Nat.lt_trans (PySem.Heap.lt_size hb) zS)) (k3 _ _ hb)⟩
theorem vals_get {xs : List V} {us : List Value} (h : Vals xs us) : ∀ {j : Nat} {x : V}, xs[j]? = some x → ∃ y, us[j]? = some y ∧ RelV x y := by
  induction h with
  | nil => intro j x e; simp at e
  | cons a _ ih =>
    intro j x e
    cases j with
    | zero =>
      rw [List.getElem?_cons_zero] at e
      cases e
      exact ⟨_, rfl, a⟩
    | succ j => rw [List.getElem?_cons_succ] at e ⊢; exact ih e
/-- tuple of a list, as an object -/
theorem call_tupleX {X : Cx} : CallR X (Value.type "tuple") fun xs H Q => ∃ p ys, xs = [V.ref p] ∧ SqL X.K H p ys ∧ ∀ (l : Addr) (o : Obj), H l = none → o.dict = none → Q (V.ref l) (upd H l (.frz o (.tup ys))) := by
  intro pins s σ H xs us Q I rv h
  obtain ⟨p, ys, rfl, hp, k⟩ := h
  cases rv with
  | cons ra rn =>
  cases rn
  cases (show _ = Value.ref p from ra)
  obtain ⟨its, ri, ⟨o, n, h1, h2, h3, h4⟩, hl⟩ := I.list hp
  have hsz : its.toArray.size ≤ sizeLine := by
    rw [List.size_toArray, ← ri.length]; exact hl
  refine PySem.call_tuple_list (items := its.toArray) ⟨o, h1, h2, n, h4⟩ (fun h' ex => ?_) hsz
  have I' := I.kept (t' := s.toks) ex
  refine ⟨.ref _, _, I'.laid (a := h'.objs.size) (o := .frz { cls := Value.type "tuple", data := Data.seq its.toArray } (.tup ys)) (t' := s.toks) (fun b u hb => PySem.Heap.get?_push_of_some _ hb) (Nat.le_refl _) ?_, rfl, k _ _ (I'.hok.fresh (Nat.le_refl _)) rfl⟩
  simp only [ObjOk]
  exact ⟨PySem.Heap.get?_push_size _ rfl, hl, its, ri, _, PySem.Heap.get?_push_size _ rfl, rfl, _, rfl⟩
/-- dict of such a tuple -/
theorem call_dictT {X : Cx} (hc : X.calm = true) : CallR X (Value.type "dict") fun xs H Q => ∃ (a : Addr) (o : Obj) (ps : List Addr) (kvs : List (Key × V)), xs = [V.ref a] ∧ H a = some (.frz o (.tup (ps.map V.ref))) ∧ o.dict = none ∧ Paired (fun p kv => SqT X.K H p [kV kv.1, kv.2]) ps kvs ∧ ∀ (p : Addr), H p = none → Q (V.ref p) (upd H p (.dK (mergeK [] kvs))) := by
  intro pins s σ H xs us Q I rv h
  obtain ⟨a, o, ps, kvs, rfl, ha, od, hp, k⟩ := h
  cases rv with
  | cons ra rn =>
  cases rn
  cases (show _ = Value.ref a from ra)
  obtain ⟨prs, kv, e1, e2⟩ := pairs_of I hp
  have oa := I.hok a _ ha
  simp only [ObjOk] at oa
  obtain ⟨ga, hl, its, ri, o2, g1, g2, n, g3⟩ := oa
  rw [ga] at g1
  cases g1
  rw [List.length_map] at hl
  have eo : o = { cls := .type "tuple", data := .seq its.toArray n, slots := o.slots } := by
    cases o
    cases g2; cases g3; cases od
    rfl
  rw [eo] at ga
  refine call_dict_tup (prs := prs) (I.ok.hd hc) ga ?_ (by omega) (fun j q hq => ?_) fun h' tk hd ex => ?_
  · rw [List.size_toArray, ← ri.length, List.length_map, e1]
  · obtain ⟨b, u, f1, f2, f3⟩ := e2 j q hq
    refine ⟨b, u, ?_, f2, f3⟩
    rw [List.getElem?_toArray]
    have hj := vals_get ri (j := j) (x := .ref b) (by rw [List.getElem?_map, f1]; rfl)
    obtain ⟨y, hy, ry⟩ := hj
    cases (show y = Value.ref b from ry)
    exact hy
  · refine ⟨.ref _, _, I.laid (a := s.heap.objs.size) (o := .dK (mergeK [] kvs)) (t' := tk) ex (Nat.le_refl _) ?_, rfl, k _ (I.hok.fresh (Nat.le_refl _))⟩
    have hkl := kv.length
    refine dk_new (Nat.le_trans (length_mergeK _ _) ?_) ?_ (KV.merge kv .nil) hd
    · show 0 + kvs.length ≤ sizeLine
      rw [Nat.zero_add, hkl, e1]
      exact hl
    · have := I.big
      exact beq_false_of_ne (Nat.ne_of_gt this)
end TP

namespace TP
open PySem PySem.Spec PyProof.Rows L2
/-- the members of a dict are the effects f -/
structure MemE (C : Addr) (S : Addr → Prop) (G : Gen) (H : Hp) (n : Nat) (ms : List (Str × V)) (f : Str → Ef) : Prop where
  nd : (ms.map (·.1)).Nodup
  ks : ∀ k ∈ ms.map (·.1), k ∈ G.KS
  no : ∀ k, valV ms k = none → f k = .no
  at' : ∀ k u, valV ms k = some u → Ec C S G H n u (f k)
def fupE (f : Str → Ef) (k : Str) (e : Ef) : Str → Ef := fun j => if j = k then e else f j
def mixE (ks : List Str) (i : Nat) (f g : Str → Ef) : Str → Ef := fun k => if k ∈ ks.take i then f k else g k
section
variable {C : Addr} {S : Addr → Prop} {G : Gen} {H : Hp} {n : Nat}
theorem MemE.len {ms f} (h : MemE C S G H n ms f) : ms.length ≤ G.KS.length := by
  have := sub_len h.nd h.ks
  rwa [List.length_map] at this
theorem MemE.put {ms f k v e} (h : MemE C S G H n ms f) (hk : k ∈ G.KS) (hv : Ec C S G H n v e) : MemE C S G H n (putK ms k v) (fupE f k e) := by
  refine ⟨nodup_put k v h.nd, fun j hj => ?_, fun j hj => ?_, fun j u hu => ?_⟩
  · rcases (keys_put ms k v j).mp hj with z | z
    · rw [z]; exact hk
    · exact h.ks j z
  · rw [valV_put] at hj
    unfold fupE
    by_cases z : j = k
    · rw [if_pos z] at hj; cases hj
    · rw [if_neg z] at hj ⊢
      exact h.no j hj
  · rw [valV_put] at hu
    unfold fupE
    by_cases z : j = k
    · rw [if_pos z] at hu ⊢
      cases hu
      exact hv
    · rw [if_neg z] at hu ⊢
      exact h.at' j u hu
theorem MemE.ch {S' : Addr → Prop} {H' : Hp} {ms f} (c : ∀ b o, S b → isTbl o = false → H b = some o → S' b ∧ H' b = some o) (h : MemE C S G H n ms f) : MemE C S' G H' n ms f := ⟨h.nd, h.ks, h.no, fun k u z => (h.at' k u z).ch c (Nat.le_refl _)⟩
theorem MemE.ex [TabL] {H' : Hp} {ms f} (h : MemE C S G H n ms f) (e : Ex H H') : MemE C S G H' n ms f := h.ch fun b o s z r => ⟨s, e.go b o r z⟩
theorem MemE.imp {S' : Addr → Prop} {ms f} (h : MemE C S G H n ms f) (i : ∀ b, S b → S' b) : MemE C S' G H n ms f := h.ch fun b o s z r => ⟨i b s, r⟩
theorem MemE.off {ms f a o} (h : MemE C S G H n ms f) (hS : ¬ S a) : MemE C S G (upd H a o) n ms f := h.ch fun b u s _ r => ⟨s, by rw [upd_ne (fun z => hS (by rw [← z]; exact s))]; exact r⟩
theorem mixE_zero {ks : List Str} {f g : Str → Ef} : mixE ks 0 f g = g := by
  funext k
  simp [mixE]
theorem mixE_succ {ks : List Str} {i : Nat} {k : Str} {f g : Str → Ef} (h : ks[i]? = some k) : fupE (mixE ks i f g) k (f k) = mixE ks (i + 1) f g := by
  funext j
  unfold fupE mixE
  rw [List.take_add_one, h]
  by_cases z : j = k
  · simp [z]
  · simp [z]
theorem mixE_all {ks : List Str} {f g : Str → Ef} (h : ∀ k, k ∉ ks → f k = g k) : mixE ks ks.length f g = f := by
  funext j
  unfold mixE
  rw [List.take_length]
  by_cases c : j ∈ ks
  · rw [if_pos c]
  · rw [if_neg c, h j c]
theorem mixE_new {ks : List Str} {i : Nat} {k : Str} {f g : Str → Ef} (nd : ks.Nodup) (h : ks[i]? = some k) : mixE ks i f g k = g k := by
  unfold mixE
  rw [if_neg]
  intro hk
  obtain ⟨j, hj, ej⟩ := List.getElem_of_mem hk
  rw [List.length_take] at hj
  have hi := (List.getElem?_eq_some_iff.mp h)
  obtain ⟨hi, ei⟩ := hi
  rw [List.getElem_take] at ej
  exact (List.pairwise_iff_getElem.mp nd) j i (by omega) hi (by omega) (ej.trans ei.symm)
/-- the pairs of an effect as members of a dict -/
theorem memE_of {bs : List Bs} {f : Str → Ef} (nd : (bs.map fun b => b.2.1).Nodup) (ks : ∀ b ∈ bs, b.2.1 ∈ G.KS) (no : ∀ k, k ∉ bs.map (fun b => b.2.1) → f k = .no) (at' : ∀ b ∈ bs, Ec C S G H n b.2.2 (f b.2.1)) : MemE C S G H n (bs.map (·.2)) f := by
  have e : (bs.map (·.2)).map (·.1) = bs.map fun b => b.2.1 := by rw [List.map_map]; rfl
  have nd' : ((bs.map (·.2)).map (·.1)).Nodup := by rw [e]; exact nd
  refine ⟨nd', fun k hk => ?_, fun k hk => ?_, fun k u hu => ?_⟩
  · rw [e] at hk
    obtain ⟨b, hb, rfl⟩ := List.mem_map.mp hk
    exact ks b hb
  · refine no k fun z => ?_
    obtain ⟨b, hb, rfl⟩ := List.mem_map.mp z
    rw [valV_of_mem nd' (List.mem_map.mpr ⟨b, hb, rfl⟩)] at hk
    cases hk
  · obtain ⟨b, hb, eb⟩ := List.mem_map.mp (valV_mem hu)
    have := at' b hb
    rw [show b.2.2 = u by rw [eb], show b.2.1 = k by rw [eb]] at this
    exact this
end
theorem pairs_bs {K : PySem.W.Frag} {S : Addr → Prop} {H : Hp} : ∀ {bs : List Bs}, BsAt S H bs → Paired (fun p (kv : Key × V) => SqT K H p [kV kv.1, kv.2]) (bs.map (·.1)) (kvsOf (bs.map (·.2)))
  | [], _ => .nil
  | b :: bs, h => .cons (.inl (.inl (h b List.mem_cons_self).2)) (pairs_bs fun c hc => h c (List.mem_cons_of_mem _ hc))
end TP

namespace TP
open PySem PySem.Spec PyProof.Rows L2
def Ef.isKeep : Ef → Bool
  | .keep => true
  | _ => false
/-- no member keeps -/
def Ef.mok : Ef → Prop
  | .merge f => ∀ k, (f k).isKeep = false ∧ (f k).mok
  | .build f => ∀ k, (f k).isKeep = false ∧ (f k).mok
  | _ => True
theorem mok_mem {e : Ef} (h : e.mok) (k : Str) : (e.mem k).isKeep = false ∧ (e.mem k).mok := by
  cases e <;> first | exact h k | exact ⟨rfl, trivial⟩
/-- only the members of the document count, but for what keeps -/
theorem on_tgt {e : Ef} (h1 : e.isKeep = false) (h2 : e.isNo = false) {d d' : D} (h : d.tgt = d'.tgt) : e.on d = e.on d' := by
  cases e with
  | no => cases h2
  | keep => cases h1
  | drop => rfl
  | set a => rfl
  | merge f =>
    show D.ob _ = D.ob _
    rw [h]
  | build f => rfl
theorem keep_pef (p : D) : (pef p).isKeep = false := by cases p <;> rfl
theorem mok_pef : ∀ p : D, (pef p).mok
  | .ob f => fun k => by
    have ih := mok_pef (f k)
    show (if (f k).isNil then Ef.no else if (f k).isNon then .drop else pef (f k)).isKeep = false ∧ (if (f k).isNil then Ef.no else if (f k).isNon then .drop else pef (f k)).mok
    by_cases c : (f k).isNil = true
    · rw [if_pos c]; exact ⟨rfl, trivial⟩
    · rw [if_neg c]
      by_cases c2 : (f k).isNon = true
      · rw [if_pos c2]; exact ⟨rfl, trivial⟩
      · rw [if_neg c2]; exact ⟨keep_pef _, ih⟩
  | .nil => trivial
  | .sc _ => trivial
  | .ls _ => trivial
theorem keep_fol' {e m : Ef} (he : e.isKeep = false) (hm : m.isKeep = false) : (e.fol m).isKeep = false := by
  cases m with
  | keep => cases hm
  | merge g => cases e <;> first | rfl | exact he
  | no => cases e <;> rfl
  | drop => cases e <;> rfl
  | set a => cases e <;> rfl
  | build f => cases e <;> rfl
theorem mok_fol : ∀ (m : Ef), m.mok → ∀ e : Ef, e.mok → (e.fol m).mok
  | .no, _, e, _ => by cases e <;> trivial
  | .keep, _, e, he => by cases e <;> exact he
  | .drop, _, e, _ => by cases e <;> trivial
  | .set a, _, e, _ => by cases e <;> trivial
  | .build f, h, e, _ => by cases e <;> exact h
  | .merge g, h, e, he => by
    have ih := fun k => mok_fol (g k) (h k).2
    have bd : ∀ e : Ef, (∀ k, (e.mem k).isKeep = false ∧ (e.mem k).mok) → (Ef.build fun k => if (g k).isNo then e.mem k else if (Ef.fol (if (e.mem k).isNo then .drop else e.mem k) (g k)).isDrop then .no else Ef.fol (if (e.mem k).isNo then .drop else e.mem k) (g k)).mok := fun e hm k => by
      have hb : (if (e.mem k).isNo then Ef.drop else e.mem k).isKeep = false ∧ (if (e.mem k).isNo then Ef.drop else e.mem k).mok := by
        by_cases z : (e.mem k).isNo = true
        · rw [if_pos z]; exact ⟨rfl, trivial⟩
        · rw [if_neg z]; exact hm k
      show (if (g k).isNo then e.mem k else if (Ef.fol (if (e.mem k).isNo then .drop else e.mem k) (g k)).isDrop then Ef.no else Ef.fol (if (e.mem k).isNo then .drop else e.mem k) (g k)).isKeep = false ∧ (if (g k).isNo then e.mem k else if (Ef.fol (if (e.mem k).isNo then .drop else e.mem k) (g k)).isDrop then Ef.no else Ef.fol (if (e.mem k).isNo then .drop else e.mem k) (g k)).mok
      by_cases c : (g k).isNo = true
      · rw [if_pos c]; exact hm k
      · rw [if_neg c]
        by_cases y : (Ef.fol (if (e.mem k).isNo then .drop else e.mem k) (g k)).isDrop = true
        · rw [if_pos y]; exact ⟨rfl, trivial⟩
        · rw [if_neg y]; exact ⟨keep_fol' hb.1 (h k).1, ih k _ hb.2⟩
    cases e with
    | no => exact bd .no fun k => ⟨rfl, trivial⟩
    | keep => exact h
    | drop => exact bd .drop fun k => ⟨rfl, trivial⟩
    | set a => exact bd (.set a) fun k => ⟨rfl, trivial⟩
    | build f => exact bd (.build f) he
    | merge f =>
      intro k
      show (if (g k).isNo then f k else if (f k).isNo then g k else (f k).fol (g k)).isKeep = false ∧ (if (g k).isNo then f k else if (f k).isNo then g k else (f k).fol (g k)).mok
      by_cases c : (g k).isNo = true
      · rw [if_pos c]; exact he k
      · rw [if_neg c]
        by_cases y : (f k).isNo = true
        · rw [if_pos y]; exact h k
        · rw [if_neg y]; exact ⟨keep_fol' (he k).1 (h k).1, ih k _ (he k).2⟩
/-- the effect of a row -/
def rowE (ps : List D) : Ef := ps.foldl (fun e p => e.fol (pef p)) .keep
/-- the document after a row -/
def rowD (d : D) (ps : List D) : D := ps.foldl D.app d
theorem no_pef (p : D) : (pef p).isNo = false := by cases p <;> rfl
theorem row_all : ∀ (ps : List D) (e : Ef), e.isNo = false → e.ok → e.mok → (ps.foldl (fun e p => e.fol (pef p)) e).isNo = false ∧ (ps.foldl (fun e p => e.fol (pef p)) e).ok ∧ (ps.foldl (fun e p => e.fol (pef p)) e).mok ∧ ∀ d, (ps.foldl (fun e p => e.fol (pef p)) e).on d = ps.foldl D.app (e.on d)
  | [], e, h1, h2, h3 => ⟨h1, h2, h3, fun d => rfl⟩
  | p :: ps, e, h1, h2, h3 => by
    obtain ⟨a, b, c, d⟩ := row_all ps (e.fol (pef p)) (fol_no h1 (no_pef p)) (ok_fol _ (ok_pef p) _ h2) (mok_fol _ (mok_pef p) _ h3)
    refine ⟨a, b, c, fun x => ?_⟩
    rw [List.foldl_cons, List.foldl_cons, d x, on_fol _ (no_pef p) e h1 h2, on_pef]
/-- the effect of a row leads where the row leads -/
theorem row_on (ps : List D) (d : D) : (rowE ps).on d = rowD d ps := (row_all ps .keep rfl trivial trivial).2.2.2 d
end TP

namespace TP
open PySem PySem.Spec PyProof.Rows L2
theorem tyx_tp {K : PySem.W.Frag} {H : Hp} {a : Addr} {xs : List V} (r : H a = some (.tup xs)) : TyX K H (.ref a) (.type "tuple") := .base (.tup r)
/-- isinstance(atom, tuple) -/
theorem isiA {S : Addr → Prop} {G : Gen} {H : Hp} {v : V} {d : D} (K : PySem.W.Frag) (h : AtomAt S G H v d) : ∃ t, TyX K H v t ∧ PySem.W.kitOne K t (.type "tuple") = some d.isLs := by
  rcases h with ⟨rfl, hc⟩ | ⟨ta, xs, rfl, rfl, _, r, _⟩
  · obtain ⟨t, ht, ty⟩ := tyx_sc (K := K) (H := H) (G.sc _ hc)
    refine ⟨_, ty, kit_ty (r := false) ?_⟩
    rcases ht with rfl | rfl | rfl <;> decide +kernel
  · exact ⟨_, tyx_tp r, kit_ty (r := true) (by decide +kernel)⟩
end TP

namespace TP
open PySem PySem.Spec PyProof.Rows L2
abbrev sInit : Stmt := inClass (topS 17) 0
abbrev nInit : List Str := ["self", "kind", "atom", "members", "pairs", "key", "member"]
abbrev qLam : Str := "Effect.__init__" ++ Str.ofString ".<locals>." ++ Str.ofString "<lambda>"
/-- what is new beside x stays away from what was -/
abbrev Fx [TabL] (x : Addr) (H H' : Hp) : Prop := ∀ H0, Ex H0 H → H0 x = none → Ex H0 H'
/-- a tuple of it if isinstance(it, list) else it -/
theorem t_tupor [TabL] {K : PySem.W.Frag} {S : Addr → Prop} {G : Gen} {H : Hp} {n : Nat} {v : V} {d : D} {i : Nat} {σ : L2.St} {Q : VK} (hσ : σ[i]? = some (some v)) (hv : Dc S G H (n + 1) v d) (nob : d.isOb = false)
    (h : ∀ av H1, Ex H H1 → AtomAt (fun b => H b = none) G H1 av d → (∀ b, H1 b ≠ H b → H b = none ∧ H1 b ≠ none) → Q av H1) :
    tIf (tB (tCB (rIsi K) (tCons (tVar i) (tCons (tC (.ty "list")) tNil)))) (tCB (fun xs H Q => ∃ p ys, xs = [V.ref p] ∧ ((SqL K H p ys ∧ ∀ (l : Addr), H l = none → Q (V.ref l) (upd H l (HO.tup ys))) ∨ SqT K H p ys ∧ Q (V.ref p) H)) (tCons (tVar i) tNil)) (tVar i) σ H Q := by
  obtain ⟨t2, ty2, kit2⟩ := isiL K hv
  refine ⟨v, hσ, v, .ty "list", t2, _, _, rfl, .ty _, ty2, kit2, _, rfl, ?_⟩
  refine hv.cases (fun m e hs ed => ?_) (fun m a xs e ev hS r hx ed => ?_) (fun m a ms f e ev hS r M ed => ?_)
  · subst ed
    exact iteF ⟨v, hσ, h v H (Ex.refl H) (.inl ⟨rfl, hs⟩) fun b z => absurd rfl z⟩
  · subst ed; subst ev
    refine iteT ⟨_, hσ, a, xs, rfl, .inl ⟨.inl (.inl r), fun l hl => h _ _ (Ex.new hl) (.inr ⟨l, xs, rfl, rfl, hl, upd_same, hx.1, hx.2⟩) fun b z => ?_⟩⟩
    by_cases y : b = l
    · rw [y]
      exact ⟨hl, by rw [upd_same]; exact fun z => nomatch z⟩
    · exact absurd (upd_ne y) z
  · rw [ed] at nob
    cases nob
def spInit [TabL] (C P : Addr) (G : Gen) : Sp := fun vs H Q _ => ∃ (x dx ma : Addr) (kd : Str) (av mv : V) (S : Addr → Prop) (n : Nat) (d : D) (bs : List Bs), vs = [.ref x, .str kd, av, mv] ∧ H x = some (.ins C dx []) ∧
  Dc S G H (n + 1) av d ∧ d.isOb = false ∧ ¬ S x ∧ mv = .ref ma ∧ (H ma = some (.lst (bs.map fun b => V.ref b.1)) ∨ H ma = some (.tup (bs.map fun b => V.ref b.1))) ∧ BsAt (fun _ => True) H bs ∧ bs.length ≤ 5000 ∧ LamX.TabS H P qLam ∧
  ∀ H' t av' bs', H' x = some (.ins C dx (eflds kd av' t)) → H t = none → TpX H' t ((sortB bs').map fun b => V.ref b.1) → bs'.map (·.2) = bs.map (·.2) → BsAt (fun b => H b = none) H' bs' → AtomAt (fun b => H b = none) G H' av' d → Fx x H H' → Q .non H'
theorem scInit : FnScope nInit ["self", "kind", "atom", "members"] (defScope sInit) := ⟨rfl, rfl, rfl, by decide +kernel, rfl, by decide +kernel, by decide +kernel⟩
section
variable [TabL] {P : Program} {w : World} {K : PySem.W.Frag} {mg : Str → Option Value} {base : Heap}
theorem ok_init {f C c Pt : Addr} {kV doc pm ct oc : Value} {an od : Option Addr} {osl : Array (Option Value)}
    (lk : K.lookup f = some ⟨oc, od, .func (PySem.W.fnOf "__init__" "Effect.__init__" (defArgs sInit) (defBody sInit) (defScope sInit) .none kV doc pm an (.ref c) ct), osl⟩) (cd : PySem.W.codeIn K (.ref c) "Effect.__init__" = true)
    (T : Bi mg) (cl : Cls K C) (nK : NoAttr K C "kind") (nA : NoAttr K C "atom") (nM : NoAttr K C "members") (TB : LamX.TabB base mg c Pt) (hR : TabL.R Pt qLam) {G : Gen} :
    FnOk P w K mg base CX0 2 f (PySem.W.fnOf "__init__" "Effect.__init__" (defArgs sInit) (defBody sInit) (defScope sInit) .none kV doc pm an (.ref c) ct) ["self", "kind", "atom", "members"] (spInit C Pt G) := by
  refine ⟨fun vs H Q E h => ?_, fun A outer s H args us vs Q E hr e0 hb hvs h => LamX.run_ofS lk cd scInit hr e0 hb hvs ?_ fun hr1 => ?_⟩
  · obtain ⟨_, _, _, _, _, _, _, _, _, _, rfl, _⟩ := h
    rfl
  · obtain ⟨_, _, _, _, _, _, _, _, _, _, rfl, _⟩ := h
    rfl
  obtain ⟨x, dx, ma, kd, av, mv, S, n, d, bs, rfl, hx, hv, nob, nS, rfl, hma, hbs, hl, tb, k⟩ := h
  refine ⟨_, pss_cons (ps_fld (pv 0) (pv 1) rfl)
    (pss_cons (ps_fld (pv 0) (pe_ifExp (pt_val (pe_callB (id := "isinstance") (r := rIsi K) call_isi (by rfl) (T.of "isinstance") (by decide +kernel) (pa_cons (pv 2) (pa_cons (pe_bltn (v := .ty "list") (by rfl) (T.of "list") (by decide +kernel) rfl) pa_nil))))
        (pe_callTy call_tuple_of (by rfl) (T.of "tuple") (by decide +kernel) (pa_cons (pv 2) pa_nil)) (pv 2)) rfl)
    (pss_cons (ps_setLc (i := 4) (own := [("key", 5), ("member", 6)]) (g := gTup K 2 (gCons (gName 5) (gCons (gName 6) gNil))) (tt := tYes) rfl scInit.nd rfl rfl (sw_true rfl rfl rfl (by decide +kernel)) (pi_seq (pv 3)) (blkOk_by (N := nInit) (sc := defScope sInit) (by decide +kernel))
        (fun _ _ _ _ _ => pg_tup rfl (pgs_cons (pg_name (i := 5) scInit.nd rfl (Or.inl rfl) (Or.inr rfl)) (pgs_cons (pg_name (i := 6) scInit.nd rfl (Or.inl rfl) (Or.inr rfl)) pgs_nil))) (fun _ _ _ _ _ => pts_nil) (fun _ _ _ _ _ => pe_tup (pa_cons (pv 5) (pa_cons (pv 6) pa_nil))))
    (pss_one (ps_fld (pv 0) (pe_callTy call_tupleX (by rfl) (T.of "tuple") (by decide +kernel) (pa_cons (pe_sortL (pa_cons (pv 4) pa_nil) rfl (T.of "sorted") rfl TB rfl hR hr1) pa_nil)) rfl)))), ?_⟩
  -- self.kind = kind
  refine ⟨.str kd, rfl, .ref x, rfl, x, C, dx, [], rfl, hx, cl, nK, (by show 0 < 1000; decide), ?_⟩
  have hv1 := hv.off (o := .ins C dx (putF "kind" (.str kd) [])) nS
  have nxma : ma ≠ x := fun z => by rw [z] at hma; rcases hma with h | h <;> (rw [hx] at h; cases h)
  have fx1 : Fx x H (upd H x (.ins C dx (putF "kind" (.str kd) []))) := fun H0 e0 h0 => e0.mut h0 hx
  have b1 : ∀ b, upd H x (.ins C dx (putF "kind" (.str kd) [])) b = none → H b = none := fun b hb => by
    by_cases y : b = x
    · rw [y, upd_same] at hb; cases hb
    · rwa [upd_ne y] at hb
  have x1 : upd H x (.ins C dx (putF "kind" (.str kd) [])) x = some (.ins C dx (putF "kind" (.str kd) [])) := upd_same
  have o1 : ∀ b o, b ≠ x → H b = some o → upd H x (.ins C dx (putF "kind" (.str kd) [])) b = some o := fun b o n h => by rw [upd_ne n]; exact h
  have t1 : LamX.TabS (upd H x (.ins C dx (putF "kind" (.str kd) []))) Pt qLam := tab_upd tb fun u hu => by rw [hx] at hu; cases hu; rfl
  generalize upd H x (.ins C dx (putF "kind" (.str kd) [])) = H1 at *
  -- self.atom
  refine t_tupor (n := n) rfl hv1 nob fun av' H2 e2 at2 fr2 => ⟨.ref x, rfl, x, C, dx, _, rfl, e2 x _ x1, cl, nA, (by show 1 < 1000; decide), ?_⟩
  rw [eflds_put2]
  have x2 := e2 x _ x1
  have fx3 : Fx x H (upd H2 x (.ins C dx [(("kind" : Str), V.str kd), ("atom", av')])) := fun H0 e0 h0 => ((fx1 H0 e0 h0).trans e2).mut h0 x2
  have b3 : ∀ b, upd H2 x (.ins C dx [(("kind" : Str), V.str kd), ("atom", av')]) b = none → H b = none := fun b hb => by
    by_cases y : b = x
    · rw [y, upd_same] at hb; cases hb
    · rw [upd_ne y] at hb
      exact b1 b (fresh_back e2 hb)
  have x3 : upd H2 x (.ins C dx [(("kind" : Str), V.str kd), ("atom", av')]) x = some (.ins C dx [(("kind" : Str), V.str kd), ("atom", av')]) := upd_same
  have o3 : ∀ b (o : HO) [NT o], b ≠ x → H b = some o → upd H2 x (.ins C dx [(("kind" : Str), V.str kd), ("atom", av')]) b = some o := fun b o _ n h => by rw [upd_ne n]; exact e2 b o (o1 b o n h)
  have t3 : LamX.TabS (upd H2 x (.ins C dx [(("kind" : Str), V.str kd), ("atom", av')])) Pt qLam := tab_upd (e2.tab _ _ hR t1) fun u hu => by rw [x2] at hu; cases hu; rfl
  have at3 : AtomAt (fun b => H b = none ∧ b ≠ x) G (upd H2 x (.ins C dx [(("kind" : Str), V.str kd), ("atom", av')])) av' d := at2.ch fun b xs s r => by
    have nb : b ≠ x := fun y => by rw [y, x1] at s; cases s
    exact ⟨⟨b1 b s, nb⟩, by rw [upd_ne nb]; exact r⟩
  generalize upd H2 x (.ins C dx [(("kind" : Str), V.str kd), ("atom", av')]) = H3 at *
  -- the pairs
  have p3 : ∀ b ∈ bs, H3 b.1 = some (.tup [.str b.2.1, b.2.2]) := fun b hb => o3 _ _ (fun y => by have := (hbs b hb).2; rw [y, hx] at this; cases this) (hbs b hb).2
  have ma3 : H3 ma = some (.lst (bs.map fun b => V.ref b.1)) ∨ H3 ma = some (.tup (bs.map fun b => V.ref b.1)) := hma.imp (fun h => o3 _ _ nxma h) fun h => o3 _ _ nxma h
  rcases ma3 with ma3 | ma3
  all_goals
    first
      | refine .inl ⟨.ref ma, rfl, ma, rfl, ⟨_, .inl (.inl ma3)⟩, fun D hD => lc_list (K := K) (a := ma) (xs := bs.map fun b => V.ref b.1) (PvI H3 D bs) (PvI.start hD) (fun i H4 _ q => .inl (.inl (q.1 ma _ ma3))) (fun i y H4 hi q => ?_) fun H4 q => ?_⟩
      | refine .inr ⟨.ref ma, rfl, ma, rfl, ⟨_, .inl (.inl ma3)⟩, fun D hD => lc_tup (K := K) (a := ma) (xs := bs.map fun b => V.ref b.1) (PvI H3 D bs) (PvI.start hD) (fun i H4 _ q => .inl (.inl (q.1 ma _ ma3))) (fun i y H4 hi q => ?_) fun H4 q => ?_⟩
    · obtain ⟨b, hi', rfl⟩ : ∃ b, bs[i]? = some b ∧ y = .ref b.1 := by
        rw [List.getElem?_map] at hi
        obtain ⟨b, h1, h2⟩ := Option.map_eq_some_iff.mp hi
        exact ⟨b, h1, h2.symm⟩
      refine ⟨b.1, _, rfl, .inl (.inl (q.1 _ _ (p3 b (List.mem_of_getElem? hi')))), rfl, _, _, rfl, _, _, rfl, rfl, rfl, t_yes ?_⟩
      refine ⟨_, rfl, _, rfl, (by show 2 ≤ sizeLine; decide), fun p hp => ?_⟩
      obtain ⟨acc, ha, hal, q'⟩ := q.step hD hi' hp
      refine ⟨acc, ha, ?_, q'⟩
      have := (List.getElem?_eq_some_iff.mp hi').1
      rw [hal]
      exact Nat.lt_of_lt_of_le this (Nat.le_trans hl (by decide))
    · rw [List.length_map] at q
      obtain ⟨e4, bs4, h4, hm, hb4⟩ := q
      rw [List.take_length] at hm
      refine ⟨_, rfl, D, bs4, rfl, h4, fun b hb => (hb4 b hb).2, e4.tab _ _ hR t3, fun H5 D5 e5 hD5 => ⟨D5, _, rfl, .inl (.inl upd_same), fun l ot hl5 otd => ?_⟩⟩
      have e45 := e4.trans e5
      have x5 := e45 x _ x3
      have nD5 : x ≠ D5 := ne_of_none x5 hD5
      have nl : l ≠ D5 := fun z => by rw [z, upd_same] at hl5; cases hl5
      have hl5' : H5 l = none := by rwa [upd_ne nl] at hl5
      have nxl : x ≠ l := ne_of_none x5 hl5'
      have x7 : (upd (upd H5 D5 (.lst ((sortB bs4).map fun b => V.ref b.1))) l (.frz ot (.tup ((sortB bs4).map fun b => V.ref b.1)))) x = some (.ins C dx [(("kind" : Str), V.str kd), ("atom", av')]) := by
        rw [upd_ne nxl, upd_ne nD5]; exact x5
      have e7 : Ex H3 (upd (upd H5 D5 (.lst ((sortB bs4).map fun b => V.ref b.1))) l (.frz ot (.tup ((sortB bs4).map fun b => V.ref b.1)))) := (e45.trans (Ex.new hD5)).trans (Ex.new hl5)
      refine ⟨_, rfl, x, C, dx, _, rfl, x7, cl, nM, (by show 2 < 1000; decide), ?_⟩
      refine k _ l av' bs4 (by rw [upd_same, ← eflds_put, eflds_put2]) (b3 l (fresh_back e45 hl5')) ⟨ot, otd, by rw [upd_ne nxl.symm, upd_same]⟩ hm (fun b hb => ?_) (at3.ch fun b xs s r => ⟨s.1, by rw [upd_ne s.2]; exact e7 b _ r⟩) fun H0 e0 h0 => ((fx3 H0 e0 h0).trans e7).mut h0 x7
      obtain ⟨⟨s1, s2⟩, r⟩ := hb4 b hb
      refine ⟨b3 _ s1, ?_⟩
      have n1 : b.1 ≠ x := fun z => by rw [z, x3] at s1; cases s1
      rw [upd_ne n1, upd_ne (ne_of_none (e5 _ _ r) hl5'), upd_ne (ne_of_none (e5 _ _ r) hD5)]
      exact e5 _ _ r
end
end TP

namespace TP
open PySem PySem.Spec PyProof.Rows L2
abbrev sPE : Stmt := topS 20
abbrev sME : Stmt := topS 21
/-- an effect just made -/
structure Made [TabL] (C : Addr) (G : Gen) (H1 H2 : Hp) (kd : Str) (d : D) (bs : List Bs) (x : Addr) : Prop where
  ex : Ex H1 H2
  nx : H1 x = none
  at_ : ∃ dx av' t bs', H2 x = some (.ins C dx (eflds kd av' t)) ∧ H1 t = none ∧ TpX H2 t ((sortB bs').map fun b => V.ref b.1) ∧ bs'.map (·.2) = bs.map (·.2) ∧ BsAt (fun b => H1 b = none) H2 bs' ∧ AtomAt (fun b => H1 b = none) G H2 av' d
theorem made [TabL] {C Pt : Addr} {G : Gen} {H1 : Hp} {kd : Str} {av mv : V} {ma : Addr} {S : Addr → Prop} {n : Nat} {d : D} {bs : List Bs} {Q : VK} (hv : Dc S G H1 (n + 1) av d) (nob : d.isOb = false) (hm : mv = .ref ma)
    (hma : H1 ma = some (.lst (bs.map fun b => V.ref b.1)) ∨ H1 ma = some (.tup (bs.map fun b => V.ref b.1))) (hbs : BsAt (fun _ => True) H1 bs) (hl : bs.length ≤ 5000) (tb : LamX.TabS H1 Pt qLam) (hR : TabL.R Pt qLam)
    (k : ∀ x H2, Made C G H1 H2 kd d bs x → Q (.ref x) H2) (x dx : Addr) (nx : H1 x = none) (ndx : H1 dx = none) (ne : dx ≠ x) :
    spInit C Pt G (.ref x :: ([.str kd, av, mv] ++ [])) (upd (upd H1 dx (.own x)) x (.ins C dx [])) (fun v H2 => v = .non ∧ Q (.ref x) H2) E0 := by
  have e0 : Ex H1 (upd (upd H1 dx (.own x)) x (.ins C dx [])) := (Ex.new ndx).trans (Ex.new (by rw [upd_ne ne.symm]; exact nx))
  refine ⟨x, dx, ma, kd, av, mv, (fun b => S b ∧ H1 b ≠ none), n, d, bs, rfl, upd_same, hv.alloc.ex e0, nob, fun z => z.2 nx, hm, hma.imp (fun h => e0 _ _ h) fun h => e0 _ _ h, fun b hb => ⟨trivial, e0 _ _ (hbs b hb).2⟩, hl, e0.tab _ _ hR tb, ?_⟩
  intro H' t av' bs' h1 h2 h3 h4 h5 h6 fx
  have back : ∀ b, (upd (upd H1 dx (.own x)) x (.ins C dx [])) b = none → H1 b = none := fun b hb => fresh_back e0 hb
  have ex : Ex H1 H' := fx H1 e0 nx
  exact ⟨rfl, k x H' ⟨ex, nx, dx, av', t, bs', h1, back t h2, h3, h4, fun b hb => ⟨back _ (h5 b hb).1, (h5 b hb).2⟩, h6.ch fun b xs s r => ⟨back b s, r⟩⟩⟩
theorem snd_nil {bs' : List Bs} (h : bs'.map (·.2) = ([] : List Bs).map (·.2)) : bs' = [] := by
  cases bs' with
  | nil => rfl
  | cons b bs' => cases h
theorem atom_non {S : Addr → Prop} {G : Gen} {H : Hp} {av : V} (h : AtomAt S G H av (.sc .non)) : av = .non := by
  rcases h with ⟨e, _⟩ | ⟨_, _, e, _⟩
  · cases e; rfl
  · cases e
theorem Made.drop [TabL] {C x : Addr} {G : Gen} {H1 H2 : Hp} (M : Made C G H1 H2 "drop" (.sc .non) [] x) (n : Nat) : Ec C (fun b => H1 b = none) G H2 (n + 1) (.ref x) .drop := by
  obtain ⟨dx, av, t, bs', h1, h2, h3, h4, h5, h6⟩ := M.at_
  cases snd_nil h4
  rw [show sortB [] = [] from List.mergeSort_nil] at h3
  exact ⟨x, dx, _, av, t, [], rfl, M.nx, h1, h2, h3, (fun b hb => nomatch hb), ndS_nil, (fun b hb => nomatch hb), rfl, rfl, atom_non h6⟩
theorem Made.keep [TabL] {C x : Addr} {G : Gen} {H1 H2 : Hp} (M : Made C G H1 H2 "keep" (.sc .non) [] x) (n : Nat) : Ec C (fun b => H1 b = none) G H2 (n + 1) (.ref x) .keep := by
  obtain ⟨dx, av, t, bs', h1, h2, h3, h4, h5, h6⟩ := M.at_
  cases snd_nil h4
  rw [show sortB [] = [] from List.mergeSort_nil] at h3
  exact ⟨x, dx, _, av, t, [], rfl, M.nx, h1, h2, h3, (fun b hb => nomatch hb), ndS_nil, (fun b hb => nomatch hb), rfl, rfl, atom_non h6⟩
theorem Made.set [TabL] {C x : Addr} {G : Gen} {H1 H2 : Hp} {d : D} (M : Made C G H1 H2 "set" d [] x) (n : Nat) : Ec C (fun b => H1 b = none) G H2 (n + 1) (.ref x) (.set d) := by
  obtain ⟨dx, av, t, bs', h1, h2, h3, h4, h5, h6⟩ := M.at_
  cases snd_nil h4
  rw [show sortB [] = [] from List.mergeSort_nil] at h3
  exact ⟨x, dx, _, av, t, [], rfl, M.nx, h1, h2, h3, (fun b hb => nomatch hb), ndS_nil, (fun b hb => nomatch hb), rfl, rfl, h6⟩
/-- the members of an effect just made -/
theorem mems {bs bs' : List Bs} (h : bs'.map (·.2) = bs.map (·.2)) : ((sortB bs').map fun b => b.2.1).Perm (bs.map fun b => b.2.1) ∧ ∀ b ∈ sortB bs', ∃ c ∈ bs, c.2 = b.2 := by
  refine ⟨?_, fun b hb => ?_⟩
  · have e : (bs'.map fun b => b.2.1) = (bs.map fun b => b.2.1) := by
      have := congrArg (List.map Prod.fst) h
      rw [List.map_map, List.map_map] at this
      exact this
    rw [← e]
    exact (sortB_perm bs').map _
  · have hb' := (sortB_perm bs').mem_iff.mp hb
    have : b.2 ∈ bs.map (·.2) := by rw [← h]; exact List.mem_map.mpr ⟨b, hb', rfl⟩
    obtain ⟨c, hc, e⟩ := List.mem_map.mp this
    exact ⟨c, hc, e⟩
theorem Made.node [TabL] {C x : Addr} {G : Gen} {H1 H2 : Hp} {S : Addr → Prop} {kd : Str} {bs : List Bs} {n : Nat} {f : Str → Ef} (M : Made C G H1 H2 kd (.sc .non) bs x) (nd : (bs.map fun b => b.2.1).Nodup) (ks : ∀ b ∈ bs, b.2.1 ∈ G.KS) (no : ∀ k, k ∉ bs.map (fun b => b.2.1) → f k = .no)
    (hm : ∀ b ∈ bs, Ec C S G H1 n b.2.2 (f b.2.1)) : (kd = "merge" → Ec C (fun b => H1 b = none ∨ S b) G H2 (n + 1) (.ref x) (.merge f)) ∧ (kd = "build" → Ec C (fun b => H1 b = none ∨ S b) G H2 (n + 1) (.ref x) (.build f)) := by
  obtain ⟨dx, av, t, bs', h1, h2, h3, h4, h5, h6⟩ := M.at_
  obtain ⟨p, q⟩ := mems h4
  have av0 : av = .non := by
    rcases h6 with ⟨e, _⟩ | ⟨ta, xs, e, _⟩
    · injection e with e; exact e.symm
    · cases e
  have a1 : BsAt (fun b => H1 b = none ∨ S b) H2 (sortB bs') := fun b hb => ⟨.inl (h5 b ((sortB_perm bs').mem_iff.mp hb)).1, (h5 b ((sortB_perm bs').mem_iff.mp hb)).2⟩
  have a2 : NdS ((sortB bs').map fun b => b.2.1) := ⟨p.nodup_iff.mpr nd, sortB_srt bs'⟩
  have a3 : ∀ b ∈ sortB bs', b.2.1 ∈ G.KS := fun b hb => by
    obtain ⟨c, hc, e⟩ := q b hb
    rw [← e]; exact ks c hc
  have a4 : ∀ k, k ∉ (sortB bs').map (fun b => b.2.1) → f k = .no := fun k hk => no k fun z => hk (p.mem_iff.mpr z)
  have a5 : ∀ b ∈ sortB bs', Ec C (fun b => H1 b = none ∨ S b) G H2 n b.2.2 (f b.2.1) := fun b hb => by
    obtain ⟨c, hc, e⟩ := q b hb
    rw [← e]; exact ((hm c hc).ex M.ex).imp fun _ z => .inr z
  exact ⟨fun e => ⟨x, dx, _, av, t, sortB bs', rfl, .inl M.nx, h1, .inl h2, h3, a1, a2, a3, e, av0, a4, a5⟩, fun e => ⟨x, dx, _, av, t, sortB bs', rfl, .inl M.nx, h1, .inl h2, h3, a1, a2, a3, e, av0, a4, a5⟩⟩
/-- what the class needs -/
structure EFacts [TabL] (K : PySem.W.Frag) (mg : Str → Option Value) (base : Heap) (C Pt fI : Addr) (fdI : FuncData) : Prop where
  cl : Cls K C
  nK : NoAttr K C "kind"
  nA : NoAttr K C "atom"
  nM : NoAttr K C "members"
  mgC : mg "Effect" = some (.ref C)
  mkC : Mk K C fI
  b : Binds K fdI ["self", "kind", "atom", "members"] []
  hR : TabL.R Pt qLam
def spPE [TabL] (C Pt : Addr) (G : Gen) (n : Nat) : Sp := fun vs H Q _ => ∃ (S : Addr → Prop) (v : V) (d : D), vs = [v] ∧ Dc S G H n v d ∧ LamX.TabS H Pt qLam ∧ ∀ r H', Ex H H' → Ec C (Nw H) G H' n r (pef d) → Q r H'
def spME [TabL] (C Pt : Addr) (G : Gen) (n : Nat) : Sp := fun vs H Q _ => ∃ (S : Addr → Prop) (v : V) (d : D), vs = [v] ∧ Dc S G H n v d ∧ LamX.TabS H Pt qLam ∧ ∀ r H', Ex H H' → Ec C (Nw H) G H' n r (if d.isNon then .drop else pef d) → Q r H'
theorem scPE : FnScope ["patch", "key"] ["patch"] (defScope sPE) := ⟨rfl, rfl, rfl, by decide +kernel, rfl, by decide +kernel, by decide +kernel⟩
theorem scME : FnScope ["patch"] ["patch"] (defScope sME) := ⟨rfl, rfl, rfl, by decide +kernel, rfl, by decide +kernel, by decide +kernel⟩
section
variable [TabL] {P : Program} {w : World} {K : PySem.W.Frag} {mg : Str → Option Value} {base : Heap}
theorem ok_me {C Pt fI f fp : Addr} {fdI fd fdp : FuncData} {G : Gen} {n k : Nat} (hk : 3 ≤ k) (Z : EFacts K mg base C Pt fI fdI) (gI : FnOk P w K mg base CX0 2 fI fdI ["self", "kind", "atom", "members"] (spInit C Pt G)) (hN : G.C .non = true)
    (Dd : Df K mg "member_effect" sME ["patch"] f fd) (Dp : Df K mg "patch_effect" sPE ["patch"] fp fdp) (gp : FnOk P w K mg base CX0 k fp fdp ["patch"] (spPE C Pt G n)) : FnOk P w K mg base CX0 (k + 1) f fd ["patch"] (spME C Pt G n) := by
  refine Dd.F.ok scME (fun vs H Q E h => ?_) (fun cdv A outer s H vs Q E hr h => ?_)
  · obtain ⟨_, v, d, rfl, _⟩ := h
    rfl
  obtain ⟨S, v, d, rfl, hv, tb, k⟩ := h
  have hr3 : Room (2 + 1) _ := hr.mono hk
  refine ⟨_, pss_cons (ps_if (pt_cmpR op_isN (pv 0) pe_non (nomark _)) (pss_one (ps_ret (pe_make Z.mkC gI hr3 rfl Z.mgC Z.b .nil pass0 (pa_cons pe_str (pa_cons pe_non (pa_cons (pe_tup pa_nil) pa_nil)))))) pss_nil)
    (pss_one (ps_ret (pe_call gp hr rfl Dp.m Dp.F.kp Dp.b .nil pass0 (pa_cons (pv 0) pa_nil)))), ?_⟩
  refine ⟨v, rfl, rfl, _, rfl, ?_⟩
  have nd := hv.non
  cases n with
  | zero => exact (show False from hv).elim
  | succ n =>
  by_cases c : v = .non
  · refine ifT (by simp [c]) ?_
    refine ⟨(by show 0 ≤ sizeLine; decide), fun p hp => ?_⟩
    refine made (S := fun _ => False) (n := 0) (d := .sc .non) (bs := []) (Dc.sc hN) rfl rfl (.inr upd_same) (fun b hb => nomatch hb) (Nat.zero_le _) ((Ex.new hp).tab _ _ Z.hR tb) Z.hR fun x H2 M => ?_
    refine k _ _ ((Ex.new hp).trans M.ex) ?_
    rw [nd]
    simp only [c, decide_true, if_true]
    exact (M.drop n).imp fun b hb => fresh_back (Ex.new hp) hb
  · refine ifF (by simp [c]) ?_
    refine ⟨v, rfl, S, v, d, rfl, hv, tb, fun r H' e h => k r H' e ?_⟩
    rw [nd]
    simp only [c, decide_false, Bool.false_eq_true, if_false]
    exact h
end
end TP

namespace TP
open PySem PySem.Spec PyProof.Rows L2
section
variable [TabL] {P : Program} {w : World} {K : PySem.W.Frag} {mg : Str → Option Value} {base : Heap}
theorem ok_pe {C Pt fI f fm : Addr} {fdI fd fdm : FuncData} {G : Gen} (hG : G.KS.length ≤ 5000) (Z : EFacts K mg base C Pt fI fdI) (gI : FnOk P w K mg base CX0 2 fI fdI ["self", "kind", "atom", "members"] (spInit C Pt G)) (hN : G.C .non = true) (T : Bi mg)
    (Dd : Df K mg "patch_effect" sPE ["patch"] f fd) (Dm : Df K mg "member_effect" sME ["patch"] fm fdm) : ∀ n, FnOk P w K mg base CX0 (2 * n + 4) f fd ["patch"] (spPE C Pt G n)
  | 0 => fn_zero fun vs H Q E ⟨_, _, _, _, h, _⟩ => h
  | n + 1 => by
    have gm : FnOk P w K mg base CX0 (2 * n + 5) fm fdm ["patch"] (spME C Pt G n) := ok_me (by omega) Z gI hN Dm Dd (ok_pe hG Z gI hN T Dd Dm n)
    show FnOk P w K mg base CX0 ((2 * n + 5) + 1) f fd ["patch"] (spPE C Pt G (n + 1))
    refine Dd.F.ok scPE (fun vs H Q E h => ?_) (fun cdv A outer s H vs Q E hr h => ?_)
    · obtain ⟨_, v, d, rfl, _⟩ := h
      rfl
    obtain ⟨S, v, d, rfl, hv, tb, k⟩ := h
    have hu := hu_of hr
    have hr3 : Room (2 + 1) _ := hr.mono (by omega)
    refine ⟨_, pss_cons (ps_if (pt_not (pt_val (pe_callB (id := "isinstance") (r := rIsi K) call_isi (by rfl) (T.of "isinstance") (by decide +kernel) (pa_cons (pv 0) (pa_cons (pe_bltn (v := .ty "dict") (by rfl) (T.of "dict") (by decide +kernel) rfl) pa_nil)))))
        (pss_one (ps_ret (pe_make Z.mkC gI hr3 rfl Z.mgC Z.b .nil pass0 (pa_cons pe_str (pa_cons (pv 0) (pa_cons (pe_tup pa_nil) pa_nil)))))) pss_nil)
      (pss_one (ps_ret (pe_make Z.mkC gI hr3 rfl Z.mgC Z.b .nil pass0 (pa_cons pe_str (pa_cons pe_non (pa_cons
        (pe_lock (pe_lc (own := [("key", 1)]) (g := gName 1) (tt := tYes) rfl scPE.nd (pi_keys (pv 0)) (blkOk_by (N := ["patch", "key"]) (sc := defScope sPE) (by decide +kernel))
          (fun _ _ _ _ _ => pg_name (i := 1) scPE.nd rfl (Or.inl rfl)) (fun _ _ _ _ _ => pts_nil)
          (fun _ _ _ _ _ => pe_tup (pa_cons (pv 1) (pa_cons (pe_call gm hr rfl Dm.m Dm.F.kp Dm.b .nil pass0 (pa_cons (pe_dget hu (pv 0) (pv 1) (fun _ _ => rfl)) pa_nil)) pa_nil))))) pa_nil)))))), ?_⟩
    obtain ⟨t1, ty1, kit1⟩ := isiD K hv
    refine ⟨v, rfl, v, .ty "dict", t1, _, _, rfl, .ty _, ty1, kit1, _, rfl, ?_⟩
    have leaf : d.isOb = false → (pef d = .set d) → ∀ p, H p = none → ∀ (x dx : Addr), (upd H p (.tup [])) x = none → (upd H p (.tup [])) dx = none → dx ≠ x → spInit C Pt G (.ref x :: ([.str "set", v, .ref p] ++ [])) (upd (upd (upd H p (.tup [])) dx (.own x)) x (.ins C dx [])) (fun v H2 => v = .non ∧ Q (.ref x) H2) E0 := fun nob e p hp => by
      refine made (S := S) (n := n) (d := d) (bs := []) (hv.ex (Ex.new hp)) nob rfl (.inr upd_same) (fun b hb => nomatch hb) (Nat.zero_le _) ((Ex.new hp).tab _ _ Z.hR tb) Z.hR fun x H2 M => ?_
      refine k _ _ ((Ex.new hp).trans M.ex) ?_
      rw [e]
      exact (M.set n).imp fun b hb => fresh_back (Ex.new hp) hb
    refine hv.cases (fun m e hs ed => ?_) (fun m a xs e ev hS r hx ed => ?_) (fun m a ms f' e ev hS r M ed => ?_)
    · subst ed
      exact iteT ⟨v, rfl, (by show 0 ≤ sizeLine; decide), fun p hp => leaf rfl rfl p hp⟩
    · subst ed; subst ev
      exact iteT ⟨_, rfl, (by show 0 ≤ sizeLine; decide), fun p hp => leaf rfl rfl p hp⟩
    subst ed; subst ev; cases e
    refine iteF ⟨a, _, r, trivial, fun od => ⟨_, rfl, a, od, rfl, .inl ⟨_, upd_same, fun Da hD => ?_⟩⟩⟩
    have M' := M.lock r hS (o := .frz od (.dK (kvsOf ms)))
    have hDa : Da ≠ a := fun z => by rw [z, upd_same] at hD; cases hD
    have hDH : H Da = none := by rw [upd_ne hDa] at hD; exact hD
    have hml := M.len
    have tbl : LamX.TabS (upd H a (.frz od (.dK (kvsOf ms)))) Pt qLam := tab_upd tb fun u hu => by rw [r] at hu; cases hu; rfl
    refine lc_keys (o := od) (d := a) (ms := ms) (fun i H2 => Ex (upd H a (.frz od (.dK (kvsOf ms)))) H2 ∧ ∃ bs : List Bs, H2 Da = some (.lst (bs.map fun b => V.ref b.1)) ∧ bs.map (fun b => b.2.1) = (ms.take i).map (·.1) ∧ ∀ b ∈ bs, b.1 ≠ Da ∧ b.1 ≠ a ∧ H2 b.1 = some (.tup [.str b.2.1, b.2.2]) ∧ Ec C (fun b => H b = none ∧ b ≠ Da) G H2 n b.2.2 (if (f' b.2.1).isNon then .drop else pef (f' b.2.1))) ?_ ?_ ?_ ?_
    · exact ⟨Ex.new hD, [], upd_same, rfl, fun b hb => nomatch hb⟩
    · exact fun i H2 _ q => q.1 a _ upd_same
    · rintro i key u H2 hi ⟨ex, bs, h2, hk, hb⟩
      have hku : valV ms key = some u := valV_of_mem M.nd (List.mem_of_getElem? hi)
      refine ⟨rfl, t_yes ?_⟩
      refine ⟨.str key, rfl, .ref a, rfl, .str key, rfl, a, u, rfl, .inl ⟨_, Sum.inr key, .inr ⟨od, ex a _ upd_same⟩, rfl, by rw [valV_inK]; exact hku.symm⟩, S, u, f' key, rfl, (M'.at' key u hku).ex ex, ex.tab _ _ Z.hR tbl, fun z H5 e5 hz => ⟨(by show 2 ≤ sizeLine; decide), fun p hp => ?_⟩⟩
      have h5 := e5 Da _ h2
      have nz : Ec C (fun b => H b = none ∧ b ≠ Da) G H5 n z (if (f' key).isNon then .drop else pef (f' key)) := hz.imp fun b hb => by
        have q := fresh_back ex hb
        by_cases zz : b = a
        · rw [zz, upd_same] at q; cases q
        · rw [upd_ne zz] at q
          exact ⟨q, (ne_of_none h2 hb).symm⟩
      have npD : p ≠ Da := (ne_of_none h5 hp).symm
      have npa : p ≠ a := (ne_of_none (e5 a _ (ex a _ upd_same)) hp).symm
      have e6 : Ex H2 (upd H5 p (.tup [.str key, z])) := e5.trans (Ex.new hp)
      have h6 : (upd H5 p (.tup [.str key, z])) Da = some (.lst (bs.map fun b => V.ref b.1)) := by rw [upd_ne npD.symm]; exact h5
      refine ⟨_, h6, ?_, Ex.mut (ex.trans e6) hD h6, bs ++ [(p, key, z)], by rw [upd_same, List.map_append]; rfl, ?_, ?_⟩
      · have hbl := congrArg List.length hk
        rw [List.length_map, List.length_map, List.length_take] at hbl
        have := (List.getElem?_eq_some_iff.mp hi).1
        rw [List.length_map]
        exact Nat.lt_of_le_of_lt (show bs.length ≤ 5000 by omega) (by decide)
      · rw [List.map_append, hk, List.take_add_one, hi]
        simp
      · intro b hb'
        rcases List.mem_append.mp hb' with hb' | hb'
        · obtain ⟨b1, b2, b3, b4⟩ := hb b hb'
          exact ⟨b1, b2, by rw [upd_ne b1]; exact e6 _ _ b3, (b4.ex e6).off fun z => z.2 rfl⟩
        · rw [List.mem_singleton.mp hb']
          exact ⟨npD, npa, by rw [upd_ne npD, upd_same], (nz.ex (Ex.new hp)).off fun z => z.2 rfl⟩
    rintro H2 ⟨ex, bs, h2, hk, hb⟩
    refine ⟨ex a _ upd_same, ?_⟩
    have ex' : Ex H (upd H2 a (.dK (kvsOf ms))) := ex_unlock r ex
    rw [List.take_length] at hk
    have keys : ∀ b ∈ bs, b.2.1 ∈ ms.map (·.1) := fun b hb' => by rw [← hk]; exact List.mem_map.mpr ⟨b, hb', rfl⟩
    refine made (S := fun _ => False) (n := 0) (d := .sc .non) (bs := bs) (Dc.sc hN) rfl rfl (.inl (by rw [upd_ne hDa]; exact h2)) (fun b hb' => ⟨trivial, by rw [upd_ne (hb b hb').2.1]; exact (hb b hb').2.2.1⟩) ?_ (ex'.tab _ _ Z.hR tb) Z.hR fun x H3 Md => ?_
    · have hbl := congrArg List.length hk
      rw [List.length_map, List.length_map] at hbl
      omega
    refine k _ _ (ex'.trans Md.ex) ?_
    refine ((Md.node (S := fun b => H b = none ∧ b ≠ Da) (n := n) (f := fun k => if (f' k).isNil then .no else if (f' k).isNon then .drop else pef (f' k)) (by rw [hk]; exact M.nd) (fun b hb' => M.ks _ (keys b hb')) (fun k hk' => ?_) (fun b hb' => ?_)).1 rfl).imp fun b hb' => hb'.elim (fun z => fresh_back ex' z) fun z => z.1
    · rw [hk] at hk'
      rw [M.no k (valV_none_of hk')]
      rfl
    · obtain ⟨m, hm, e⟩ := List.mem_map.mp (keys b hb')
      have ne := (M.at' m.1 m.2 (valV_of_mem M.nd hm)).ne_nil
      rw [e] at ne
      show Ec C _ G _ n b.2.2 (if (f' b.2.1).isNil then .no else if (f' b.2.1).isNon then .drop else pef (f' b.2.1))
      rw [ne]
      simp only [Bool.false_eq_true, if_false]
      exact (hb b hb').2.2.2.ch (fun c o s _ r' => ⟨s, by rw [upd_ne (fun z => by rw [z, r] at s; cases s.1)]; exact r'⟩) (Nat.le_refl _)
end
end TP

namespace TP
open PySem PySem.Spec PyProof.Rows L2
abbrev sFol : Stmt := topS 22
abbrev sMerged : Stmt := topS 23
abbrev sBuilt : Stmt := topS 24
def spFol [TabL] (C Pt : Addr) (G : Gen) (n : Nat) : Sp := fun vs H Q _ => ∃ (S : Addr → Prop) (v1 v2 : V) (e1 e2 : Ef), vs = [v1, v2] ∧ Ec C S G H n v1 e1 ∧ Ec C S G H n v2 e2 ∧ LamX.TabS H Pt qLam ∧ ∀ r H', Ex H H' → Ec C (fun b => S b ∨ H b = none) G H' n r (e1.fol e2) → Q r H'
def spMerged [TabL] (C Pt : Addr) (G : Gen) (n : Nat) : Sp := fun vs H Q _ => ∃ (S : Addr → Prop) (v1 v2 : V) (f g : Str → Ef), vs = [v1, v2] ∧ Ec C S G H (n + 1) v1 (.merge f) ∧ Ec C S G H (n + 1) v2 (.merge g) ∧ LamX.TabS H Pt qLam ∧ ∀ r H', Ex H H' → Ec C (fun b => S b ∨ H b = none) G H' (n + 1) r ((Ef.merge f).fol (.merge g)) → Q r H'
theorem ex_all [TabL] {H H' : Hp} (st : ∀ b o, H b = some o → H' b = some o) : Ex H H' := by
  refine ⟨fun b o h _ => st b o h, fun b h => ?_, fun b q _ t => LamX.TabS.ext t st⟩
  cases e : H b with
  | none => exact absurd e h
  | some o => rw [st b o e]; exact fun z => nomatch z
theorem bs_of {H : Hp} : ∀ {ts : List Addr} {ms : List (Str × V)}, Paired (fun (t : Addr) (q : Key × V) => H t = some (.tup [kV q.1, q.2])) ts (kvsOf ms) → ∃ bs : List Bs, bs.map (fun b => b.1) = ts ∧ bs.map (fun b => b.2) = ms ∧ BsAt (fun _ => True) H bs
  | [], [], _ => ⟨[], rfl, rfl, fun b hb => nomatch hb⟩
  | t :: ts, m :: ms, .cons a p => by
    obtain ⟨bs, e1, e2, e3⟩ := bs_of p
    refine ⟨(t, m) :: bs, by rw [List.map_cons, e1], by rw [List.map_cons, e2], fun b hb => ?_⟩
    rcases List.mem_cons.mp hb with rfl | hb
    · exact ⟨trivial, a⟩
    · exact e3 b hb
/-- an effect of a dict's items -/
theorem items_made [TabL] {C Pt : Addr} {G : Gen} {H5 H6 : Hp} {p : Addr} {ts : List Addr} {ms5 : List (Str × V)} {f5 : Str → Ef} {S' : Addr → Prop} {n : Nat} {kd : Str} {Q : VK} (M5 : MemE C S' G H5 n ms5 f5) (tb : LamX.TabS H5 Pt qLam) (hR : TabL.R Pt qLam) (hN : G.C .non = true) (hl : ms5.length ≤ 5000) (st : ∀ b o, H5 b = some o → H6 b = some o)
    (h6 : H6 p = some (.lst (ts.map V.ref))) (prs : Paired (fun (t : Addr) (q : Key × V) => H6 t = some (.tup [kV q.1, q.2])) ts (kvsOf ms5))
    (k : ∀ x H7, Ex H5 H7 → (kd = "merge" → Ec C (fun b => H5 b = none ∨ S' b) G H7 (n + 1) (.ref x) (.merge f5)) ∧ (kd = "build" → Ec C (fun b => H5 b = none ∨ S' b) G H7 (n + 1) (.ref x) (.build f5)) → Q (.ref x) H7) (x dx : Addr) (nx : H6 x = none) (ndx : H6 dx = none) (ne : dx ≠ x) :
    spInit C Pt G (.ref x :: ([.str kd, .non, .ref p] ++ [])) (upd (upd H6 dx (.own x)) x (.ins C dx [])) (fun v H2 => v = .non ∧ Q (.ref x) H2) E0 := by
  obtain ⟨bs, e1, e2, e3⟩ := bs_of prs
  have e6 := ex_all st
  have el : ts.map V.ref = bs.map fun b => V.ref b.1 := by rw [← e1, List.map_map]; rfl
  have ek : (bs.map fun b => b.2.1) = ms5.map (·.1) := by rw [← e2, List.map_map]; rfl
  refine made (S := fun _ => False) (n := 0) (d := .sc .non) (bs := bs) (Dc.sc hN) rfl rfl (.inl (by rw [h6, el])) e3 (by rw [← e2, List.length_map] at hl; exact hl) (e6.tab _ _ hR tb) hR (fun x H7 Md => ?_) x dx nx ndx ne
  have nd := Md.node (S := fun b => S' b) (n := n) (f := f5) (by rw [ek]; exact M5.nd) (fun b hb => M5.ks _ (by rw [← ek]; exact List.mem_map.mpr ⟨b, hb, rfl⟩)) (fun k hk => M5.no k (valV_none_of (by rw [← ek]; exact hk))) fun b hb => (M5.at' b.2.1 b.2.2 (valV_of_mem M5.nd (by rw [← e2]; exact List.mem_map.mpr ⟨b, hb, rfl⟩))).ex e6
  exact k x H7 (e6.trans Md.ex) ⟨fun z => (nd.1 z).imp fun b hb => hb.imp (fun q => fresh_back e6 q) id, fun z => (nd.2 z).imp fun b hb => hb.imp (fun q => fresh_back e6 q) id⟩
abbrev nMerged : List Str := ["one", "other", "by_key", "key", "member"]
theorem scMerged : FnScope nMerged ["one", "other"] (defScope sMerged) := ⟨rfl, rfl, rfl, by decide +kernel, rfl, by decide +kernel, by decide +kernel⟩
section
variable [TabL] {P : Program} {w : World} {K : PySem.W.Frag} {mg : Str → Option Value} {base : Heap}
theorem ok_merged {C Pt fI f ff : Addr} {fdI fd fdf : FuncData} {G : Gen} {n k : Nat} (hk : 3 ≤ k) (hG : G.KS.length ≤ 5000) (Z : EFacts K mg base C Pt fI fdI) (gI : FnOk P w K mg base CX0 2 fI fdI ["self", "kind", "atom", "members"] (spInit C Pt G)) (hN : G.C .non = true) (T : Bi mg)
    (Dd : Df K mg "merged" sMerged ["one", "other"] f fd) (Df' : Df K mg "following" sFol ["one", "other"] ff fdf) (gf : FnOk P w K mg base CX0 k ff fdf ["one", "other"] (spFol C Pt G n)) : FnOk P w K mg base CX0 (k + 1) f fd ["one", "other"] (spMerged C Pt G n) := by
  refine Dd.F.ok scMerged (fun vs H Q E h => ?_) (fun cdv A outer s H vs Q E hr h => ?_)
  · obtain ⟨_, v1, v2, _, _, rfl, _⟩ := h
    rfl
  obtain ⟨S, v1, v2, f1, g1, rfl, h1, h2, tb, kk⟩ := h
  have hu := hu_of hr
  have hr3 : Room (2 + 1) _ := hr.mono hk
  refine ⟨_, pss_cons (ps_set (i := 2) scMerged.nd rfl (Or.inl rfl) (pe_callTy (call_dictT rfl) (by rfl) (T.of "dict") (by decide +kernel) (pa_cons (pe_fld (pv 0) rfl) pa_nil)))
    (pss_cons (ps_for PassesOwn.never rfl (pi_tup (pe_fld (pv 1) rfl)) (pg_tup rfl (pgs_cons (pg_name (i := 3) scMerged.nd rfl (Or.inl rfl) (Or.inr rfl)) (pgs_cons (pg_name (i := 4) scMerged.nd rfl (Or.inl rfl) (Or.inr rfl)) pgs_nil)))
      (pss_one (ps_dput hu (pv 2) (pv 3) (pe_ifExp (pt_cmp (pc_din hu (pv 3) (pv 2))) (pe_call gf hr rfl Df'.m Df'.F.kp Df'.b .nil pass0 (pa_cons (pe_dget hu (pv 2) (pv 3) (fun _ _ => rfl)) (pa_cons (pv 4) pa_nil))) (pv 4)) rfl)))
    (pss_one (ps_ret (pe_make Z.mkC gI hr3 rfl Z.mgC Z.b .nil pass0 (pa_cons pe_str (pa_cons pe_non (pa_cons (LiI.pe_listItems rfl (pv 2) (by rfl) (T.of "list") (by decide +kernel)) pa_nil))))))), ?_⟩
  obtain ⟨a1, dx1, kd1, av1, t1, bs1, rfl, sa1, ha1, st1, ⟨ot1, od1, ht1⟩, hb1, nd1, ks1, rfl, rfl, no1, at1⟩ := h1
  obtain ⟨a2, dx2, kd2, av2, t2, bs2, rfl, sa2, ha2, st2, ⟨ot2, od2, ht2⟩, hb2, nd2, ks2, rfl, rfl, no2, at2⟩ := h2
  have M1 := memE_of nd1.1 ks1 no1 at1
  refine ⟨.ref a1, rfl, a1, C, dx1, _, _, rfl, ha1, Z.cl, Z.nM, eflds_mem _ _ _, t1, ot1, bs1.map (·.1), kvsOf (bs1.map (·.2)), rfl, (by rw [List.map_map]; exact ht1), od1, pairs_bs hb1, fun Fa hF => ?_⟩
  rw [show mergeK [] (kvsOf (bs1.map (·.2))) = kvsOf (bs1.map (·.2)) from merge_nodup (bs1.map fun b : Bs => b.2) [] M1.nd]
  have e0 : Ex H (upd H Fa (.dK (kvsOf (bs1.map (·.2))))) := Ex.new hF
  have nSF : ∀ b, S b → H b ≠ none → b ≠ Fa := fun b _ z y => z (by rw [y]; exact hF)
  let ks := bs2.map fun b => b.2.1
  let tgt : Str → Ef := fun k => if (g1 k).isNo then f1 k else if (f1 k).isNo then g1 k else (f1 k).fol (g1 k)
  refine ⟨.ref a2, rfl, a2, C, dx2, _, _, rfl, e0 _ _ ha2, Z.cl, Z.nM, eflds_mem _ _ _, t2, rfl, ⟨_, .inl (.inr ⟨ot2, e0 _ _ ht2⟩)⟩, ?_⟩
  refine for_tup (K := K) (a := t2) (xs := bs2.map fun b => V.ref b.1) (fun i σ H5 => ∃ ms5 f5, (∃ v3 v4, σ = [some (.ref a1), some (.ref a2), some (.ref Fa), v3, v4]) ∧ Ex H H5 ∧ H5 Fa = some (.dK (kvsOf ms5)) ∧ MemE C (fun b => (S b ∧ H b ≠ none) ∨ (H b = none ∧ b ≠ Fa)) G H5 n ms5 f5 ∧ f5 = mixE ks i tgt f1) ?_ ?_ ?_ ?_
  · refine ⟨_, _, ⟨_, _, rfl⟩, e0, upd_same, ?_, mixE_zero.symm⟩
    exact M1.ch fun b o s _ r => ⟨.inl ⟨s, by rw [r]; exact fun z => nomatch z⟩, e0.go _ _ r (by assumption)⟩
  · exact fun i σ H5 _ ⟨_, _, _, ex, _⟩ => .inl (.inr ⟨ot2, ex _ _ ht2⟩)
  · rintro i y σ H5 hi ⟨ms5, f5, ⟨v3, v4, rfl⟩, ex, h5, M5, hf⟩
    obtain ⟨b, hi', rfl⟩ : ∃ b, bs2[i]? = some b ∧ y = .ref b.1 := by
      rw [List.getElem?_map] at hi
      obtain ⟨b, h1, h2⟩ := Option.map_eq_some_iff.mp hi
      exact ⟨b, h1, h2.symm⟩
    have hbm := List.mem_of_getElem? hi'
    have hik : ks[i]? = some b.2.1 := by
      show (bs2.map fun b => b.2.1)[i]? = _
      rw [List.getElem?_map, hi']
      rfl
    have fk : f5 b.2.1 = f1 b.2.1 := by rw [hf]; exact mixE_new nd2.1 hik
    have l5 : Rd H5 Fa (.dK (kvsOf ms5)) := .inl h5
    have ec2 : Ec C (fun b => (S b ∧ H b ≠ none) ∨ (H b = none ∧ b ≠ Fa)) G H5 n b.2.2 (g1 b.2.1) := (at2 b hbm).ch (fun c o s z r => ⟨.inl ⟨s, by rw [r]; exact fun z => nomatch z⟩, ex.go _ _ r z⟩) (Nat.le_refl _)
    have g1n : (g1 b.2.1).isNo = false := ec2.not_no
    refine ⟨b.1, _, rfl, .inl (.inl (ex _ _ (hb2 b hbm).2)), rfl, _, _, rfl, _, _, rfl, rfl, ?_⟩
    refine ⟨.str b.2.1, rfl, .ref Fa, rfl, Fa, valV ms5 b.2.1, rfl, .inl ⟨_, Sum.inr b.2.1, l5, rfl, (valV_inK ms5 b.2.1).symm⟩, _, rfl, ?_⟩
    cases e : valV ms5 b.2.1 with
    | none =>
      have fn : (f1 b.2.1).isNo = true := by rw [← fk, M5.no _ e]; rfl
      refine iteF ⟨b.2.2, rfl, .ref Fa, rfl, .str b.2.1, rfl, Fa, _, rfl, DPut.k (k := Sum.inr b.2.1) h5 ?_, putK ms5 b.2.1 b.2.2, fupE f5 b.2.1 (g1 b.2.1), ⟨_, _, rfl⟩, ex.mut hF h5, by rw [upd_same, putK_inK], ?_, ?_⟩
      · have := M5.len
        rw [show (kvsOf ms5).length = ms5.length from List.length_map ..]
        exact Nat.lt_of_le_of_lt (show ms5.length ≤ 5000 by omega) (by decide)
      · exact (M5.put (ks2 b hbm) ec2).off fun z => z.elim (fun z => z.2 hF) fun z => z.2 rfl
      · have z := mixE_succ (f := tgt) (g := f1) hik
        rw [show tgt b.2.1 = g1 b.2.1 from by show (if (g1 b.2.1).isNo then _ else if (f1 b.2.1).isNo then _ else _) = _; rw [g1n, fn]; rfl] at z
        rw [hf]
        exact z
    | some u =>
      have ec1 := M5.at' _ _ e
      rw [fk] at ec1
      have f1n : (f1 b.2.1).isNo = false := ec1.not_no
      refine iteT ⟨.ref Fa, rfl, .str b.2.1, rfl, Fa, u, rfl, .inl ⟨_, Sum.inr b.2.1, l5, rfl, by rw [valV_inK]; exact e.symm⟩, b.2.2, rfl, _, u, b.2.2, f1 b.2.1, g1 b.2.1, rfl, ec1, ec2, ex.tab _ _ Z.hR tb, fun r H6 e6 hr6 => ?_⟩
      have h6 := e6 Fa _ h5
      have er : Ec C (fun b => (S b ∧ H b ≠ none) ∨ (H b = none ∧ b ≠ Fa)) G H6 n r ((f1 b.2.1).fol (g1 b.2.1)) := hr6.imp fun c hc => hc.elim id fun hc => .inr ⟨fresh_back ex hc, (ne_of_none h5 hc).symm⟩
      refine ⟨.ref Fa, rfl, .str b.2.1, rfl, Fa, _, rfl, DPut.k (k := Sum.inr b.2.1) h6 ?_, putK ms5 b.2.1 r, fupE f5 b.2.1 ((f1 b.2.1).fol (g1 b.2.1)), ⟨_, _, rfl⟩, (ex.trans e6).mut hF h6, by rw [upd_same, putK_inK], ?_, ?_⟩
      · have := M5.len
        rw [show (kvsOf ms5).length = ms5.length from List.length_map ..]
        exact Nat.lt_of_le_of_lt (show ms5.length ≤ 5000 by omega) (by decide)
      · exact ((M5.ex e6).put (ks2 b hbm) er).off fun z => z.elim (fun z => z.2 hF) fun z => z.2 rfl
      · have z := mixE_succ (f := tgt) (g := f1) hik
        rw [show tgt b.2.1 = (f1 b.2.1).fol (g1 b.2.1) from by show (if (g1 b.2.1).isNo then _ else if (f1 b.2.1).isNo then _ else _) = _; rw [g1n, f1n]; rfl] at z
        rw [hf]
        exact z
  · rintro σ H5 ⟨ms5, f5, ⟨v3, v4, rfl⟩, ex, h5, M5, hf⟩
    have hml := M5.len
    refine ⟨.ref Fa, rfl, Fa, kvsOf ms5, rfl, h5, fun H6 p ts st hp hts hpt h6 prs => items_made M5 (ex.tab _ _ Z.hR tb) Z.hR hN (by omega) st h6 prs fun x H7 e7 M => ?_⟩
    refine kk _ _ (ex.trans e7) ?_
    have et : f5 = tgt := by
      rw [hf, List.length_map, ← List.length_map (as := bs2) (f := fun b : Bs => b.2.1)]
      exact mixE_all fun k hk => by
        show (if (g1 k).isNo then f1 k else _) = _
        rw [no2 k hk]
        rfl
    rw [et] at M
    exact (M.1 rfl).imp fun b hb => hb.elim (fun z => .inr (fresh_back ex z)) fun z => z.imp (fun z => z.1) fun z => z.1
end
end TP

namespace TP
open PySem PySem.Spec PyProof.Rows L2
theorem spInit_mono [TabL] {C Pt : Addr} {G : Gen} {vs : List V} {H : Hp} {Q1 Q2 : VK} {E : XK} (h : spInit C Pt G vs H Q1 E) (m : ∀ v H', Q1 v H' → Q2 v H') : spInit C Pt G vs H Q2 E := by
  obtain ⟨x, dx, ma, kd, av, mv, S, n, d, bs, e, h1, h2, h3, h4, h5, h6, h7, h8, h9, k⟩ := h
  exact ⟨x, dx, ma, kd, av, mv, S, n, d, bs, e, h1, h2, h3, h4, h5, h6, h7, h8, h9, fun H' t av' bs' a b c d e f g => m _ _ (k H' t av' bs' a b c d e f g)⟩
def Ef.kd : Ef → Str
  | .no => ""
  | .keep => "keep"
  | .drop => "drop"
  | .set _ => "set"
  | .merge _ => "merge"
  | .build _ => "build"
theorem Ec.fields {C : Addr} {S : Addr → Prop} {G : Gen} {H : Hp} {n : Nat} {v : V} {e : Ef} (h : Ec C S G H n v e) : ∃ a dx av t, v = .ref a ∧ S a ∧ H a = some (.ins C dx (eflds e.kd av t)) := by
  cases n with
  | zero => exact h.elim
  | succ n =>
    obtain ⟨a, dx, kd, av, t, bs, rfl, sa, ha, _, _, _, _, _, z⟩ := h
    refine ⟨a, dx, av, t, rfl, sa, ?_⟩
    cases e with
    | no => exact z.elim
    | keep => rw [z.1] at ha; exact ha
    | drop => rw [z.1] at ha; exact ha
    | set d => rw [z.1] at ha; exact ha
    | merge f => rw [z.1] at ha; exact ha
    | build f => rw [z.1] at ha; exact ha
theorem kd_drop {e : Ef} : e.kd = "drop" ↔ e.isDrop = true := by
  cases e <;> constructor <;> intro h <;> first | rfl | exact nomatch h | exact absurd h (by decide +kernel)
theorem dropK_inK (ms : List (Str × V)) (k : Str) : dropK (kvsOf ms) (Sum.inr k) = kvsOf (ms.filter fun p => decide (p.1 ≠ k)) := by
  unfold dropK kvsOf
  rw [List.filter_map]
  congr 1
  apply List.filter_congr
  intro p _
  show decide (Sum.inr p.1 ≠ Sum.inr k) = decide (p.1 ≠ k)
  by_cases c : p.1 = k
  · simp [c]
  · have : ¬ ((Sum.inr p.1 : Key) = Sum.inr k) := fun z => c (by injection z)
    simp [c, this]
theorem MemE.drop {C : Addr} {S : Addr → Prop} {G : Gen} {H : Hp} {n : Nat} {ms : List (Str × V)} {f : Str → Ef} (h : MemE C S G H n ms f) (k : Str) : MemE C S G H n (ms.filter fun p => decide (p.1 ≠ k)) (fupE f k .no) := by
  have sub : ∀ {j : Str} {u : V}, valV (ms.filter fun p => decide (p.1 ≠ k)) j = some u → valV ms j = some u ∧ j ≠ k := fun {j u} z => by
    have hm := valV_mem z
    rw [List.mem_filter] at hm
    exact ⟨valV_of_mem h.nd hm.1, of_decide_eq_true hm.2⟩
  refine ⟨h.nd.sublist (List.filter_sublist.map _), fun j hj => ?_, fun j hj => ?_, fun j u hu => ?_⟩
  · obtain ⟨p, hp, e⟩ := List.mem_map.mp hj
    exact h.ks j (List.mem_map.mpr ⟨p, (List.mem_filter.mp hp).1, e⟩)
  · unfold fupE
    by_cases z : j = k
    · rw [if_pos z]
    · rw [if_neg z]
      cases e : valV ms j with
      | none => exact h.no j e
      | some u =>
        have : j ∈ (ms.filter fun p => decide (p.1 ≠ k)).map (·.1) := List.mem_map.mpr ⟨(j, u), List.mem_filter.mpr ⟨valV_mem e, decide_eq_true z⟩, rfl⟩
        obtain ⟨w, hw⟩ := valV_some_of this
        rw [hj] at hw
        cases hw
  · obtain ⟨h1, h2⟩ := sub hu
    unfold fupE
    rw [if_neg h2]
    exact h.at' j u h1
theorem fupE_fupE (f : Str → Ef) (k : Str) (a b : Ef) : fupE (fupE f k a) k b = fupE f k b := by
  funext j
  unfold fupE
  by_cases z : j = k <;> simp [z]
theorem fupE_same {f : Str → Ef} {k : Str} {a : Ef} (h : f k = a) : fupE f k a = f := by
  funext j
  unfold fupE
  by_cases z : j = k
  · rw [if_pos z, z, h]
  · rw [if_neg z]
/-- a drop, a set or a build -/
def Ef.isBase : Ef → Bool
  | .drop => true
  | .set _ => true
  | .build _ => true
  | _ => false
def bfol (e : Ef) (g : Str → Ef) : Str → Ef := fun k => if (g k).isNo then e.mem k else if (Ef.fol (if (e.mem k).isNo then .drop else e.mem k) (g k)).isDrop then .no else Ef.fol (if (e.mem k).isNo then .drop else e.mem k) (g k)
theorem fol_base {e : Ef} (h : e.isBase = true) (g : Str → Ef) : e.fol (.merge g) = .build (bfol e g) := by
  cases e <;> first | rfl | cases h
def spBuilt [TabL] (C Pt : Addr) (G : Gen) (n : Nat) : Sp := fun vs H Q _ => ∃ (S : Addr → Prop) (v1 v2 : V) (e1 : Ef) (g : Str → Ef), vs = [v1, v2] ∧ Ec C S G H (n + 1) v1 e1 ∧ e1.isBase = true ∧ Ec C S G H (n + 1) v2 (.merge g) ∧ LamX.TabS H Pt qLam ∧ ∀ r H', Ex H H' → Ec C (fun b => S b ∨ H b = none) G H' (n + 1) r (e1.fol (.merge g)) → Q r H'
abbrev nBuilt : List Str := ["one", "other", "by_key", "key", "member", "before", "after"]
theorem scBuilt : FnScope nBuilt ["one", "other"] (defScope sBuilt) := ⟨rfl, rfl, rfl, by decide +kernel, rfl, by decide +kernel, by decide +kernel⟩
/-- what stands in the object of e -/
theorem Ec.base {C : Addr} {S : Addr → Prop} {G : Gen} {H : Hp} {n : Nat} {v : V} {e : Ef} (h : Ec C S G H (n + 1) v e) (b : e.isBase = true) : ∃ a dx av t bs, v = .ref a ∧ H a = some (.ins C dx (eflds e.kd av t)) ∧ TpX H t (bs.map fun b => V.ref b.1) ∧ BsAt S H bs ∧ MemE C S G H n (bs.map (·.2)) e.mem := by
  obtain ⟨a, dx, kd, av, t, bs, rfl, sa, ha, _, ht, hb, nd, ks, z⟩ := h
  cases e with
  | drop => obtain ⟨rfl, rfl, _⟩ := z; exact ⟨a, dx, av, t, [], rfl, ha, ht, hb, memE_of nd.1 ks (fun _ _ => rfl) fun b hb => nomatch hb⟩
  | set d => obtain ⟨rfl, rfl, _⟩ := z; exact ⟨a, dx, av, t, [], rfl, ha, ht, hb, memE_of nd.1 ks (fun _ _ => rfl) fun b hb => nomatch hb⟩
  | build f => obtain ⟨rfl, _, no, at'⟩ := z; exact ⟨a, dx, av, t, bs, rfl, ha, ht, hb, memE_of nd.1 ks no at'⟩
  | no => cases b
  | keep => cases b
  | merge f => cases b
section
variable [TabL] {P : Program} {w : World} {K : PySem.W.Frag} {mg : Str → Option Value} {base : Heap}
theorem ok_built {C Pt fI f ff : Addr} {fdI fd fdf : FuncData} {G : Gen} {n k : Nat} (hk : 3 ≤ k) (hG : G.KS.length ≤ 5000) (Z : EFacts K mg base C Pt fI fdI) (gI : FnOk P w K mg base CX0 2 fI fdI ["self", "kind", "atom", "members"] (spInit C Pt G)) (hN : G.C .non = true) (T : Bi mg)
    (Dd : Df K mg "built" sBuilt ["one", "other"] f fd) (Df' : Df K mg "following" sFol ["one", "other"] ff fdf) (gf : FnOk P w K mg base CX0 k ff fdf ["one", "other"] (spFol C Pt G n)) : FnOk P w K mg base CX0 (k + 1) f fd ["one", "other"] (spBuilt C Pt G n) := by
  refine Dd.F.ok scBuilt (fun vs H Q E h => ?_) (fun cdv A outer s H vs Q E hr h => ?_)
  · obtain ⟨_, v1, v2, _, _, rfl, _⟩ := h
    rfl
  obtain ⟨S, v1, v2, e1, g1, rfl, h1, hb1, h2, tb, kk⟩ := h
  have hu := hu_of hr
  have hr3 : Room (2 + 1) _ := hr.mono hk
  refine ⟨_, pss_cons (ps_set (i := 2) scBuilt.nd rfl (Or.inl rfl) (pe_callTy (call_dictT rfl) (by rfl) (T.of "dict") (by decide +kernel) (pa_cons (pe_fld (pv 0) rfl) pa_nil)))
    (pss_cons (ps_for PassesOwn.never rfl (pi_tup (pe_fld (pv 1) rfl)) (pg_tup rfl (pgs_cons (pg_name (i := 3) scBuilt.nd rfl (Or.inl rfl) (Or.inr rfl)) (pgs_cons (pg_name (i := 4) scBuilt.nd rfl (Or.inl rfl) (Or.inr rfl)) pgs_nil)))
      (pss_cons (ps_set (i := 5) scBuilt.nd rfl (Or.inl rfl) (pe_dpop2 (pv 2) (pv 3) (pe_make Z.mkC gI hr3 rfl Z.mgC Z.b .nil pass0 (pa_cons pe_str (pa_cons pe_non (pa_cons (pe_tup pa_nil) pa_nil)))) ⟨rfl, rfl, rfl, rfl⟩))
      (pss_cons (ps_set (i := 6) scBuilt.nd rfl (Or.inl rfl) (pe_call gf hr rfl Df'.m Df'.F.kp Df'.b .nil pass0 (pa_cons (pv 5) (pa_cons (pv 4) pa_nil))))
      (pss_one (ps_if (pt_cmpR op_ne (pe_fld (pv 6) rfl) pe_str (nomark _)) (pss_one (ps_dput hu (pv 2) (pv 3) (pv 6) rfl)) pss_nil)))))
    (pss_one (ps_ret (pe_make Z.mkC gI hr3 rfl Z.mgC Z.b .nil pass0 (pa_cons pe_str (pa_cons pe_non (pa_cons (LiI.pe_listItems rfl (pv 2) (by rfl) (T.of "list") (by decide +kernel)) pa_nil))))))), ?_⟩
  obtain ⟨a1, dx1, av1, t1, bs1, rfl, ha1, ⟨ot1, od1, ht1⟩, hbs1, M1⟩ := h1.base hb1
  obtain ⟨a2, dx2, kd2, av2, t2, bs2, rfl, sa2, ha2, st2, ⟨ot2, od2, ht2⟩, hb2, nd2, ks2, rfl, rfl, no2, at2⟩ := h2
  rw [fol_base hb1] at kk
  refine ⟨.ref a1, rfl, a1, C, dx1, _, _, rfl, ha1, Z.cl, Z.nM, eflds_mem _ _ _, t1, ot1, bs1.map (·.1), kvsOf (bs1.map (·.2)), rfl, (by rw [List.map_map]; exact ht1), od1, pairs_bs hbs1, fun Fa hF => ?_⟩
  rw [show mergeK [] (kvsOf (bs1.map (·.2))) = kvsOf (bs1.map (·.2)) from merge_nodup (bs1.map fun b : Bs => b.2) [] M1.nd]
  have e0 : Ex H (upd H Fa (.dK (kvsOf (bs1.map (·.2))))) := Ex.new hF
  let ks := bs2.map fun b => b.2.1
  refine ⟨.ref a2, rfl, a2, C, dx2, _, _, rfl, e0 _ _ ha2, Z.cl, Z.nM, eflds_mem _ _ _, t2, rfl, ⟨_, .inl (.inr ⟨ot2, e0 _ _ ht2⟩)⟩, ?_⟩
  refine for_tup (K := K) (a := t2) (xs := bs2.map fun b => V.ref b.1) (fun i σ H5 => ∃ ms5 f5, (∃ v3 v4 v5 v6, σ = [some (.ref a1), some (.ref a2), some (.ref Fa), v3, v4, v5, v6]) ∧ Ex H H5 ∧ H5 Fa = some (.dK (kvsOf ms5)) ∧ MemE C (fun b => (S b ∧ H b ≠ none) ∨ (H b = none ∧ b ≠ Fa)) G H5 n ms5 f5 ∧ f5 = mixE ks i (bfol e1 g1) e1.mem) ?_ ?_ ?_ ?_
  · refine ⟨_, _, ⟨_, _, _, _, rfl⟩, e0, upd_same, ?_, mixE_zero.symm⟩
    exact M1.ch fun b o s _ r => ⟨.inl ⟨s, by rw [r]; exact fun z => nomatch z⟩, e0.go _ _ r (by assumption)⟩
  · exact fun i σ H5 _ ⟨_, _, _, ex, _⟩ => .inl (.inr ⟨ot2, ex _ _ ht2⟩)
  · rintro i y σ H5 hi ⟨ms5, f5, ⟨v3, v4, v5, v6, rfl⟩, ex, h5, M5, hf⟩
    obtain ⟨b, hi', rfl⟩ : ∃ b, bs2[i]? = some b ∧ y = .ref b.1 := by
      rw [List.getElem?_map] at hi
      obtain ⟨b, h1, h2⟩ := Option.map_eq_some_iff.mp hi
      exact ⟨b, h1, h2.symm⟩
    have hbm := List.mem_of_getElem? hi'
    have hik : ks[i]? = some b.2.1 := by
      show (bs2.map fun b => b.2.1)[i]? = _
      rw [List.getElem?_map, hi']
      rfl
    have fk : f5 b.2.1 = e1.mem b.2.1 := by rw [hf]; exact mixE_new nd2.1 hik
    have l5 : Rd H5 Fa (.dK (kvsOf ms5)) := .inl h5
    have tb5 := ex.tab _ _ Z.hR tb
    refine ⟨b.1, _, rfl, .inl (.inl (ex _ _ (hb2 b hbm).2)), rfl, _, _, rfl, _, _, rfl, rfl, ?_⟩
    refine ⟨.ref Fa, rfl, Fa, rfl, .inl ⟨_, l5⟩, .str b.2.1, rfl, (by show 0 ≤ sizeLine; decide), fun p hp => ?_⟩
    intro x dx nx ndx ne
    refine spInit_mono (made (Q := fun z H3 => ∃ x, z = .ref x ∧ Made C G (upd H5 p (.tup [])) H3 "drop" (.sc .non) [] x) (S := fun _ => False) (n := 0) (d := .sc .non) (bs := []) (Dc.sc hN) rfl rfl (.inr upd_same) (fun b hb => nomatch hb) (Nat.zero_le _) ((Ex.new hp).tab _ _ Z.hR tb5) Z.hR (fun x H6 M => ⟨x, rfl, M⟩) x dx nx ndx ne) ?_
    rintro _ H6 ⟨rfl, x', hx', Md⟩
    cases hx'
    refine ⟨rfl, ?_⟩
    have e56 : Ex H5 H6 := (Ex.new hp).trans Md.ex
    have h6 := e56 Fa _ h5
    have ex6 := ex.trans e56
    have M6 := M5.ex e56
    have key : ∀ (H7 : Hp) (v : V) (ms7 : List (Str × V)) (eb : Ef), Ex H H7 → H7 Fa = some (.dK (kvsOf ms7)) → MemE C (fun b => (S b ∧ H b ≠ none) ∨ (H b = none ∧ b ≠ Fa)) G H7 n ms7 (fupE f5 b.2.1 .no) → Ec C (fun b => (S b ∧ H b ≠ none) ∨ (H b = none ∧ b ≠ Fa)) G H7 n v eb → eb = (if (e1.mem b.2.1).isNo then .drop else e1.mem b.2.1) →
        ∀ (r : V) (H8 : Hp), Ex H7 H8 → Ec C (fun c => ((S c ∧ H c ≠ none) ∨ (H c = none ∧ c ≠ Fa)) ∨ H7 c = none) G H8 n r (eb.fol (g1 b.2.1)) →
        ∃ a dx av t, r = .ref a ∧ H8 a = some (.ins C dx (eflds (eb.fol (g1 b.2.1)).kd av t)) ∧ Ex H H8 ∧ H8 Fa = some (.dK (kvsOf ms7)) ∧ (kvsOf ms7).length < sizeLine ∧
          ((eb.fol (g1 b.2.1)).isDrop = true → MemE C (fun b => (S b ∧ H b ≠ none) ∨ (H b = none ∧ b ≠ Fa)) G H8 n ms7 (fupE f5 b.2.1 .no) ∧ fupE f5 b.2.1 .no = mixE ks (i + 1) (bfol e1 g1) e1.mem) ∧
          ((eb.fol (g1 b.2.1)).isDrop = false → ∃ f8, MemE C (fun b => (S b ∧ H b ≠ none) ∨ (H b = none ∧ b ≠ Fa)) G (upd H8 Fa (.dK (kvsOf (putK ms7 b.2.1 r)))) n (putK ms7 b.2.1 r) f8 ∧ f8 = mixE ks (i + 1) (bfol e1 g1) e1.mem) := by
      intro H7 v ms7 eb ex7 h7 M7 ev he r H8 e8 hr8
      have er : Ec C (fun b => (S b ∧ H b ≠ none) ∨ (H b = none ∧ b ≠ Fa)) G H8 n r (eb.fol (g1 b.2.1)) := hr8.imp fun c hc => hc.elim id fun hc => .inr ⟨fresh_back ex7 hc, (ne_of_none h7 hc).symm⟩
      obtain ⟨a, dx, av, t, rfl, _, ha⟩ := er.fields
      have g1n : (g1 b.2.1).isNo = false := (at2 b hbm).not_no
      have z := mixE_succ (f := bfol e1 g1) (g := e1.mem) hik
      have hb' : bfol e1 g1 b.2.1 = if (eb.fol (g1 b.2.1)).isDrop then .no else eb.fol (g1 b.2.1) := by
        unfold bfol
        rw [g1n, he]
        rfl
      rw [← hf, hb'] at z
      have h8 := e8 Fa _ h7
      refine ⟨a, dx, av, t, rfl, ha, ex7.trans e8, h8, ?_, fun d => ?_, fun d => ?_⟩
      · have := M7.len
        rw [show (kvsOf ms7).length = ms7.length from List.length_map ..]
        exact Nat.lt_of_le_of_lt (show ms7.length ≤ 5000 by omega) (by decide)
      · rw [d] at z
        exact ⟨M7.ex e8, z⟩
      · rw [d] at z
        refine ⟨_, ((M7.ex e8).put (ks2 b hbm) er).off fun z => z.elim (fun z => z.2 hF) fun z => z.2 rfl, ?_⟩
        rw [fupE_fupE]
        exact z
    have tail : ∀ (H7 : Hp) (v : V) (ms7 : List (Str × V)) (eb : Ef), Ex H H7 → H7 Fa = some (.dK (kvsOf ms7)) → MemE C (fun b => (S b ∧ H b ≠ none) ∨ (H b = none ∧ b ≠ Fa)) G H7 n ms7 (fupE f5 b.2.1 .no) → Ec C (fun b => (S b ∧ H b ≠ none) ∨ (H b = none ∧ b ≠ Fa)) G H7 n v eb → eb = (if (e1.mem b.2.1).isNo then .drop else e1.mem b.2.1) → Ec C (fun b => (S b ∧ H b ≠ none) ∨ (H b = none ∧ b ≠ Fa)) G H7 n b.2.2 (g1 b.2.1) := fun H7 v ms7 eb ex7 _ _ _ _ => (at2 b hbm).ch (fun c o s z r => ⟨.inl ⟨s, by rw [r]; exact fun z => nomatch z⟩, ex7.go _ _ r z⟩) (Nat.le_refl _)
    refine ⟨kvsOf ms5, Sum.inr b.2.1, h6, rfl, fun v hv => ?_, fun hv => ?_⟩
    · rw [valV_inK] at hv
      rw [dropK_inK]
      have ec := M6.at' _ _ hv
      rw [fk] at ec
      have nF : ¬ ((S Fa ∧ H Fa ≠ none) ∨ (H Fa = none ∧ Fa ≠ Fa)) := fun z => z.elim (fun z => z.2 hF) fun z => z.2 rfl
      have ex7 : Ex H (upd H6 Fa (.dK (kvsOf (ms5.filter fun p => decide (p.1 ≠ b.2.1))))) := ex6.mut hF h6
      have he : e1.mem b.2.1 = (if (e1.mem b.2.1).isNo then .drop else e1.mem b.2.1) := by rw [ec.not_no]; rfl
      have M7 := ((M6.drop b.2.1).off (o := .dK (kvsOf (ms5.filter fun p => decide (p.1 ≠ b.2.1)))) nF)
      have ev := ec.off (o := .dK (kvsOf (ms5.filter fun p => decide (p.1 ≠ b.2.1)))) nF
      refine ⟨v, rfl, b.2.2, rfl, _, v, b.2.2, e1.mem b.2.1, g1 b.2.1, rfl, ev, tail _ v _ _ ex7 upd_same M7 ev he, ex7.tab _ _ Z.hR tb, fun r H8 e8 hr8 => ?_⟩
      obtain ⟨a, dx, av, t, rfl, ha, ex8, h8, hl8, k1, k2⟩ := key _ v _ _ ex7 upd_same M7 ev he r H8 e8 hr8
      refine ⟨_, rfl, a, C, dx, _, _, rfl, ha, Z.cl, Z.nK, eflds_kind _ _ _, rfl, _, rfl, ?_⟩
      by_cases c : ((e1.mem b.2.1).fol (g1 b.2.1)).isDrop = true
      · refine ifF (by simp [kd_drop.mpr c]) ⟨_, _, ⟨_, _, _, _, rfl⟩, ex8, h8, (k1 c).1, (k1 c).2⟩
      · have c' : ((e1.mem b.2.1).fol (g1 b.2.1)).isDrop = false := by simpa using c
        have nk : ¬ ((e1.mem b.2.1).fol (g1 b.2.1)).kd = "drop" := fun z => c (kd_drop.mp z)
        obtain ⟨f8, M8, ef8⟩ := k2 c'
        refine ifT (by simp [nk]) ⟨_, rfl, .ref Fa, rfl, .str b.2.1, rfl, Fa, _, rfl, DPut.k (k := Sum.inr b.2.1) h8 hl8, _, f8, ⟨_, _, _, _, rfl⟩, ex8.mut hF h8, by rw [upd_same, putK_inK], ?_, ef8⟩
        rw [putK_inK]
        exact M8
    · rw [valV_inK] at hv
      have fn := M6.no _ hv
      rw [fk] at fn
      have he : Ef.drop = (if (e1.mem b.2.1).isNo then .drop else e1.mem b.2.1) := by rw [fn]; rfl
      have M7 : MemE C (fun b => (S b ∧ H b ≠ none) ∨ (H b = none ∧ b ≠ Fa)) G H6 n ms5 (fupE f5 b.2.1 .no) := by
        rw [fupE_same (by rw [fk, fn])]
        exact M6
      have n1 : ∃ m, n = m + 1 := by
        cases n with
        | zero => exact (show False from at2 b hbm).elim
        | succ m => exact ⟨m, rfl⟩
      obtain ⟨m, rfl⟩ := n1
      have ev : Ec C (fun b => (S b ∧ H b ≠ none) ∨ (H b = none ∧ b ≠ Fa)) G H6 (m + 1) (.ref x) .drop := (Md.drop m).imp fun c hc => .inr ⟨fresh_back ex (fresh_back (Ex.new hp) hc), (ne_of_none (Ex.new hp Fa _ h5) hc).symm⟩
      refine ⟨.ref x, rfl, b.2.2, rfl, _, .ref x, b.2.2, .drop, g1 b.2.1, rfl, ev, tail _ (.ref x) _ _ ex6 h6 M7 ev he, ex6.tab _ _ Z.hR tb, fun r H8 e8 hr8 => ?_⟩
      obtain ⟨a, dx, av, t, rfl, ha, ex8, h8, hl8, k1, k2⟩ := key _ (.ref x) _ _ ex6 h6 M7 ev he r H8 e8 hr8
      refine ⟨_, rfl, a, C, dx, _, _, rfl, ha, Z.cl, Z.nK, eflds_kind _ _ _, rfl, _, rfl, ?_⟩
      by_cases c : ((Ef.drop).fol (g1 b.2.1)).isDrop = true
      · refine ifF (by simp [kd_drop.mpr c]) ⟨_, _, ⟨_, _, _, _, rfl⟩, ex8, h8, (k1 c).1, (k1 c).2⟩
      · have c' : ((Ef.drop).fol (g1 b.2.1)).isDrop = false := by simpa using c
        have nk : ¬ ((Ef.drop).fol (g1 b.2.1)).kd = "drop" := fun z => c (kd_drop.mp z)
        obtain ⟨f8, M8, ef8⟩ := k2 c'
        refine ifT (by simp [nk]) ⟨_, rfl, .ref Fa, rfl, .str b.2.1, rfl, Fa, _, rfl, DPut.k (k := Sum.inr b.2.1) h8 hl8, _, f8, ⟨_, _, _, _, rfl⟩, ex8.mut hF h8, by rw [upd_same, putK_inK], ?_, ef8⟩
        rw [putK_inK]
        exact M8
  · rintro σ H5 ⟨ms5, f5, ⟨v3, v4, v5, v6, rfl⟩, ex, h5, M5, hf⟩
    have hml := M5.len
    refine ⟨.ref Fa, rfl, Fa, kvsOf ms5, rfl, h5, fun H6 p ts st hp hts hpt h6 prs => items_made M5 (ex.tab _ _ Z.hR tb) Z.hR hN (by omega) st h6 prs fun x H7 e7 M => ?_⟩
    refine kk _ _ (ex.trans e7) ?_
    have et : f5 = bfol e1 g1 := by
      rw [hf, List.length_map, ← List.length_map (as := bs2) (f := fun b : Bs => b.2.1)]
      exact mixE_all fun k hk => by
        unfold bfol
        rw [no2 k hk]
        rfl
    rw [et] at M
    exact (M.2 rfl).imp fun b hb => hb.elim (fun z => .inr (fresh_back ex z)) fun z => z.imp (fun z => z.1) fun z => z.1
end
end TP

namespace TP
open PySem PySem.Spec PyProof.Rows L2
theorem kd_keep {e : Ef} : V.str e.kd = V.str "keep" ↔ e = .keep := by
  cases e <;> constructor <;> intro h <;> first | rfl | exact nomatch h | (injection h with h; exact absurd h (by decide +kernel))
theorem kd_merge {e : Ef} : V.str e.kd = V.str "merge" ↔ ∃ f, e = .merge f := by
  cases e with
  | merge f => exact ⟨fun _ => ⟨f, rfl⟩, fun _ => rfl⟩
  | no => exact ⟨fun h => by injection h with h; exact absurd h (by decide +kernel), fun ⟨f, h⟩ => nomatch h⟩
  | keep => exact ⟨fun h => by injection h with h; exact absurd h (by decide +kernel), fun ⟨f, h⟩ => nomatch h⟩
  | drop => exact ⟨fun h => by injection h with h; exact absurd h (by decide +kernel), fun ⟨f, h⟩ => nomatch h⟩
  | set a => exact ⟨fun h => by injection h with h; exact absurd (show ("set" : Str) = "merge" from h) (by decide +kernel), fun ⟨f, h⟩ => nomatch h⟩
  | build f => exact ⟨fun h => by injection h with h; exact absurd (show ("build" : Str) = "merge" from h) (by decide +kernel), fun ⟨f, h⟩ => nomatch h⟩
theorem fol_keep (e : Ef) : e.fol .keep = e := by cases e <;> rfl
theorem keep_fol (e : Ef) : Ef.keep.fol e = e := by cases e <;> rfl
theorem fol_other {e m : Ef} (h1 : m ≠ .keep) (h2 : ¬ ∃ f, m = .merge f) : e.fol m = m := by
  cases m with
  | keep => exact absurd rfl h1
  | merge f => exact absurd ⟨f, rfl⟩ h2
  | no => cases e <;> rfl
  | drop => cases e <;> rfl
  | set a => cases e <;> rfl
  | build f => cases e <;> rfl
theorem scFol : FnScope ["one", "other"] ["one", "other"] (defScope sFol) := ⟨rfl, rfl, rfl, by decide +kernel, rfl, by decide +kernel, by decide +kernel⟩
section
variable [TabL] {P : Program} {w : World} {K : PySem.W.Frag} {mg : Str → Option Value} {base : Heap}
theorem ok_fol' {C Pt fI f fm fb : Addr} {fdI fd fdm fdb : FuncData} {G : Gen} (hG : G.KS.length ≤ 5000) (Z : EFacts K mg base C Pt fI fdI) (gI : FnOk P w K mg base CX0 2 fI fdI ["self", "kind", "atom", "members"] (spInit C Pt G)) (hN : G.C .non = true) (T : Bi mg)
    (Dd : Df K mg "following" sFol ["one", "other"] f fd) (Dm : Df K mg "merged" sMerged ["one", "other"] fm fdm) (Db : Df K mg "built" sBuilt ["one", "other"] fb fdb) : ∀ n, FnOk P w K mg base CX0 (2 * n + 4) f fd ["one", "other"] (spFol C Pt G n)
  | 0 => fn_zero fun vs H Q E ⟨_, _, _, _, _, _, h, _⟩ => h
  | n + 1 => by
    have ih := ok_fol' hG Z gI hN T Dd Dm Db n
    have gm : FnOk P w K mg base CX0 (2 * n + 5) fm fdm ["one", "other"] (spMerged C Pt G n) := ok_merged (by omega) hG Z gI hN T Dm Dd ih
    have gb : FnOk P w K mg base CX0 (2 * n + 5) fb fdb ["one", "other"] (spBuilt C Pt G n) := ok_built (by omega) hG Z gI hN T Db Dd ih
    show FnOk P w K mg base CX0 ((2 * n + 5) + 1) f fd ["one", "other"] (spFol C Pt G (n + 1))
    refine Dd.F.ok scFol (fun vs H Q E h => ?_) (fun cdv A outer s H vs Q E hr h => ?_)
    · obtain ⟨_, v1, v2, _, _, rfl, _⟩ := h
      rfl
    obtain ⟨S, v1, v2, e1, e2, rfl, h1, h2, tb, k⟩ := h
    refine ⟨_, pss_cons (ps_if (pt_cmpR op_eq (pe_fld (pv 1) rfl) pe_str (nomark _)) (pss_one (ps_ret (pv 0))) pss_nil)
      (pss_cons (ps_if (PW.pt (pw_or (pt_cmpR op_eq (pe_fld (pv 0) rfl) pe_str (nomark _)) (pw_or1 (pt_cmpR op_ne (pe_fld (pv 1) rfl) pe_str (nomark _))))) (pss_one (ps_ret (pv 1))) pss_nil)
      (pss_cons (ps_if (pt_cmpR op_eq (pe_fld (pv 0) rfl) pe_str (nomark _)) (pss_one (ps_ret (pe_call gm hr rfl Dm.m Dm.F.kp Dm.b .nil pass0 (pa_cons (pv 0) (pa_cons (pv 1) pa_nil))))) pss_nil)
      (pss_one (ps_ret (pe_call gb hr rfl Db.m Db.F.kp Db.b .nil pass0 (pa_cons (pv 0) (pa_cons (pv 1) pa_nil))))))), ?_⟩
    obtain ⟨a1, dx1, av1, t1, rfl, s1, ha1⟩ := h1.fields
    obtain ⟨a2, dx2, av2, t2, rfl, s2, ha2⟩ := h2.fields
    have old : ∀ b, S b → S b ∨ H b = none := fun b z => .inl z
    refine ⟨.ref a2, rfl, a2, C, dx2, _, _, rfl, ha2, Z.cl, Z.nK, eflds_kind _ _ _, rfl, _, rfl, ?_⟩
    refine ite2 (fun c => ?_) fun c => ?_
    · have := kd_keep.mp (by simpa using c)
      subst this
      exact ⟨_, rfl, k _ H (Ex.refl H) (by rw [fol_keep]; exact h1.imp old)⟩
    have nk : e2 ≠ .keep := fun z => c (by simpa using kd_keep.mpr z)
    have other : e1.fol e2 = e2 → Q (.ref a2) H := fun z => k _ H (Ex.refl H) (by rw [z]; exact h2.imp old)
    refine ⟨.ref a1, rfl, a1, C, dx1, _, _, rfl, ha1, Z.cl, Z.nK, eflds_kind _ _ _, rfl, _, rfl, ?_⟩
    refine ite2 (fun c => ?_) fun c => ?_
    · have := kd_keep.mp (by simpa using c)
      subst this
      exact iteT ⟨_, rfl, other (keep_fol _)⟩
    have nk1 : e1 ≠ .keep := fun z => c (by simpa using kd_keep.mpr z)
    refine ⟨.ref a2, rfl, a2, C, dx2, _, _, rfl, ha2, Z.cl, Z.nK, eflds_kind _ _ _, rfl, _, rfl, ?_⟩
    refine ite2 (fun c => ?_) fun c => ?_
    · exact ⟨_, rfl, other (fol_other nk fun z => by simp [kd_merge.mpr z] at c)⟩
    obtain ⟨g, rfl⟩ := kd_merge.mp (by simpa using c)
    refine ⟨.ref a1, rfl, a1, C, dx1, _, _, rfl, ha1, Z.cl, Z.nK, eflds_kind _ _ _, rfl, _, rfl, ?_⟩
    refine ite2 (fun c => ?_) fun c => ?_
    · obtain ⟨f1, rfl⟩ := kd_merge.mp (by simpa using c)
      exact ⟨_, rfl, _, rfl, S, _, _, f1, g, rfl, h1, h2, tb, fun r H' e h => k r H' e h⟩
    · have b1 : e1.isBase = true := by
        have nn := h1.not_no
        cases e1 with
        | no => cases nn
        | keep => exact absurd rfl nk1
        | merge f => exact absurd (by simpa using kd_merge.mpr ⟨f, rfl⟩) c
        | drop => rfl
        | set a => rfl
        | build f => rfl
      exact ⟨_, rfl, _, rfl, S, _, _, e1, g, rfl, h1, b1, h2, tb, fun r H' e h => k r H' e h⟩
end
end TP

namespace TP
open PySem PySem.Spec PyProof.Rows L2
abbrev sAdd : Stmt := inClass (topS 17) 2
theorem scAdd : FnScope ["self", "other"] ["self", "other"] (defScope sAdd) := ⟨rfl, rfl, rfl, by decide +kernel, rfl, by decide +kernel, by decide +kernel⟩
section
variable [TabL] {P : Program} {w : World} {K : PySem.W.Frag} {mg : Str → Option Value} {base : Heap}
theorem ok_add {C Pt f ff : Addr} {fd fdf : FuncData} {G : Gen} {n k : Nat} (F : Fun K "__add__" "Effect.__add__" sAdd f fd) (Df' : Df K mg "following" sFol ["one", "other"] ff fdf) (gf : FnOk P w K mg base CX0 k ff fdf ["one", "other"] (spFol C Pt G n)) : FnOk P w K mg base CX0 (k + 1) f fd ["self", "other"] (spFol C Pt G n) := by
  refine F.ok scAdd (fun vs H Q E h => ?_) (fun cdv A outer s H vs Q E hr h => ?_)
  · obtain ⟨_, v1, v2, _, _, rfl, _⟩ := h
    rfl
  obtain ⟨S, v1, v2, e1, e2, rfl, h1, h2, tb, k⟩ := h
  refine ⟨_, pss_one (ps_ret (pe_call gf hr rfl Df'.m Df'.F.kp Df'.b .nil pass0 (pa_cons (pv 0) (pa_cons (pv 1) pa_nil)))), ?_⟩
  exact ⟨_, rfl, _, rfl, S, v1, v2, e1, e2, rfl, h1, h2, tb, k⟩
end
end TP

namespace TP
open PySem PySem.Spec PyProof.Rows L2
abbrev sCheckRow : Stmt := topS 9
/-- a row: its patches, each with a bound of its parts -/
structure RowAt (S : Addr → Prop) (G : Gen) (H : Hp) (n : Nat) (a : Addr) (rs : List (V × D × Nat)) : Prop where
  sq : H a = some (.lst (rs.map (·.1))) ∨ H a = some (.tup (rs.map (·.1)))
  dc : ∀ r ∈ rs, Dc S G H n r.1 r.2.1 ∧ PD r.2.1 r.2.2 ∧ PD r.2.1 200 ∧ DD r.2.1 8
  sum : (rs.map (·.2.2)).sum ≤ 200
  len : rs.length ≤ 5000
theorem RowAt.ex [TabL] {S G H H' n a rs} (h : RowAt S G H n a rs) (e : Ex H H') : RowAt S G H' n a rs := ⟨h.sq.imp (fun z => e _ _ z) fun z => e _ _ z, fun r hr => ⟨(h.dc r hr).1.ex e, (h.dc r hr).2⟩, h.sum, h.len⟩
def spRow [TabL] (G : Gen) (n : Nat) : Sp := fun vs H Q _ => ∃ (S : Addr → Prop) (a : Addr) (rs : List (V × D × Nat)), vs = [.ref a] ∧ RowAt S G H n a rs ∧ ∀ H', Ex H H' → Q .non H'
theorem scRow : FnScope ["row", "patch"] ["row"] (defScope sCheckRow) := ⟨rfl, rfl, rfl, by decide +kernel, rfl, by decide +kernel, by decide +kernel⟩
section
variable [TabL] {P : Program} {w : World} {K : PySem.W.Frag} {mg : Str → Option Value} {base : Heap}
variable {aCheck aWrong aAtom aElem aDepth aParts aCopied : Addr} {fCheck fWrong fAtom fElem fDepth fParts fCopied : FuncData}
theorem ok_row (R : Prog K mg aCheck aWrong aAtom aElem aDepth aParts aCopied fCheck fWrong fAtom fElem fDepth fParts fCopied) (T : Bi mg) {G : Gen} (hL : G.L ≤ 5000) (hG : G.KS.length < 64) (n : Nat) {f : Addr} {fd : FuncData} (Dd : Df K mg "check_row" sCheckRow ["row"] f fd) : FnOk P w K mg base CX0 (n + 4) f fd ["row"] (spRow G n) := by
  have gc : FnOk P w K mg base CX0 (n + 3) aCheck fCheck ["value"] (spCheck G n) := ok_check R T hL hG n
  have gp : FnOk P w K mg base CX0 (n + 3) aParts fParts ["document"] (spParts G n) := (ok_parts R.parts T (by omega) n).mono (by omega)
  obtain ⟨t2, mp⟩ := R.mp
  refine Dd.F.ok scRow (fun vs H Q E h => ?_) (fun cdv A outer s H vs Q E hr h => ?_)
  · obtain ⟨_, a, rs, rfl, _⟩ := h
    rfl
  obtain ⟨S, a, rs, rfl, hrow, k⟩ := h
  have hu := hu_of hr
  refine ⟨_, pss_cons (ps_for PassesOwn.never rfl (pi_seq (pv 0)) (pg_name (i := 1) scRow.nd rfl (Or.inl rfl)) (pss_one (ps_expr (pe_call gc hr rfl R.check.m R.check.F.kp R.check.b .nil pass0 (pa_cons (pv 1) pa_nil)))))
    (pss_one (ps_if (pt_cmpR op_gt (pe_callB (cr_sum rfl) (by rfl) (T.of "sum") (by decide +kernel) (pa_cons (pe_lc (own := [("patch", 1)]) (g := gName 1) (tt := tYes) rfl scRow.nd (pi_seq (pv 0)) (blkOk_by (N := ["row", "patch"]) (sc := defScope sCheckRow) (by decide +kernel))
      (fun _ _ _ _ _ => pg_name (i := 1) scRow.nd rfl (Or.inl rfl)) (fun _ _ _ _ _ => pts_nil) (fun _ _ _ _ _ => pe_call gp hr rfl R.parts.m R.parts.F.kp R.parts.b .nil pass0 (pa_cons (pv 1) pa_nil))) pa_nil)) (pe_glob (v := .int 200) rfl mp ⟨t2, rfl⟩) (nomark _)) (pss_one ps_never) pss_nil)), ?_⟩
  have fin : ∀ (H1 : Hp), Ex H H1 → ∀ ns : List Int, 0 ≤ ns.sum → ns.sum ≤ ((rs.map (·.2.2)).sum : Nat) → ¬ (200 : Int) < ns.sum := fun H1 e ns h0 h1 => by
    have := hrow.sum
    omega
  have get : ∀ (i : Nat) (y : V), (rs.map (·.1))[i]? = some y → ∃ r, rs[i]? = some r ∧ y = r.1 := fun i y hi => by
    rw [List.getElem?_map] at hi
    obtain ⟨r, h1, h2⟩ := Option.map_eq_some_iff.mp hi
    exact ⟨r, h1, h2.symm⟩
  have stepN : ∀ (i : Nat) (r : V × D × Nat) (ns : List Int) (j : Int), rs[i]? = some r → 0 ≤ ns.sum → ns.sum ≤ (((rs.take i).map (·.2.2)).sum : Nat) → 1 ≤ j → j ≤ r.2.2 → 0 ≤ (ns ++ [j]).sum ∧ (ns ++ [j]).sum ≤ (((rs.take (i + 1)).map (·.2.2)).sum : Nat) := fun i r ns j hi h0 h1 j0 j1 => by
    rw [List.sum_append, List.take_add_one, hi]
    simp
    simp at h1
    omega
  have hlen : ∀ (i : Nat) (r : V × D × Nat) (ns : List Int), rs[i]? = some r → ns.length = i → (ns.map V.int).length < sizeLine := fun i r ns hi hl => by
    have := (List.getElem?_eq_some_iff.mp hi).1
    have := hrow.len
    rw [List.length_map, hl]
    exact Nat.lt_of_le_of_lt (show i ≤ 5000 by omega) (by decide)
  rcases hrow.sq with sq | sq
  all_goals
    first
      | refine .inl ⟨.ref a, rfl, a, rfl, ⟨_, .inl (.inl sq)⟩, for_list (K := K) (a := a) (xs := rs.map (·.1)) (fun i σ H1 => (∃ x, σ = [some (.ref a), x]) ∧ Ex H H1) ⟨⟨_, rfl⟩, Ex.refl H⟩ (fun i σ H1 _ q => .inl (.inl (q.2 _ _ sq))) (fun i y σ H1 hi q => ?_) fun σ H1 q => ?_⟩
      | refine .inr ⟨.ref a, rfl, a, rfl, ⟨_, .inl (.inl sq)⟩, for_tup (K := K) (a := a) (xs := rs.map (·.1)) (fun i σ H1 => (∃ x, σ = [some (.ref a), x]) ∧ Ex H H1) ⟨⟨_, rfl⟩, Ex.refl H⟩ (fun i σ H1 _ q => .inl (.inl (q.2 _ _ sq))) (fun i y σ H1 hi q => ?_) fun σ H1 q => ?_⟩
    · obtain ⟨⟨x, rfl⟩, e1⟩ := q
      obtain ⟨r, hr', rfl⟩ := get i y hi
      obtain ⟨d1, d2, d3, d4⟩ := hrow.dc r (List.mem_of_getElem? hr')
      exact ⟨_, rfl, S, r.1, r.2.1, rfl, d1.ex e1, d3, d4, fun H2 e2 => ⟨⟨_, rfl⟩, e1.trans e2⟩⟩
    · obtain ⟨⟨x, rfl⟩, e1⟩ := q
      first
        | refine .inl ⟨.ref a, rfl, a, rfl, ⟨_, .inl (.inl (e1 _ _ sq))⟩, fun Da hD => lc_list (K := K) (a := a) (xs := rs.map (·.1)) (fun i H2 => Ex H1 H2 ∧ ∃ ns : List Int, H2 Da = some (.lst (ns.map V.int)) ∧ ns.length = i ∧ 0 ≤ ns.sum ∧ ns.sum ≤ (((rs.take i).map (·.2.2)).sum : Nat)) ⟨Ex.new hD, [], upd_same, rfl, by simp, by simp⟩ (fun i H2 _ q => .inl (.inl (q.1 _ _ (e1 _ _ sq)))) (fun i y H2 hi q => ?_) fun H2 q => ?_⟩
        | refine .inr ⟨.ref a, rfl, a, rfl, ⟨_, .inl (.inl (e1 _ _ sq))⟩, fun Da hD => lc_tup (K := K) (a := a) (xs := rs.map (·.1)) (fun i H2 => Ex H1 H2 ∧ ∃ ns : List Int, H2 Da = some (.lst (ns.map V.int)) ∧ ns.length = i ∧ 0 ≤ ns.sum ∧ ns.sum ≤ (((rs.take i).map (·.2.2)).sum : Nat)) ⟨Ex.new hD, [], upd_same, rfl, by simp, by simp⟩ (fun i H2 _ q => .inl (.inl (q.1 _ _ (e1 _ _ sq)))) (fun i y H2 hi q => ?_) fun H2 q => ?_⟩
      · obtain ⟨e2, ns, h2, hl, hb0, hb1⟩ := q
        obtain ⟨r, hr', rfl⟩ := get i y hi
        obtain ⟨d1, d2, d3, d4⟩ := hrow.dc r (List.mem_of_getElem? hr')
        refine ⟨rfl, t_yes ?_⟩
        refine ⟨_, rfl, S, r.1, r.2.1, r.2.2, rfl, (d1.ex e1).ex e2, d2, fun j H5 e5 j0 j1 => ?_⟩
        refine ⟨_, e5 Da _ h2, hlen i r ns hr' hl, Ex.mut (e2.trans e5) hD (e5 Da _ h2), ns ++ [j], ?_, ?_, (stepN i r ns j hr' hb0 hb1 j0 j1).1, (stepN i r ns j hr' hb0 hb1 j0 j1).2⟩
        · rw [upd_same, List.map_append]; rfl
        · rw [List.length_append, hl]; rfl
      · obtain ⟨e2, ns, h2, hl, hb0, hb1⟩ := q
        rw [List.length_map, List.take_length] at hb1
        refine ⟨Da, ns, rfl, .inl (.inl h2), _, _, rfl, rfl, _, rfl, ifF (decide_eq_false (fin H2 (e1.trans e2) ns hb0 hb1)) (k H2 (e1.trans e2))⟩
end
end TP

namespace TP
open PySem PySem.Spec PyProof.Rows L2
abbrev sEffect : Stmt := topS 18
abbrev sRowEffect : Stmt := topS 19
/-- what a row does, unchecked: its patches are documents -/
def spREff [TabL] (C Pt : Addr) (G : Gen) (n : Nat) : Sp := fun vs H Q _ => ∃ (S : Addr → Prop) (a : Addr) (rs : List (V × D)), vs = [.ref a] ∧ (H a = some (.lst (rs.map (·.1))) ∨ H a = some (.tup (rs.map (·.1)))) ∧ (∀ r ∈ rs, Dc S G H (n + 1) r.1 r.2) ∧ LamX.TabS H Pt qLam ∧ ∀ r H', Ex H H' → Ec C (Nw H) G H' (n + 1) r (rowE (rs.map (·.2))) → Q r H'
def spEff [TabL] (C Pt : Addr) (G : Gen) (n : Nat) : Sp := fun vs H Q _ => ∃ (S : Addr → Prop) (a : Addr) (rs : List (V × D × Nat)), vs = [.ref a] ∧ RowAt S G H (n + 1) a rs ∧ LamX.TabS H Pt qLam ∧ ∀ r H', Ex H H' → Ec C (Nw H) G H' (n + 1) r (rowE (rs.map (·.2.1))) → Q r H'
abbrev nREff : List Str := ["row", "total", "patch"]
theorem scREff : FnScope nREff ["row"] (defScope sRowEffect) := ⟨rfl, rfl, rfl, by decide +kernel, rfl, by decide +kernel, by decide +kernel⟩
theorem scEff : FnScope ["row"] ["row"] (defScope sEffect) := ⟨rfl, rfl, rfl, by decide +kernel, rfl, by decide +kernel, by decide +kernel⟩
section
variable [TabL] {P : Program} {w : World} {K : PySem.W.Frag} {mg : Str → Option Value} {base : Heap}
theorem ok_reff {C Pt fI f fp fa : Addr} {fdI fd fdp fda : FuncData} {G : Gen} {n k : Nat} (hk : 3 ≤ k) (Z : EFacts K mg base C Pt fI fdI) (gI : FnOk P w K mg base CX0 2 fI fdI ["self", "kind", "atom", "members"] (spInit C Pt G)) (hN : G.C .non = true) (T : Bi mg)
    (Dd : Df K mg "row_effect" sRowEffect ["row"] f fd)
    (Dp : Df K mg "patch_effect" sPE ["patch"] fp fdp) (gp : FnOk P w K mg base CX0 k fp fdp ["patch"] (spPE C Pt G (n + 1)))
    (ga : FnOk P w K mg base CX0 k fa fda ["self", "other"] (spFol C Pt G (n + 1))) (ba : Binds K fda ["self", "other"] []) (sf : PySem.W.selfFirst K C = true) (hf : PySem.W.findIn K (.ref C) (PySem.dunder "add") = some (some (.ref fa))) (fn : PySem.W.isFn K (.ref fa) = true) :
    FnOk P w K mg base CX0 (k + 1) f fd ["row"] (spREff C Pt G n) := by
  refine Dd.F.ok scREff (fun vs H Q E h => ?_) (fun cdv A outer s H vs Q E hr h => ?_)
  · obtain ⟨_, a, rs, rfl, _⟩ := h
    rfl
  obtain ⟨S, a, rs, rfl, hsq, hrow, tb, kq⟩ := h
  have hr3 : Room (2 + 1) _ := hr.mono hk
  refine ⟨_, pss_cons (ps_set (i := 1) scREff.nd rfl (Or.inl rfl) (pe_make Z.mkC gI hr3 rfl Z.mgC Z.b .nil pass0 (pa_cons pe_str (pa_cons pe_non (pa_cons (pe_tup pa_nil) pa_nil)))))
    (pss_cons (ps_for PassesOwn.never rfl (pi_seq (pv 0)) (pg_name (i := 2) scREff.nd rfl (Or.inl rfl))
      (pss_one (ps_set (i := 1) scREff.nd rfl (Or.inl rfl) (pe_op (op_addOwn (C := C) (E := E0) ga hr ba pass0 sf hf fn) (pv 1) (pe_call gp hr rfl Dp.m Dp.F.kp Dp.b .nil pass0 (pa_cons (pv 2) pa_nil))))))
    (pss_one (ps_ret (pv 1)))), ?_⟩
  refine ⟨(by show 0 ≤ sizeLine; decide), fun p hp => ?_⟩
  intro x dx nx ndx ne
  refine spInit_mono (made (Q := fun z H3 => ∃ x, z = .ref x ∧ Made C G (upd H p (.tup [])) H3 "keep" (.sc .non) [] x) (S := fun _ => False) (n := 0) (d := .sc .non) (bs := []) (Dc.sc hN) rfl rfl (.inr upd_same) (fun b hb => nomatch hb) (Nat.zero_le _) ((Ex.new hp).tab _ _ Z.hR tb) Z.hR (fun x H6 M => ⟨x, rfl, M⟩) x dx nx ndx ne) ?_
  rintro _ H3 ⟨rfl, x', hx', Md⟩
  cases hx'
  refine ⟨rfl, ?_⟩
  have e13 : Ex H H3 := (Ex.new hp).trans Md.ex
  have st : Ec C (Nw H) G H3 (n + 1) (.ref x) (rowE ((rs.take 0).map (·.2))) := (Md.keep n).imp fun b hb => fresh_back (Ex.new hp) hb
  have get : ∀ (i : Nat) (y : V), (rs.map (·.1))[i]? = some y → ∃ r, rs[i]? = some r ∧ y = r.1 := fun i y hi => by
    rw [List.getElem?_map] at hi
    obtain ⟨r, h1, h2⟩ := Option.map_eq_some_iff.mp hi
    exact ⟨r, h1, h2.symm⟩
  rcases hsq with sq | sq
  all_goals
    first
      | refine .inl ⟨.ref a, rfl, a, rfl, ⟨_, .inl (.inl (e13 _ _ sq))⟩, for_list (K := K) (a := a) (xs := rs.map (·.1)) (fun i σ H5 => ∃ z, (∃ x, σ = [some (.ref a), some z, x]) ∧ Ex H H5 ∧ Ec C (Nw H) G H5 (n + 1) z (rowE ((rs.take i).map (·.2)))) ⟨_, ⟨_, rfl⟩, e13, st⟩ (fun i σ H5 _ ⟨_, _, e, _⟩ => .inl (.inl (e _ _ sq))) (fun i y σ H5 hi q => ?_) fun σ H5 q => ?_⟩
      | refine .inr ⟨.ref a, rfl, a, rfl, ⟨_, .inl (.inl (e13 _ _ sq))⟩, for_tup (K := K) (a := a) (xs := rs.map (·.1)) (fun i σ H5 => ∃ z, (∃ x, σ = [some (.ref a), some z, x]) ∧ Ex H H5 ∧ Ec C (Nw H) G H5 (n + 1) z (rowE ((rs.take i).map (·.2)))) ⟨_, ⟨_, rfl⟩, e13, st⟩ (fun i σ H5 _ ⟨_, _, e, _⟩ => .inl (.inl (e _ _ sq))) (fun i y σ H5 hi q => ?_) fun σ H5 q => ?_⟩
    · obtain ⟨z, ⟨x, rfl⟩, e5, h5⟩ := q
      obtain ⟨r, hr', rfl⟩ := get i y hi
      have d1 := hrow r (List.mem_of_getElem? hr')
      refine ⟨_, rfl, _, rfl, S, r.1, r.2, rfl, d1.ex e5, e5.tab _ _ Z.hR tb, fun p6 H6 e6 h6 => ?_⟩
      have h56 := h5.ex e6
      obtain ⟨a1, dx1, av1, t1, rfl, _, ha1⟩ := h56.fields
      obtain ⟨a2, dx2, av2, t2, rfl, _, ha2⟩ := h6.fields
      have e56 := e5.trans e6
      refine ⟨a1, dx1, _, a2, dx2, _, rfl, rfl, ha1, ha2, Nw H, .ref a1, .ref a2, _, _, rfl, h56, h6.imp fun b hb => fresh_back e5 hb, e56.tab _ _ Z.hR tb, fun r7 H7 e7 h7 => ?_⟩
      obtain ⟨a3, _, _, _, rfl, _, _⟩ := h7.fields
      refine ⟨⟨a3, rfl⟩, .ref a3, ⟨_, rfl⟩, e56.trans e7, ?_⟩
      rw [List.take_add_one, hr']
      simp only [Option.toList_some, List.map_append, List.map_cons, List.map_nil]
      show Ec C (Nw H) G H7 (n + 1) _ (List.foldl (fun e p => e.fol (pef p)) .keep _)
      rw [List.foldl_append]
      exact h7.imp fun b hb => hb.elim id fun q => fresh_back e56 q
    · obtain ⟨z, ⟨x, rfl⟩, e5, h5⟩ := q
      rw [List.length_map, List.take_length] at h5
      exact ⟨z, rfl, kq z H5 e5 h5⟩
theorem ok_effect {C Pt f fr fe : Addr} {fd fdr fde : FuncData} {G : Gen} {n k : Nat} (hR : TabL.R Pt qLam)
    (Dd : Df K mg "effect" sEffect ["row"] f fd) (Dr : Df K mg "check_row" sCheckRow ["row"] fr fdr) (gr : FnOk P w K mg base CX0 k fr fdr ["row"] (spRow G (n + 1)))
    (De : Df K mg "row_effect" sRowEffect ["row"] fe fde) (ge : FnOk P w K mg base CX0 k fe fde ["row"] (spREff C Pt G n)) :
    FnOk P w K mg base CX0 (k + 1) f fd ["row"] (spEff C Pt G n) := by
  refine Dd.F.ok scEff (fun vs H Q E h => ?_) (fun cdv A outer s H vs Q E hr h => ?_)
  · obtain ⟨_, a, rs, rfl, _⟩ := h
    rfl
  obtain ⟨S, a, rs, rfl, hrow, tb, kq⟩ := h
  refine ⟨_, pss_cons (ps_expr (pe_call gr hr rfl Dr.m Dr.F.kp Dr.b .nil pass0 (pa_cons (pv 0) pa_nil)))
    (pss_one (ps_ret (pe_call ge hr rfl De.m De.F.kp De.b .nil pass0 (pa_cons (pv 0) pa_nil)))), ?_⟩
  refine ⟨_, rfl, S, a, rs, rfl, hrow, fun H1 e1 => ?_⟩
  have m : (rs.map fun r => (r.1, r.2.1)).map (·.1) = rs.map (·.1) := by rw [List.map_map]; rfl
  have m2 : (rs.map fun r => (r.1, r.2.1)).map (·.2) = rs.map (·.2.1) := by rw [List.map_map]; rfl
  refine ⟨_, rfl, S, a, rs.map fun r => (r.1, r.2.1), rfl, ?_, ?_, e1.tab _ _ hR tb, fun r H' e2 h2 => kq r H' (e1.trans e2) ?_⟩
  · rw [m]
    exact (hrow.ex e1).sq
  · intro r hr'
    obtain ⟨q, hq, rfl⟩ := List.mem_map.mp hr'
    exact ((hrow.ex e1).dc q hq).1
  · rw [m2] at h2
    exact h2.imp fun b hb => fresh_back e1 hb
end
end TP

namespace TP
open PySem PySem.Spec PyProof.Rows L2
abbrev sEqE : Stmt := inClass (topS 17) 1
/-! ### effects compared -/
theorem opR_or {X : Cx} {f : Value → Value → Sem Value} {r1 r2 : R2} (h1 : OpR X f r1) (h2 : OpR X f r2) : OpR X f (fun x y H Q => r1 x y H Q ∨ r2 x y H Q) :=
  fun pins s σ H x y v u Q I a b z => z.elim (fun z => h1 pins s σ H x y v u Q I a b z) fun z => h2 pins s σ H x y v u Q I a b z
theorem Ec.ext {C : Addr} {G : Gen} {S : Addr → Prop} {H H' : Hp} {n : Nat} {v : V} {e : Ef} (h : Ec C S G H n v e) (x : L2.Ext H H') : Ec C S G H' n v e := h.ch (fun b o s z r => ⟨s, x b o r⟩) (Nat.le_refl _)
/-- two objects that stand for one effect -/
def eqR (C : Addr) (G : Gen) (n : Nat) (a b : Addr) (H : Hp) : Prop := ∃ S S' e, Ec C S G H n (.ref a) e ∧ Ec C S' G H n (.ref b) e
theorem eqR_mon {C : Addr} {G : Gen} {n : Nat} : ∀ (a b : Addr) (H H' : Hp), L2.Ext H H' → eqR C G n a b H → eqR C G n a b H' := fun a b H H' x ⟨S, S', e, h1, h2⟩ => ⟨S, S', e, h1.ext x, h2.ext x⟩
def memD (C : Addr) (G : Gen) (n : Nat) : Eqv := fun x y H => DFlat x y H ∨ DIns C (eqR C G n) x y H
theorem mon_memD {C : Addr} {G : Gen} {n : Nat} : Mon (memD C G n) := Mon.or mon_flat (mon_ins eqR_mon)
theorem scEqE : FnScope ["self", "other"] ["self", "other"] (defScope sEqE) := ⟨rfl, rfl, rfl, by decide +kernel, rfl, by decide +kernel, by decide +kernel⟩
theorem eq_sc : ∀ {v : V}, isSc v = true → flatV v = true ∧ eqV v v = true
  | .non, _ => by simp [flatV, flatB, eqV]
  | .int _, _ => by simp [flatV, flatB, eqV]
  | .str _, _ => by simp [flatV, flatB, eqV]
theorem sc_scal : ∀ {v : V}, isSc v = true → scal v v = true
  | .non, _ => by simp [scal]
  | .int _, _ => by simp [scal]
  | .str _, _ => by simp [scal]
theorem prs_of {D : Eqv} {xs ys : List V} {H : Hp} (hl : xs.length = ys.length) (h : ∀ (i : Nat) (x y : V), xs[i]? = some x → ys[i]? = some y → D x y H) : Prs D xs ys H := ⟨hl, h⟩
/-- the members of two objects that stand for one effect -/
theorem prs_mem {C : Addr} {S S' : Addr → Prop} {G : Gen} {H : Hp} {n : Nat} {K : PySem.W.Frag} {bs cs : List Bs} {f : Str → Ef} (b1 : BsAt S H bs) (c1 : BsAt S' H cs) (nb : NdS (bs.map fun b => b.2.1)) (nc : NdS (cs.map fun b => b.2.1))
    (fb : ∀ k, k ∉ bs.map (fun b => b.2.1) → f k = .no) (fc : ∀ k, k ∉ cs.map (fun b => b.2.1) → f k = .no) (eb : ∀ b ∈ bs, Ec C S G H n b.2.2 (f b.2.1)) (ec : ∀ b ∈ cs, Ec C S' G H n b.2.2 (f b.2.1)) :
    Prs (DTup K (memD C G n)) (bs.map fun b => V.ref b.1) (cs.map fun b => V.ref b.1) H := by
  have inb : ∀ k, k ∈ bs.map (fun b => b.2.1) ↔ f k ≠ .no := fun k => by
    constructor
    · intro h z
      obtain ⟨b, hb, rfl⟩ := List.mem_map.mp h
      have := (eb b hb).not_no
      rw [z] at this
      cases this
    · exact fun h => Classical.byContradiction fun z => h (fb k z)
  have inc : ∀ k, k ∈ cs.map (fun b => b.2.1) ↔ f k ≠ .no := fun k => by
    constructor
    · intro h z
      obtain ⟨b, hb, rfl⟩ := List.mem_map.mp h
      have := (ec b hb).not_no
      rw [z] at this
      cases this
    · exact fun h => Classical.byContradiction fun z => h (fc k z)
  have keys : bs.map (fun b => b.2.1) = cs.map (fun b => b.2.1) := ndS_eq nb nc fun k => (inb k).trans (inc k).symm
  have hl : bs.length = cs.length := by simpa using congrArg List.length keys
  refine prs_of (by simpa using hl) fun i x y hx hy => ?_
  rw [List.getElem?_map] at hx hy
  obtain ⟨b, hb, rfl⟩ := Option.map_eq_some_iff.mp hx
  obtain ⟨c, hc, rfl⟩ := Option.map_eq_some_iff.mp hy
  have ek : b.2.1 = c.2.1 := by
    have := congrArg (fun l => l[i]?) keys
    simp only [List.getElem?_map, hb, hc, Option.map_some] at this
    exact Option.some.inj this
  have mb := List.mem_of_getElem? hb
  have mc := List.mem_of_getElem? hc
  refine ⟨b.1, c.1, [.str b.2.1, b.2.2], [.str c.2.1, c.2.2], rfl, rfl, .inl (.inl (b1 b mb).2), .inl (.inl (c1 c mc).2), prs_of rfl fun j x y hx hy => ?_⟩
  match j, hx, hy with
  | 0, hx, hy =>
    cases hx; cases hy
    rw [ek]
    exact .inl (by have := eq_sc (v := .str c.2.1) rfl; exact ⟨this.1, this.1, this.2⟩)
  | 1, hx, hy =>
    cases hx; cases hy
    have e1 := eb b mb
    have e2 := ec c mc
    rw [← ek] at e2
    obtain ⟨a1, dx1, av1, t1, h1, _, ha1⟩ := e1.fields
    obtain ⟨a2, dx2, av2, t2, h2, _, ha2⟩ := e2.fields
    rw [h1] at e1 ⊢
    rw [h2] at e2 ⊢
    exact .inr ⟨a1, a2, dx1, dx2, _, _, rfl, rfl, ha1, ha2, S, S', _, e1, e2⟩
  | j + 2, hx, hy => cases hx
/-- what two objects for one effect hold -/
theorem ec_two {C : Addr} {S S' : Addr → Prop} {G : Gen} {H : Hp} {n : Nat} {K : PySem.W.Frag} {a b : Addr} {e : Ef} (h1 : Ec C S G H (n + 1) (.ref a) e) (h2 : Ec C S' G H (n + 1) (.ref b) e) :
    ∃ dx dy av bv t u xs ys, H a = some (.ins C dx (eflds e.kd av t)) ∧ H b = some (.ins C dy (eflds e.kd bv u)) ∧ TpX H t xs ∧ TpX H u ys ∧ Prs (DTup K (memD C G n)) xs ys H ∧
      ((isSc av = true ∧ av = bv) ∨ ∃ p q zs, av = .ref p ∧ bv = .ref q ∧ H p = some (.tup zs) ∧ H q = some (.tup zs) ∧ ∀ z ∈ zs, isSc z = true) := by
  obtain ⟨a', dx, kd, av, t, bs, ea, sa, ha, st, ht, hb, nb, kb, h1⟩ := h1
  obtain ⟨b', dy, kd', bv, u, cs, eb, sb, hb', su, hu, hc, nc, kc, h2⟩ := h2
  cases ea; cases eb
  cases e with
  | no => exact h1.elim
  | keep =>
    obtain ⟨rfl, rfl, rfl⟩ := h1
    obtain ⟨rfl, rfl, rfl⟩ := h2
    exact ⟨dx, dy, _, _, t, u, _, _, ha, hb', ht, hu, prs_of rfl (fun i x y hx => nomatch hx), .inl ⟨rfl, rfl⟩⟩
  | drop =>
    obtain ⟨rfl, rfl, rfl⟩ := h1
    obtain ⟨rfl, rfl, rfl⟩ := h2
    exact ⟨dx, dy, _, _, t, u, _, _, ha, hb', ht, hu, prs_of rfl (fun i x y hx => nomatch hx), .inl ⟨rfl, rfl⟩⟩
  | set d =>
    obtain ⟨rfl, rfl, at1⟩ := h1
    obtain ⟨rfl, rfl, at2⟩ := h2
    refine ⟨dx, dy, _, _, t, u, _, _, ha, hb', ht, hu, prs_of rfl (fun i x y hx => nomatch hx), ?_⟩
    rcases at1 with ⟨e1, c1⟩ | ⟨p, zs, e1, rfl, _, hp, _, hz⟩
    · rcases at2 with ⟨e2, c2⟩ | ⟨q, ws, e2, rfl, _, hq, _, hw⟩
      · rw [e1] at e2
        cases e2
        exact .inl ⟨G.sc _ c1, rfl⟩
      · rw [e1] at e2; cases e2
    · rcases at2 with ⟨e2, c2⟩ | ⟨q, ws, e2, rfl, _, hq, _, hw⟩
      · rw [e1] at e2; cases e2
      · rw [e1] at e2
        cases e2
        exact .inr ⟨p, q, zs, rfl, rfl, hp, hq, fun z hz' => G.sc _ (hz z hz')⟩
  | merge f =>
    obtain ⟨rfl, rfl, f1, m1⟩ := h1
    obtain ⟨rfl, rfl, f2, m2⟩ := h2
    exact ⟨dx, dy, _, _, t, u, _, _, ha, hb', ht, hu, prs_mem hb hc nb nc f1 f2 m1 m2, .inl ⟨rfl, rfl⟩⟩
  | build f =>
    obtain ⟨rfl, rfl, f1, m1⟩ := h1
    obtain ⟨rfl, rfl, f2, m2⟩ := h2
    exact ⟨dx, dy, _, _, t, u, _, _, ha, hb', ht, hu, prs_mem hb hc nb nc f1 f2 m1 m2, .inl ⟨rfl, rfl⟩⟩
theorem tpx_ext {H H' : Hp} {t : Addr} {xs : List V} (x : L2.Ext H H') (h : TpX H t xs) : TpX H' t xs := let ⟨o, h1, h2⟩ := h; ⟨o, h1, x _ _ h2⟩
section
variable [TabL] {P : Program} {w : World} {K : PySem.W.Frag} {mg : Str → Option Value} {base : Heap}
theorem ok_eqE {C Pt fI f : Addr} {fdI fd : FuncData} {G : Gen} (Z : EFacts K mg base C Pt fI fdI) (IC : C8.InsC K C) (T : Bi mg) (F : Fun K "__eq__" "Effect.__eq__" sEqE f fd) (b : Binds K fd ["self", "other"] []) (he : PySem.W.findIn K (.ref C) "__eq__" = some (some (.ref f))) (hf : PySem.W.isFn K (.ref f) = true) :
    ∀ n, FnOk P w K mg base CX0 (3 * n + 1) f fd ["self", "other"] (spEq (eqR C G n))
  | 0 => fn_zero fun vs H Q E ⟨_, _, _, ⟨_, _, _, h, _⟩, _⟩ => h
  | n + 1 => by
    have ih := ok_eqE (G := G) Z IC T F b he hf n
    show FnOk P w K mg base CX0 ((3 * n + 3) + 1) f fd ["self", "other"] (spEq (eqR C G (n + 1)))
    refine F.ok scEqE (fun vs H Q E h => ?_) (fun cdv A outer s H vs Q E hr h => ?_)
    · obtain ⟨_, _, rfl, _⟩ := h
      rfl
    obtain ⟨x, y, rfl, ⟨S, S', e, h1, h2⟩, k⟩ := h
    obtain ⟨dx, dy, av, bv, t, u, xs, ys, hx, hy, ht, hu, prs, hat⟩ := ec_two (K := K) h1 h2
    refine ⟨_, pss_one (ps_ret (pe_and (pe_callB (C8.call_isC IC) (by rfl) (T.of "isinstance") (by decide +kernel) (pa_cons (pv 1) (pa_cons (pe_glob (v := .ref C) (by rfl) Z.mgC rfl) pa_nil)))
      (pe_and (pe_cmpR op_eq (pe_fld (pv 0) rfl) (pe_fld (pv 1) rfl) (nomark _))
      (pe_and (pe_cmpR (opR_or op_eq (op_eqG (rcG_tup mon_flat eqG_flat) (hr.mono (by omega)))) (pe_fld (pv 0) rfl) (pe_fld (pv 1) rfl) (nomark _))
      (pe_one (pe_cmpR (op_eqG (rcG_tup (mon_tup mon_memD) (eqG_tup mon_memD (EqG.or (eqG_flat.mono (Nat.zero_le _)) (eqG_ins (E := E0) ih he hf b pass0)))) hr) (pe_fld (pv 0) rfl) (pe_fld (pv 1) rfl) (nomark _))))))), ?_⟩
    refine ⟨.ref y, rfl, y, dy, _, rfl, hy, true, rfl, iteT ?_⟩
    refine ⟨.ref x, rfl, x, C, dx, _, _, rfl, hx, Z.cl, Z.nK, eflds_kind _ _ _, .ref y, rfl, y, C, dy, _, _, rfl, hy, Z.cl, Z.nK, eflds_kind _ _ _, rfl, _, rfl, ifT (decide_eq_true rfl) ?_⟩
    refine ⟨.ref x, rfl, x, C, dx, _, _, rfl, hx, Z.cl, Z.nA, eflds_atom _ _ _, .ref y, rfl, y, C, dy, _, _, rfl, hy, Z.cl, Z.nA, eflds_atom _ _ _, ?_⟩
    have last : ∀ H', L2.Ext H H' → tOp (rEqG (DTup K (DTup K (memD C G n)))) (tFld K (tVar 0) "members") (tFld K (tVar 1) "members") (start ["self", "other"] [.ref x, .ref y]) H' Q := fun H' x' => by
      refine ⟨.ref x, rfl, x, C, dx, _, _, rfl, x' _ _ hx, Z.cl, Z.nM, eflds_mem _ _ _, .ref y, rfl, y, C, dy, _, _, rfl, x' _ _ hy, Z.cl, Z.nM, eflds_mem _ _ _, ⟨t, u, xs, ys, rfl, rfl, ?_, ?_, Prs.mon (mon_tup mon_memD) x' prs⟩, fun H2 x2 => k H2 (Ext.trans x' x2)⟩
      · obtain ⟨o, _, z⟩ := ht; exact .inl (.inr ⟨o, x' _ _ z⟩)
      · obtain ⟨o, _, z⟩ := hu; exact .inl (.inr ⟨o, x' _ _ z⟩)
    rcases hat with ⟨sc, rfl⟩ | ⟨p, q, zs, rfl, rfl, hp, hq, hz⟩
    · exact .inl ⟨sc_scal sc, _, rfl, ifT (decide_eq_true rfl) (last H Ext.rfl')⟩
    · exact .inr ⟨⟨p, q, zs, zs, rfl, rfl, .inl (.inl hp), .inl (.inl hq), prs_of rfl fun i z z' h h' => by
        rw [h] at h'
        cases h'
        have := eq_sc (hz z (List.mem_of_getElem? h))
        exact ⟨this.1, this.1, this.2⟩⟩, fun H' x' => ⟨true, rfl, iteT (last H' x')⟩⟩
end
end TP

namespace TP
open PySem PySem.Spec PyProof.Rows L2
/-! ### != of objects whose class has its own == alone -/
/-- the class, as the heap holds it -/
def ClsNe (h : Heap) (C f : Addr) : Prop := ∃ of nm q N bs hdct sn sub ab col dd k0 k1 k2 k3 k5 newId mN, h.get? C = some (excClassObj nm q C N bs [.type "object"] hdct sn sub ab col dd k0 k1 k2 k3 k5 newId) ∧ h.Ns N mN ∧ mN "__eq__" = some (.ref f) ∧ h.get? f = some of ∧ of.cls = .type "function" ∧ mN "__ne__" = none
def isStrV : Value → Bool
  | .str _ _ => true
  | _ => false
theorem strKeys_of {es : Array DictEntry} (h : (es.toList.all fun e => isStrV e.key) = true) : StrKeys es := fun e he => by
  have := List.all_eq_true.mp h e (Array.mem_toList_iff.mpr he)
  cases hk : e.key with
  | str n t => exact ⟨n, t, rfl⟩
  | _ => rw [hk] at this; cases this
theorem clsNe_of {K : PySem.W.Frag} {h : Heap} {C f N : Addr} {of : Obj} {nm q : Str} {bs : List Value} {hdct : Bool} {sn : List Str} {sub : List Value} {ab : Bool} {col : Option Bool} {dd dN : Option Addr} {k0 k1 k2 k3 k5 : Option Value} {newId : String} {cN : Value} {es : Array DictEntry} {ep : Nat} {slN : Array (Option Value)}
    (X : K.In h) (lC : K.lookup C = some (excClassObj nm q C N bs [.type "object"] hdct sn sub ab col dd k0 k1 k2 k3 k5 newId)) (lN : K.lookup N = some ⟨cN, dN, .dict es ep, slN⟩) (sk : (es.toList.all fun e => isStrV e.key) = true) (e1 : nsFind es "__eq__" = some (.ref f)) (lf : K.lookup f = some of) (cf : of.cls = .type "function") (e2 : nsFind es "__ne__" = none) : ClsNe h C f :=
  ⟨of, nm, q, N, bs, hdct, sn, sub, ab, col, dd, k0, k1, k2, k3, k5, newId, nsFind es, X _ _ lC, ⟨_, es, ep, X _ _ lN, rfl, strKeys_of sk, fun _ => rfl⟩, e1, X _ _ lf, cf, e2⟩
def rNeOwn (C : Addr) (R : Addr → Addr → Hp → Prop) : R2 := fun x y H Q => ∃ a b dx dy fs gs, x = .ref a ∧ y = .ref b ∧ H a = some (.ins C dx fs) ∧ H b = some (.ins C dy gs) ∧ R a b H ∧ ∀ H', L2.Ext H H' → Q (.bl false) H'
theorem op_neOwn {X : Cx} {CX : CXT} {k : Nat} {f C : Addr} {fd : FuncData} {R : Addr → Addr → Hp → Prop} {E : XK} {ps : List Str}
    (G : FnOk X.prog X.w X.K X.mg X.base CX k f fd ps (spEq R)) (hr : Room (k + 1) X.A) (b : Binds X.K fd ps []) (px : Passes CX X E) (N : ∀ h : Heap, X.K.In h → ClsNe h C f) : OpR X (compareOp .NotEq) (rNeOwn C R) := by
  intro pins s σ H x y v u Q I rx ry h
  obtain ⟨a, c, dx, dy, fs, gs, rfl, rfl, ha, hc, hR, hq⟩ := h
  cases (show v = Value.ref a from rx)
  cases (show u = Value.ref c from ry)
  obtain ⟨oa, ia⟩ := inst_at I ha
  obtain ⟨oc, ic⟩ := inst_at I hc
  obtain ⟨of, nm, q, Na, bs, hdct, sn, sub, ab, col, dd, k0, k1, k2, k3, k5, newId, mN, n1, n2, n3, n4, n5, n6⟩ := N _ I.kIn
  have hr1 : Room k X.A.in1 := (Sub.in1 (X := X) ⟨hr, rfl⟩).room
  have own : s.heap.OwnEqNoNe a C f "object" [.type "object"] := ⟨_, of, nm, q, Na, bs, hdct, sn, sub, ab, col, dd, k0, k1, k2, k3, k5, newId, mN, some (.builtin "object.__eq__"), ia.at_, ia.cls, n1, n2, n3, n4, n5, rfl, rfl, n6⟩
  refine PySem.compareOp_ne_ownEq PySem.F.cmp_object own ic.at_ ic.cls (by have := hr.un; omega) ?_
  have hs : spEq R [.ref a, .ref c] H (fun v H' => v = .bl true ∧ L2.Ext H H') E := ⟨a, c, rfl, hR, fun H' x => ⟨rfl, x⟩⟩
  have e0 := I.env0
  refine PySem.wpAny_call (PySem.codeAny_mono (G.run X.A.in1 X.stack s H ⟨[.ref a, .ref c], []⟩ [.ref a, .ref c] [.ref a, .ref c] _ E hr1 ⟨e0.frames, e0.mod, e0.bs, e0.bsz, e0.funs, e0.frf, e0.hok, e0.bare⟩ ?_ (.cons rx (.cons ry .nil)) hs) ?_)
  · have := G.len _ _ _ _ hs
    exact b s [.ref a, .ref c] I.kIn (by simpa using this)
  · rintro r s2 h
    match r, h with
    | .ok (.ret u), h =>
      obtain ⟨v2, H2, I2, rv, hv, x⟩ := I.after h
      subst hv
      cases (show u = Value.bool true from rv)
      exact ⟨true, rfl, .bl false, H2, I2, rfl, hq H2 x⟩
    | .error e, h => exact px pins σ H _ e s2 I h
    | .ok .next, h => exact h.elim
    | .ok .brk, h => exact h.elim
    | .ok .cont, h => exact h.elim
end TP

namespace TP
open PySem PySem.Spec PyProof.Rows L2
/-! ### patches along a path, as mathematics -/
def oneD (k : Str) (d : D) : D := .ob fun j => if j = k then d else .nil
def nestD : List Str → D → D
  | [], d => d
  | k :: ks, d => oneD k (nestD ks d)
def oneE (k : Str) (e : Ef) : Str → Ef := fun j => if j = k then e else .no
def nestE : List Str → Ef → Ef
  | [], e => e
  | k :: ks, e => .merge (oneE k (nestE ks e))
/-- the effect of a member -/
def pem (d : D) : Ef := if d.isNon then .drop else pef d
theorem nest_nil {d : D} (h : d.isNil = false) : ∀ ks, (nestD ks d).isNil = false
  | [] => h
  | _ :: _ => rfl
theorem pem_no (d : D) : (pem d).isNo = false := by
  unfold pem
  split
  · rfl
  · exact no_pef d
theorem nestE_no {e : Ef} (h : e.isNo = false) : ∀ ks, (nestE ks e).isNo = false
  | [] => h
  | _ :: _ => rfl
theorem pef_one {k : Str} {d : D} (h : d.isNil = false) : pef (oneD k d) = .merge (oneE k (pem d)) := by
  show Ef.merge _ = _
  congr 1
  funext j
  by_cases c : j = k
  · simp [oneE, c, h, pem]
  · simp [oneE, c, D.isNil]
theorem pef_nest {d : D} (h : d.isNil = false) : ∀ (k : Str) (ks : List Str), pef (nestD (k :: ks) d) = nestE (k :: ks) (pem d)
  | k, [] => pef_one h
  | k, j :: ks => by
    have ih := pef_nest h j ks
    show pef (oneD k (nestD (j :: ks) d)) = _
    rw [pef_one (nest_nil h _)]
    show Ef.merge (oneE k (pem (oneD j (nestD ks d)))) = Ef.merge (oneE k _)
    rw [← ih]
    rfl
theorem fol_one {k : Str} {e m : Ef} (h1 : e.isNo = false) (h2 : m.isNo = false) : (Ef.merge (oneE k e)).fol (.merge (oneE k m)) = .merge (oneE k (e.fol m)) := by
  show Ef.merge _ = _
  congr 1
  funext j
  by_cases c : j = k
  · simp [oneE, c, h1, h2]
  · simp [oneE, c, Ef.isNo]
theorem nest_fol {e m : Ef} (h1 : e.isNo = false) (h2 : m.isNo = false) : ∀ ks, (nestE ks e).fol (nestE ks m) = nestE ks (e.fol m)
  | [] => rfl
  | k :: ks => by
    show (Ef.merge (oneE k (nestE ks e))).fol (.merge (oneE k (nestE ks m))) = _
    rw [fol_one (nestE_no h1 ks) (nestE_no h2 ks), nest_fol h1 h2 ks]
    rfl
def folds (e : Ef) (ds : List D) : Ef := ds.foldl (fun e d => e.fol (pem d)) e
theorem folds_nest (k : Str) (ks : List Str) : ∀ (ds : List D) (e : Ef), e.isNo = false → (∀ d ∈ ds, d.isNil = false) → (ds.map (nestD (k :: ks))).foldl (fun e p => e.fol (pef p)) (nestE (k :: ks) e) = nestE (k :: ks) (folds e ds)
  | [], _, _, _ => rfl
  | d :: ds, e, he, h => by
    rw [List.map_cons, List.foldl_cons, pef_nest (h d List.mem_cons_self), nest_fol he (pem_no d)]
    exact folds_nest k ks ds _ (fol_no he (pem_no d)) fun x hx => h x (List.mem_cons_of_mem _ hx)
theorem row_nest (k : Str) (ks : List Str) (d : D) (ds : List D) (h : ∀ x ∈ d :: ds, x.isNil = false) : rowE ((d :: ds).map (nestD (k :: ks))) = nestE (k :: ks) (folds (pem d) ds) := by
  unfold rowE
  rw [List.map_cons, List.foldl_cons, pef_nest (h d List.mem_cons_self)]
  show List.foldl _ ((Ef.keep).fol (.merge _)) _ = _
  exact folds_nest k ks ds _ (pem_no d) fun x hx => h x (List.mem_cons_of_mem _ hx)
theorem row_twice (k : Str) (ks : List Str) (d : D) (ds : List D) (h : ∀ x ∈ d :: ds, x.isNil = false) {e : Ef} (h1 : folds (pem d) ds = e) (h2 : folds e (d :: ds) = e) : rowE ((d :: ds).map (nestD (k :: ks))) = nestE (k :: ks) e ∧ rowE ((d :: ds).map (nestD (k :: ks)) ++ (d :: ds).map (nestD (k :: ks))) = nestE (k :: ks) e := by
  refine ⟨by rw [row_nest k ks d ds h, h1], ?_⟩
  rw [← List.map_append, List.cons_append, row_nest k ks d (ds ++ d :: ds) (fun x hx => by
    rcases List.mem_cons.mp hx with z | z
    · exact h x (by rw [z]; exact List.mem_cons_self)
    · rcases List.mem_append.mp z with z | z
      · exact h x (List.mem_cons_of_mem _ z)
      · exact h x z)]
  congr 1
  show folds (pem d) (ds ++ d :: ds) = e
  unfold folds at h1 h2 ⊢
  rw [List.foldl_append, h1]
  exact h2
/-! ### the trees -/
def twoE (x : Str) (e : Ef) (y : Str) (m : Ef) : Str → Ef := fun j => if j = x then e else if j = y then m else .no
def noE : Str → Ef := fun _ => .no
def At (d : D) : Prop := d.isNil = false ∧ d.isNon = false ∧ d.isOb = false
theorem pem_at {d : D} (h : At d) : pem d = .set d := by
  unfold pem
  rw [h.2.1]
  cases d with
  | ob f => cases h.2.2
  | _ => rfl
theorem pem_x {k : Str} {d : D} (h : At d) : pem (oneD k d) = .merge (oneE k (.set d)) := by
  show pef (oneD k d) = _
  rw [pef_one h.1, pem_at h]
theorem pem_xn {k : Str} : pem (oneD k (.sc .non)) = .merge (oneE k .drop) := by
  show pef (oneD k (.sc .non)) = _
  rw [pef_one rfl]
  rfl
theorem pem_e : pem (.ob fun _ => .nil) = .merge noE := rfl
/-- what is gone: a drop or a set -/
def Gone (e : Ef) : Prop := e = .drop ∨ ∃ d, e = .set d
theorem gone_pem {d : D} (h : d.isOb = false) : Gone (pem d) := by
  unfold pem
  cases d with
  | ob f => cases h
  | nil => exact .inr ⟨_, rfl⟩
  | ls xs => exact .inr ⟨_, rfl⟩
  | sc v =>
    by_cases c : (D.sc v).isNon = true
    · rw [if_pos c]; exact .inl rfl
    · rw [if_neg c]; exact .inr ⟨_, rfl⟩
section
variable {x y : Str} {A B : D}
theorem f_xy (hxy : x ≠ y) : (Ef.merge (oneE x (.set A))).fol (.merge (oneE y (.set B))) = .merge (twoE x (.set A) y (.set B)) := by
  show Ef.merge _ = Ef.merge _
  congr 1; funext j
  by_cases c1 : j = x
  · subst c1; simp [oneE, twoE, hxy, Ef.isNo]
  · by_cases c2 : j = y
    · subst c2; simp [oneE, twoE, c1, Ef.isNo]
    · simp [oneE, twoE, c1, c2, Ef.isNo]
theorem f_two_x (hxy : x ≠ y) {e : Ef} (he : e.isNo = false) (hk : (Ef.set A).fol e = e) : (Ef.merge (twoE x (.set A) y (.set B))).fol (.merge (oneE x e)) = .merge (twoE x e y (.set B)) := by
  refine congrArg Ef.merge (funext fun j => ?_)
  have z : (Ef.set A).isNo = false := rfl
  by_cases c1 : j = x
  · subst c1
    simp only [oneE, twoE, if_true, he, z, hk, Bool.false_eq_true, if_false]
  · by_cases c2 : j = y
    · subst c2; simp [oneE, twoE, c1, Ef.isNo]
    · simp [oneE, twoE, c1, c2, Ef.isNo]
theorem f_drop_x (hxy : x ≠ y) : (Ef.merge (twoE x .drop y (.set B))).fol (.merge (oneE x (.set A))) = .merge (twoE x (.set A) y (.set B)) := by
  show Ef.merge _ = Ef.merge _
  congr 1; funext j
  by_cases c1 : j = x
  · subst c1; simp [oneE, twoE, Ef.isNo, Ef.fol]
  · by_cases c2 : j = y
    · subst c2; simp [oneE, twoE, c1, Ef.isNo]
    · simp [oneE, twoE, c1, c2, Ef.isNo]
theorem f_two_y (hxy : x ≠ y) {e : Ef} (he : e.isNo = false) : (Ef.merge (twoE x e y (.set B))).fol (.merge (oneE y (.set B))) = .merge (twoE x e y (.set B)) := by
  show Ef.merge _ = Ef.merge _
  congr 1; funext j
  by_cases c1 : j = x
  · subst c1; simp [oneE, twoE, hxy, Ef.isNo]
  · by_cases c2 : j = y
    · subst c2; simp [oneE, twoE, c1, Ef.isNo, Ef.fol]
    · simp [oneE, twoE, c1, c2, Ef.isNo]
theorem f_gone (e : Ef) {m : Ef} (hm : Gone m) : e.fol m = m := by
  rcases hm with rfl | ⟨d, rfl⟩ <;> cases e <;> rfl
theorem f_set (e : Ef) (d : D) : e.fol (.set d) = .set d := by cases e <;> rfl
theorem f_gone_x {m : Ef} (hm : Gone m) : m.fol (.merge (oneE x (.set A))) = .build (oneE x (.set A)) := by
  rcases hm with rfl | ⟨d, rfl⟩
  all_goals
    show Ef.build _ = Ef.build _
    congr 1; funext j
    by_cases c1 : j = x
    · subst c1; simp [oneE, Ef.isNo, Ef.mem, Ef.fol, Ef.isDrop]
    · simp [oneE, c1, Ef.isNo, Ef.mem]
theorem f_build_y (hxy : x ≠ y) : (Ef.build (oneE x (.set A))).fol (.merge (oneE y (.set B))) = .build (twoE x (.set A) y (.set B)) := by
  show Ef.build _ = Ef.build _
  congr 1; funext j
  by_cases c1 : j = x
  · subst c1; simp [oneE, twoE, hxy, Ef.isNo, Ef.mem]
  · by_cases c2 : j = y
    · subst c2; simp [oneE, twoE, c1, Ef.isNo, Ef.mem, Ef.fol, Ef.isDrop]
    · simp [oneE, twoE, c1, c2, Ef.isNo, Ef.mem]
theorem f_build_dx (hxy : x ≠ y) : (Ef.build (twoE x (.set A) y (.set B))).fol (.merge (oneE x .drop)) = .build (oneE y (.set B)) := by
  show Ef.build _ = Ef.build _
  congr 1; funext j
  by_cases c1 : j = x
  · subst c1; simp [oneE, twoE, hxy, Ef.isNo, Ef.mem, Ef.fol, Ef.isDrop]
  · by_cases c2 : j = y
    · subst c2; simp [oneE, twoE, c1, Ef.isNo, Ef.mem]
    · simp [oneE, twoE, c1, c2, Ef.isNo, Ef.mem]
theorem f_build_x1 (hxy : x ≠ y) : (Ef.build (oneE y (.set B))).fol (.merge (oneE x (.set A))) = .build (twoE x (.set A) y (.set B)) := by
  show Ef.build _ = Ef.build _
  congr 1; funext j
  by_cases c1 : j = x
  · subst c1; simp [oneE, twoE, hxy, Ef.isNo, Ef.mem, Ef.fol, Ef.isDrop]
  · by_cases c2 : j = y
    · subst c2; simp [oneE, twoE, c1, Ef.isNo, Ef.mem]
    · simp [oneE, twoE, c1, c2, Ef.isNo, Ef.mem]
theorem f_build_y2 (hxy : x ≠ y) : (Ef.build (twoE x (.set A) y (.set B))).fol (.merge (oneE y (.set B))) = .build (twoE x (.set A) y (.set B)) := by
  show Ef.build _ = Ef.build _
  congr 1; funext j
  by_cases c1 : j = x
  · subst c1; simp [oneE, twoE, hxy, Ef.isNo, Ef.mem]
  · by_cases c2 : j = y
    · subst c2; simp [oneE, twoE, c1, Ef.isNo, Ef.mem, Ef.fol, Ef.isDrop]
    · simp [oneE, twoE, c1, c2, Ef.isNo, Ef.mem]
theorem f_gone_e {m : Ef} (hm : Gone m) : m.fol (.merge noE) = .build noE := by
  rcases hm with rfl | ⟨d, rfl⟩
  · exact congrArg Ef.build (funext fun j => by simp [noE, Ef.isNo, Ef.mem])
  · exact congrArg Ef.build (funext fun j => by simp [noE, Ef.isNo, Ef.mem])
theorem f_ee : (Ef.merge noE).fol (.merge noE) = .merge noE := congrArg Ef.merge (funext fun j => by simp [noE, Ef.isNo])
/-! the rows -/
variable (hA : At A) (hB : At B) {Gd : D} (hG : Gd.isOb = false)
include hA hB
theorem rw_c1 (hxy : x ≠ y) : folds (pem (oneD x A)) [oneD y B] = .merge (twoE x (.set A) y (.set B)) ∧ folds (.merge (twoE x (.set A) y (.set B))) [oneD x A, oneD y B] = .merge (twoE x (.set A) y (.set B)) := by
  simp only [folds, List.foldl_cons, List.foldl_nil, pem_x hA, pem_x hB, f_xy hxy, f_two_x hxy rfl (f_set _ _), f_two_y (e := .set A) hxy rfl, and_self]
include hG
theorem rw_c2 (hxy : x ≠ y) : folds (pem (oneD x A)) [Gd, oneD y B] = .build (oneE y (.set B)) ∧ folds (.build (oneE y (.set B))) [oneD x A, Gd, oneD y B] = .build (oneE y (.set B)) := by
  simp only [folds, List.foldl_cons, List.foldl_nil, pem_x hA, pem_x hB, f_gone _ (gone_pem hG), f_gone_x (gone_pem hG), and_self]
theorem rw_c3 (hxy : x ≠ y) : folds (pem Gd) [oneD x A, oneD y B] = .build (twoE x (.set A) y (.set B)) ∧ folds (.build (twoE x (.set A) y (.set B))) [Gd, oneD x A, oneD y B] = .build (twoE x (.set A) y (.set B)) := by
  simp only [folds, List.foldl_cons, List.foldl_nil, pem_x hA, pem_x hB, f_gone _ (gone_pem hG), f_gone_x (gone_pem hG), f_build_y hxy, and_self]
omit hG in
theorem rw_c4 (hxy : x ≠ y) : folds (pem (oneD x A)) [oneD y B, oneD x (.sc .non)] = .merge (twoE x .drop y (.set B)) ∧ folds (.merge (twoE x .drop y (.set B))) [oneD x A, oneD y B, oneD x (.sc .non)] = .merge (twoE x .drop y (.set B)) := by
  simp only [folds, List.foldl_cons, List.foldl_nil, pem_x hA, pem_x hB, pem_xn, f_xy hxy, f_drop_x hxy, f_two_y (e := .set A) hxy rfl, f_two_x hxy (e := .drop) rfl rfl, and_self]
theorem rw_c5 (hxy : x ≠ y) : folds (pem Gd) [oneD x A, oneD y B, oneD x (.sc .non)] = .build (oneE y (.set B)) ∧ folds (.build (oneE y (.set B))) [Gd, oneD x A, oneD y B, oneD x (.sc .non)] = .build (oneE y (.set B)) := by
  simp only [folds, List.foldl_cons, List.foldl_nil, pem_x hA, pem_x hB, pem_xn, f_gone _ (gone_pem hG), f_gone_x (gone_pem hG), f_build_y hxy, f_build_dx hxy, and_self]
omit hB hG in
theorem rw_c6 : folds (pem (oneD x A)) [.sc .non] = .drop ∧ folds .drop [oneD x A, .sc .non] = .drop := by
  have : pem (.sc .non) = .drop := rfl
  simp only [folds, List.foldl_cons, List.foldl_nil, pem_x hA, this, f_gone _ (.inl rfl : Gone .drop), and_self]
omit hA hB hG in
theorem rw_c7 : folds (pem (.ob fun _ => .nil)) [] = .merge noE ∧ folds (.merge noE) [.ob fun _ => .nil] = .merge noE := by
  simp only [folds, List.foldl_cons, List.foldl_nil, pem_e, f_ee, and_self]
omit hA hB in
theorem rw_c8 : folds (pem Gd) [.ob fun _ => .nil] = .build noE ∧ folds (.build noE) [Gd, .ob fun _ => .nil] = .build noE := by
  simp only [folds, List.foldl_cons, List.foldl_nil, pem_e, f_gone _ (gone_pem hG), f_gone_e (gone_pem hG), and_self]
end
/-! the rows without a path -/
theorem rw_c9 (p : D) : rowE [p, .sc .non] = .set (.sc .non) ∧ rowE ([p, .sc .non] ++ [p, .sc .non]) = .set (.sc .non) := by
  constructor
  · show ((Ef.keep.fol (pef p)).fol (.set (.sc .non))) = _
    exact f_set _ _
  · show (((((Ef.keep.fol (pef p)).fol (.set (.sc .non)))).fol (pef p)).fol (.set (.sc .non))) = _
    exact f_set _ _
theorem rw_c10 {x : Str} {A : D} (hA : At A) : rowE [.sc .non, oneD x A] = .build (oneE x (.set A)) ∧ rowE ([.sc .non, oneD x A] ++ [.sc .non, oneD x A]) = .build (oneE x (.set A)) := by
  have p1 : pef (oneD x A) = .merge (oneE x (.set A)) := pem_x hA
  constructor
  · show ((Ef.keep.fol (.set (.sc .non))).fol (pef (oneD x A))) = _
    rw [p1, f_set]
    exact f_gone_x (.inr ⟨_, rfl⟩)
  · show (((((Ef.keep.fol (.set (.sc .non))).fol (pef (oneD x A)))).fol (.set (.sc .non))).fol (pef (oneD x A))) = _
    rw [p1, f_set]
    exact f_gone_x (.inr ⟨_, rfl⟩)
theorem rw_c11 {x y : Str} {p : D} : rowE [p, .sc (.int 3), oneD x (oneD y (.sc .non))] = .build (oneE x (.build noE)) ∧ rowE ([p, .sc (.int 3), oneD x (oneD y (.sc .non))] ++ [p, .sc (.int 3), oneD x (oneD y (.sc .non))]) = .build (oneE x (.build noE)) := by
  have p1 : pef (oneD x (oneD y (.sc .non))) = .merge (oneE x (.merge (oneE y .drop))) := by
    rw [pef_one rfl]
    show Ef.merge (oneE x (pem (oneD y (.sc .non)))) = _
    rw [pem_xn]
  have p2 : (Ef.set (.sc (.int 3))).fol (.merge (oneE x (.merge (oneE y .drop)))) = .build (oneE x (.build noE)) := by
    show Ef.build _ = Ef.build _
    congr 1; funext j
    by_cases c1 : j = x
    · subst c1
      have : (Ef.drop).fol (.merge (oneE y .drop)) = .build noE := by
        show Ef.build _ = Ef.build _
        congr 1; funext i
        by_cases c2 : i = y
        · subst c2; simp [oneE, noE, Ef.isNo, Ef.mem, Ef.fol, Ef.isDrop]
        · simp [oneE, noE, c2, Ef.isNo, Ef.mem]
      simp only [oneE, if_true, Ef.isNo, Ef.mem, this, Ef.isDrop, Bool.false_eq_true, if_false]
    · simp [oneE, c1, Ef.isNo, Ef.mem]
  constructor
  · show ((Ef.keep.fol (pef p)).fol (.set (.sc (.int 3)))).fol (pef (oneD x (oneD y (.sc .non)))) = _
    rw [p1, f_set, p2]
  · show (((((Ef.keep.fol (pef p)).fol (.set (.sc (.int 3)))).fol (pef (oneD x (oneD y (.sc .non))))).fol (pef p)).fol (.set (.sc (.int 3)))).fol (pef (oneD x (oneD y (.sc .non)))) = _
    rw [p1, f_set, p2]
end TP

namespace TP
open PySem PySem.Spec PyProof.Rows L2
abbrev sNested : Stmt := topS 30
abbrev sMerging : Stmt := topS 31
abbrev sLBuilt : Stmt := topS 32
theorem mem_one {S : Addr → Prop} {G : Gen} {H : Hp} {n : Nat} {k : Str} {v : V} {d : D} (hk : k ∈ G.KS) (h : Dc S G H n v d) : Mem S G H n [(k, v)] (fun j => if j = k then d else .nil) := by
  refine ⟨by simp, fun j hj => by simp at hj; rw [hj]; exact hk, fun j hj => ?_, fun j u hu => ?_⟩
  · by_cases c : j = k
    · rw [c, valV_pos (p := (k, v)) rfl] at hj; cases hj
    · exact if_neg c
  · by_cases c : j = k
    · rw [c, valV_pos (p := (k, v)) rfl] at hu
      cases hu
      show Dc S G H n v (if j = k then d else .nil)
      rw [if_pos c]
      exact h
    · rw [valV_neg (p := (k, v)) (fun z => c z.symm)] at hu
      cases hu
theorem dc_one {S : Addr → Prop} {G : Gen} {H : Hp} {n : Nat} {k : Str} {v : V} {d : D} {p : Addr} (hk : k ∈ G.KS) (hp : S p) (hH : H p = some (.dK (mergeK [] [(Sum.inr k, v)]))) (h : Dc S G H n v d) : Dc S G H (n + 1) (.ref p) (oneD k d) := Dc.ob (ms := [(k, v)]) hp hH (mem_one hk h)
/-! ### _law_nested -/
def spNested [TabL] (G : Gen) (n : Nat) : Sp := fun vs H Q _ => ∃ (S : Addr → Prop) (a : Addr) (v : V) (ks : List Str) (d : D), vs = [.ref a, v] ∧ H a = some (.lst (ks.map V.str)) ∧ (∀ k ∈ ks, k ∈ G.KS) ∧ ks.length ≤ 1000 ∧ Dc S G H n v d ∧ ∀ r H', Ex H H' → Dc (fun x => S x ∨ H x = none) G H' (n + ks.length) r (nestD ks d) → Q r H'
abbrev nNested : List Str := ["_law_path", "_law_inner", "_law_key"]
theorem scNested : FnScope nNested ["_law_path", "_law_inner"] (defScope sNested) := ⟨rfl, rfl, rfl, by decide +kernel, rfl, by decide +kernel, by decide +kernel⟩
section
variable [TabL] {P : Program} {w : World} {K : PySem.W.Frag} {mg : Str → Option Value} {base : Heap}
theorem rev_at {ks : List Str} {i : Nat} {x : V} (h : (ks.map V.str).reverse[i]? = some x) : ∃ k, ks.reverse[i]? = some k ∧ x = .str k := by
  rw [← List.map_reverse, List.getElem?_map] at h
  obtain ⟨k, h1, h2⟩ := Option.map_eq_some_iff.mp h
  exact ⟨k, h1, h2.symm⟩
theorem rev_step {ks : List Str} {i : Nat} {k : Str} (h : ks.reverse[i]? = some k) : (ks.reverse.take (i + 1)).reverse = k :: (ks.reverse.take i).reverse := by
  rw [List.take_add_one, h, Option.toList_some, List.reverse_append]
  rfl
theorem rev_all {ks : List Str} : (ks.reverse.take (ks.map V.str).reverse.length).reverse = ks := by
  rw [List.length_reverse, List.length_map, ← List.length_reverse, List.take_length, List.reverse_reverse]
theorem ok_nested {G : Gen} {n k : Nat} {f : Addr} {fd : FuncData} (Dd : Df K mg "_law_nested" sNested ["_law_path", "_law_inner"] f fd) : FnOk P w K mg base CX0 (k + 1) f fd ["_law_path", "_law_inner"] (spNested G n) := by
  refine Dd.F.ok scNested (fun vs H Q E h => ?_) (fun cdv A outer s H vs Q E hr h => ?_)
  · obtain ⟨_, a, v, ks, d, rfl, _⟩ := h
    rfl
  obtain ⟨S, a, v, ks, d, rfl, ha, hks, hl, hv, kq⟩ := h
  refine ⟨_, pss_cons (ps_for PassesOwn.never rfl (pi_list (pe_revL (pv 0))) (pg_name (i := 2) scNested.nd rfl (Or.inl rfl)) (pss_one (ps_set (i := 1) scNested.nd rfl (Or.inl rfl) (pe_disp (pps_cons (pv 2) (pv 1) pps_nil) (by rfl) (by rfl) (fun z => by cases z) (by decide)))))
    (pss_one (ps_ret (pv 1))), ?_⟩
  refine ⟨_, rfl, a, _, rfl, .inl (.inl ha), fun pr hpr => ⟨pr, rfl, ⟨_, .inl (.inl upd_same)⟩, ?_⟩⟩
  refine for_list (K := K) (a := pr) (xs := (ks.map V.str).reverse) (fun i σ H5 => ∃ z, (∃ x, σ = [some (.ref a), some z, x]) ∧ Ex (upd H pr (.lst (ks.map V.str).reverse)) H5 ∧ Dc (fun x => S x ∨ H x = none) G H5 (n + i) z (nestD (ks.reverse.take i).reverse d)) ⟨v, ⟨_, rfl⟩, Ex.refl _, (hv.ex (Ex.new hpr)).imp fun b hb => .inl hb⟩ (fun i σ H5 _ ⟨_, _, e, _⟩ => .inl (.inl (e _ _ upd_same))) (fun i y σ H5 hi q => ?_) fun σ H5 q => ?_
  · obtain ⟨z, ⟨x, rfl⟩, e5, h5⟩ := q
    obtain ⟨key, hk, rfl⟩ := rev_at hi
    refine fun p hp => ⟨_, rfl, _, rfl, upd_same, [(Sum.inr key, z)], rfl, (by show 1 ≤ 15; decide), ?_⟩
    have e6 : Ex H5 (upd (upd H5 p (.dK [])) p (.dK (mergeK [] [(Sum.inr key, z)]))) := (Ex.new hp).mut hp upd_same
    refine ⟨_, ⟨_, rfl⟩, e5.trans e6, ?_⟩
    rw [rev_step hk]
    exact dc_one (hks key (List.mem_reverse.mp (List.mem_of_getElem? hk))) (.inr (fresh_back (Ex.new hpr) (fresh_back e5 hp))) upd_same (h5.ex e6)
  · obtain ⟨z, ⟨x, rfl⟩, e5, h5⟩ := q
    rw [rev_all, List.length_reverse, List.length_map] at h5
    exact ⟨z, rfl, kq z H5 ((Ex.new hpr).trans e5) h5⟩
/-! ### effects by hand -/
theorem mk_node {C Pt : Addr} {G : Gen} {H1 : Hp} {kd : Str} {ma : Addr} {S : Addr → Prop} {n : Nat} {bs : List Bs} {f : Str → Ef} (hN : G.C .non = true) (hR : TabL.R Pt qLam)
    (hma : H1 ma = some (.lst (bs.map fun b => V.ref b.1)) ∨ H1 ma = some (.tup (bs.map fun b => V.ref b.1))) (hbs : BsAt (fun _ => True) H1 bs) (hl : bs.length ≤ 5000) (tb : LamX.TabS H1 Pt qLam)
    (nd : (bs.map fun b => b.2.1).Nodup) (ks : ∀ b ∈ bs, b.2.1 ∈ G.KS) (no : ∀ k, k ∉ bs.map (fun b => b.2.1) → f k = .no) (hm : ∀ b ∈ bs, Ec C S G H1 n b.2.2 (f b.2.1))
    (x dx : Addr) (nx : H1 x = none) (ndx : H1 dx = none) (ne : dx ≠ x) : spInit C Pt G (.ref x :: ([.str kd, .non, .ref ma] ++ [])) (upd (upd H1 dx (.own x)) x (.ins C dx []))
      (fun v H2 => v = .non ∧ Ex H1 H2 ∧ ((kd = "merge" → Ec C (fun b => H1 b = none ∨ S b) G H2 (n + 1) (.ref x) (.merge f)) ∧ (kd = "build" → Ec C (fun b => H1 b = none ∨ S b) G H2 (n + 1) (.ref x) (.build f)))) E0 := by
  refine spInit_mono (made (Q := fun z H2 => ∃ y, z = .ref y ∧ Made C G H1 H2 kd (.sc .non) bs y) (S := fun _ => False) (n := 0) (d := .sc .non) (Dc.sc hN) rfl rfl hma hbs hl tb hR (fun x H6 M => ⟨x, rfl, M⟩) x dx nx ndx ne) ?_
  rintro _ H3 ⟨rfl, y, hy, M⟩
  cases hy
  exact ⟨rfl, M.ex, M.node nd ks no hm⟩
theorem mk_drop {C Pt : Addr} {G : Gen} {H1 : Hp} {ma : Addr} (n : Nat) (hN : G.C .non = true) (hR : TabL.R Pt qLam) (hma : H1 ma = some (.lst []) ∨ H1 ma = some (.tup [])) (tb : LamX.TabS H1 Pt qLam)
    (x dx : Addr) (nx : H1 x = none) (ndx : H1 dx = none) (ne : dx ≠ x) : spInit C Pt G (.ref x :: ([.str "drop", .non, .ref ma] ++ [])) (upd (upd H1 dx (.own x)) x (.ins C dx []))
      (fun v H2 => v = .non ∧ Ex H1 H2 ∧ Ec C (fun b => H1 b = none) G H2 (n + 1) (.ref x) .drop) E0 := by
  refine spInit_mono (made (Q := fun z H2 => ∃ y, z = .ref y ∧ Made C G H1 H2 "drop" (.sc .non) [] y) (S := fun _ => False) (n := 0) (d := .sc .non) (bs := []) (Dc.sc hN) rfl rfl hma (fun b hb => nomatch hb) (Nat.zero_le _) tb hR (fun x H6 M => ⟨x, rfl, M⟩) x dx nx ndx ne) ?_
  rintro _ H3 ⟨rfl, y, hy, M⟩
  cases hy
  exact ⟨rfl, M.ex, M.drop n⟩
theorem mk_set {C Pt : Addr} {G : Gen} {H1 : Hp} {ma : Addr} {m : Nat} {av : V} {d : D} {S : Addr → Prop} (n : Nat) (hv : Dc S G H1 (m + 1) av d) (nob : d.isOb = false) (hR : TabL.R Pt qLam) (hma : H1 ma = some (.lst []) ∨ H1 ma = some (.tup [])) (tb : LamX.TabS H1 Pt qLam)
    (x dx : Addr) (nx : H1 x = none) (ndx : H1 dx = none) (ne : dx ≠ x) : spInit C Pt G (.ref x :: ([.str "set", av, .ref ma] ++ [])) (upd (upd H1 dx (.own x)) x (.ins C dx []))
      (fun v H2 => v = .non ∧ Ex H1 H2 ∧ Ec C (fun b => H1 b = none) G H2 (n + 1) (.ref x) (.set d)) E0 := by
  refine spInit_mono (made (Q := fun z H2 => ∃ y, z = .ref y ∧ Made C G H1 H2 "set" d [] y) (bs := []) hv nob rfl hma (fun b hb => nomatch hb) (Nat.zero_le _) tb hR (fun x H6 M => ⟨x, rfl, M⟩) x dx nx ndx ne) ?_
  rintro _ H3 ⟨rfl, y, hy, M⟩
  cases hy
  exact ⟨rfl, M.ex, M.set n⟩
/-! ### _law_merging -/
def spMerging [TabL] (C Pt : Addr) (G : Gen) (n : Nat) : Sp := fun vs H Q _ => ∃ (S : Addr → Prop) (a : Addr) (v : V) (ks : List Str) (e : Ef), vs = [.ref a, v] ∧ H a = some (.lst (ks.map V.str)) ∧ (∀ k ∈ ks, k ∈ G.KS) ∧ Ec C S G H n v e ∧ LamX.TabS H Pt qLam ∧ ∀ r H', Ex H H' → Ec C (fun x => S x ∨ H x = none) G H' (n + ks.length) r (nestE ks e) → Q r H'
theorem scMerging : FnScope nNested ["_law_path", "_law_inner"] (defScope sMerging) := ⟨rfl, rfl, rfl, by decide +kernel, rfl, by decide +kernel, by decide +kernel⟩
theorem ok_merging {C Pt fI : Addr} {fdI : FuncData} {G : Gen} {n k : Nat} (hk : 3 ≤ k) (Z : EFacts K mg base C Pt fI fdI) (gI : FnOk P w K mg base CX0 2 fI fdI ["self", "kind", "atom", "members"] (spInit C Pt G)) (hN : G.C .non = true) {f : Addr} {fd : FuncData} (Dd : Df K mg "_law_merging" sMerging ["_law_path", "_law_inner"] f fd) : FnOk P w K mg base CX0 (k + 1) f fd ["_law_path", "_law_inner"] (spMerging C Pt G n) := by
  refine Dd.F.ok scMerging (fun vs H Q E h => ?_) (fun cdv A outer s H vs Q E hr h => ?_)
  · obtain ⟨_, a, v, ks, d, rfl, _⟩ := h
    rfl
  obtain ⟨S, a, v, ks, e, rfl, ha, hks, hv, tb, kq⟩ := h
  have hr3 : Room (2 + 1) _ := hr.mono hk
  refine ⟨_, pss_cons (ps_for PassesOwn.never rfl (pi_list (pe_revL (pv 0))) (pg_name (i := 2) scMerging.nd rfl (Or.inl rfl)) (pss_one (ps_set (i := 1) scMerging.nd rfl (Or.inl rfl) (pe_make Z.mkC gI hr3 rfl Z.mgC Z.b .nil pass0 (pa_cons pe_str (pa_cons pe_non (pa_cons (pe_lst (pa_cons (pe_tup (pa_cons (pv 2) (pa_cons (pv 1) pa_nil))) pa_nil)) pa_nil)))))))
    (pss_one (ps_ret (pv 1))), ?_⟩
  refine ⟨_, rfl, a, _, rfl, .inl (.inl ha), fun pr hpr => ⟨pr, rfl, ⟨_, .inl (.inl upd_same)⟩, ?_⟩⟩
  refine for_list (K := K) (a := pr) (xs := (ks.map V.str).reverse) (fun i σ H5 => ∃ z, (∃ x, σ = [some (.ref a), some z, x]) ∧ Ex (upd H pr (.lst (ks.map V.str).reverse)) H5 ∧ Ec C (fun x => S x ∨ H x = none) G H5 (n + i) z (nestE (ks.reverse.take i).reverse e)) ⟨v, ⟨_, rfl⟩, Ex.refl _, (hv.ex (Ex.new hpr)).imp fun b hb => .inl hb⟩ (fun i σ H5 _ ⟨_, _, e, _⟩ => .inl (.inl (e _ _ upd_same))) (fun i y σ H5 hi q => ?_) fun σ H5 q => ?_
  · obtain ⟨z, ⟨x, rfl⟩, e5, h5⟩ := q
    obtain ⟨key, hk, rfl⟩ := rev_at hi
    refine ⟨_, rfl, _, rfl, (by show 2 ≤ sizeLine; decide), fun pt hpt => ⟨(by show 1 ≤ sizeLine; decide), fun pl hpl => ?_⟩⟩
    have e7 : Ex H5 (upd (upd H5 pt (.tup [.str key, z])) pl (.lst [.ref pt])) := (Ex.new hpt).trans (Ex.new hpl)
    have lt : (upd (upd H5 pt (.tup [.str key, z])) pl (.lst [.ref pt])) pt = some (.tup [.str key, z]) := by rw [upd_ne (ne_of_none upd_same hpl), upd_same]
    have ll : (upd (upd H5 pt (.tup [.str key, z])) pl (.lst [.ref pt])) pl = some (.lst [.ref pt]) := upd_same
    generalize (upd (upd H5 pt (.tup [.str key, z])) pl (.lst [.ref pt])) = H7 at e7 lt ll ⊢
    intro x dx nx ndx ne
    refine spInit_mono (mk_node (bs := [(pt, key, z)]) (f := oneE key (nestE (ks.reverse.take i).reverse e)) (S := fun x => S x ∨ H x = none) (n := n + i) hN Z.hR (.inl ll) (fun b hb => ?_) (by show 1 ≤ 5000; decide) (((Ex.new hpr).trans (e5.trans e7)).tab _ _ Z.hR tb) (by simp) (fun b hb => ?_) (fun j hj => ?_) (fun b hb => ?_) x dx nx ndx ne) ?_
    · rw [List.mem_singleton.mp hb]; exact ⟨trivial, lt⟩
    · rw [List.mem_singleton.mp hb]; exact hks key (List.mem_reverse.mp (List.mem_of_getElem? hk))
    · exact if_neg fun z => hj (by rw [z]; simp)
    · rw [List.mem_singleton.mp hb]
      show Ec C _ G H7 (n + i) z (if key = key then _ else _)
      rw [if_pos rfl]
      exact h5.ex e7
    · rintro _ H8 ⟨rfl, e8, M⟩
      refine ⟨rfl, _, ⟨_, rfl⟩, e5.trans (e7.trans e8), ?_⟩
      rw [rev_step hk]
      exact (M.1 rfl).imp fun b hb => hb.elim (fun z => .inr (fresh_back (Ex.new hpr) (fresh_back (e5.trans e7) z))) id
  · obtain ⟨z, ⟨x, rfl⟩, e5, h5⟩ := q
    rw [rev_all, List.length_reverse, List.length_map] at h5
    exact ⟨z, rfl, kq z H5 ((Ex.new hpr).trans e5) h5⟩
end
end TP

namespace TP
open PySem PySem.Spec PyProof.Rows L2
abbrev Cs : Type := Addr × Str × V × D
def spLBuilt [TabL] (C Pt : Addr) (G : Gen) : Sp := fun vs H Q _ => ∃ (S : Addr → Prop) (a : Addr) (cs : List Cs) (f : Str → Ef), vs = [.ref a] ∧ H a = some (.lst (cs.map fun c => V.ref c.1)) ∧ (∀ c ∈ cs, H c.1 = some (.tup [.str c.2.1, c.2.2.1]) ∧ c.2.1 ∈ G.KS ∧ Dc S G H 1 c.2.2.1 c.2.2.2 ∧ c.2.2.2.isOb = false ∧ f c.2.1 = .set c.2.2.2) ∧ (cs.map fun c => c.2.1).Nodup ∧ cs.length ≤ 1000 ∧
  (∀ k, k ∉ cs.map (fun c => c.2.1) → f k = .no) ∧ LamX.TabS H Pt qLam ∧ ∀ r H', Ex H H' → Ec C (Nw H) G H' 2 r (.build f) → Q r H'
abbrev nLBuilt : List Str := ["_law_some", "_law_key", "_law_atom"]
theorem scLBuilt : FnScope nLBuilt ["_law_some"] (defScope sLBuilt) := ⟨rfl, rfl, rfl, by decide +kernel, rfl, by decide +kernel, by decide +kernel⟩
section
variable [TabL] {P : Program} {w : World} {K : PySem.W.Frag} {mg : Str → Option Value} {base : Heap}
theorem ok_lbuilt {C Pt fI : Addr} {fdI : FuncData} {G : Gen} {k : Nat} (hk : 3 ≤ k) (Z : EFacts K mg base C Pt fI fdI) (gI : FnOk P w K mg base CX0 2 fI fdI ["self", "kind", "atom", "members"] (spInit C Pt G)) (hN : G.C .non = true) {f : Addr} {fd : FuncData} (Dd : Df K mg "_law_built" sLBuilt ["_law_some"] f fd) : FnOk P w K mg base CX0 (k + 1) f fd ["_law_some"] (spLBuilt C Pt G) := by
  refine Dd.F.ok scLBuilt (fun vs H Q E h => ?_) (fun cdv A outer s H vs Q E hr h => ?_)
  · obtain ⟨_, a, cs, fe, rfl, _⟩ := h
    rfl
  obtain ⟨S, a, cs, fe, rfl, ha, hc, nd, hl, no, tb, kq⟩ := h
  have hr3 : Room (2 + 1) _ := hr.mono hk
  refine ⟨_, pss_one (ps_ret (pe_make Z.mkC gI hr3 rfl Z.mgC Z.b .nil pass0 (pa_cons pe_str (pa_cons pe_non (pa_cons
    (pe_lc (own := [("_law_key", 1), ("_law_atom", 2)]) (g := gTup K 2 (gCons (gName 1) (gCons (gName 2) gNil))) (tt := tYes) rfl scLBuilt.nd (pi_list (pv 0)) (blkOk_by (N := nLBuilt) (sc := defScope sLBuilt) (by decide +kernel))
      (fun _ _ _ _ _ => pg_tup rfl (pgs_cons (pg_name (i := 1) scLBuilt.nd rfl (Or.inl rfl) (Or.inr rfl)) (pgs_cons (pg_name (i := 2) scLBuilt.nd rfl (Or.inl rfl) (Or.inr rfl)) pgs_nil))) (fun _ _ _ _ _ => pts_nil)
      (fun _ _ _ _ _ => pe_tup (pa_cons (pv 1) (pa_cons (pe_make Z.mkC gI hr3 rfl Z.mgC Z.b .nil pass0 (pa_cons pe_str (pa_cons (pv 2) (pa_cons (pe_lst pa_nil) pa_nil)))) pa_nil)))) pa_nil))))), ?_⟩
  refine ⟨.ref a, rfl, a, rfl, ⟨_, .inl (.inl ha)⟩, fun D hD => lc_list (K := K) (a := a) (xs := cs.map fun c => V.ref c.1) (fun i H4 => Ex H H4 ∧ ∃ bs4 : List Bs, H4 D = some (.lst (bs4.map fun b => V.ref b.1)) ∧ bs4.map (fun b => b.2.1) = (cs.take i).map (fun c => c.2.1) ∧ BsAt (fun b => H b = none ∧ b ≠ D) H4 bs4 ∧ ∀ b ∈ bs4, Ec C (fun b => H b = none ∧ b ≠ D) G H4 1 b.2.2 (fe b.2.1)) ⟨Ex.new hD, [], upd_same, rfl, fun b hb => (nomatch hb), fun b hb => nomatch hb⟩ (fun i H4 _ q => .inl (.inl (q.1 a _ ha))) (fun i y H4 hi q => ?_) fun H4 q => ?_⟩
  · obtain ⟨c, hi', rfl⟩ : ∃ c, cs[i]? = some c ∧ y = .ref c.1 := by
      rw [List.getElem?_map] at hi
      obtain ⟨c, h1, h2⟩ := Option.map_eq_some_iff.mp hi
      exact ⟨c, h1, h2.symm⟩
    obtain ⟨e4, bs4, h4, hm, hb4, he4⟩ := q
    obtain ⟨t1, t2, t3, t4, t5⟩ := hc c (List.mem_of_getElem? hi')
    refine ⟨c.1, _, rfl, .inl (.inl (e4 _ _ t1)), rfl, _, _, rfl, _, _, rfl, rfl, rfl, t_yes ?_⟩
    refine ⟨_, rfl, _, rfl, (by show 0 ≤ sizeLine; decide), fun pl hpl => ?_⟩
    have e5 : Ex H4 (upd H4 pl (.lst [])) := Ex.new hpl
    have ll : (upd H4 pl (.lst [])) pl = some (.lst []) := upd_same
    generalize (upd H4 pl (.lst [])) = H5 at e5 ll ⊢
    intro x dx nx ndx ne
    refine spInit_mono (mk_set (n := 0) (m := 0) ((t3.ex e4).ex e5) t4 Z.hR (.inl ll) ((e4.trans e5).tab _ _ Z.hR tb) x dx nx ndx ne) ?_
    rintro _ H6 ⟨rfl, e6, hx⟩
    refine ⟨rfl, (by show 2 ≤ sizeLine; decide), fun p hp => ?_⟩
    have h6 := (e5.trans e6) D _ h4
    have npD : D ≠ p := ne_of_none h6 hp
    have h7 : (upd H6 p (.tup [.str c.2.1, .ref x])) D = some (.lst (bs4.map fun b => V.ref b.1)) := by rw [upd_ne npD]; exact h6
    have e46 := (e5.trans e6).trans (Ex.new hp (o := .tup [.str c.2.1, .ref x]))
    have hlen : bs4.length = i := by
      have := congrArg List.length hm
      rw [List.length_map, List.length_map, List.length_take] at this
      have hlt := (List.getElem?_eq_some_iff.mp hi').1
      omega
    have hlt := (List.getElem?_eq_some_iff.mp hi').1
    refine ⟨_, h7, (by rw [List.length_map, hlen]; exact Nat.lt_of_le_of_lt (show i ≤ 1000 by omega) (by decide)), (e4.trans e46).mut hD h7, bs4 ++ [(p, c.2.1, .ref x)], by rw [upd_same, List.map_append]; rfl, ?_, ?_, ?_⟩
    · rw [List.map_append, hm, List.take_add_one, hi', Option.toList_some, List.map_append]
      rfl
    · intro b hb
      rcases List.mem_append.mp hb with hb | hb
      · obtain ⟨⟨s1, s2⟩, r⟩ := hb4 b hb
        refine ⟨⟨s1, s2⟩, ?_⟩
        rw [upd_ne s2]
        exact e46 _ _ r
      · rw [List.mem_singleton.mp hb]
        refine ⟨⟨fresh_back (e4.trans (e5.trans e6)) hp, npD.symm⟩, ?_⟩
        rw [upd_ne npD.symm, upd_same]
    · intro b hb
      rcases List.mem_append.mp hb with hb | hb
      · exact ((he4 b hb).ex e46).off fun z => z.2 rfl
      · rw [List.mem_singleton.mp hb, t5]
        refine Ec.off ?_ fun z => z.2 rfl
        exact (hx.ex (Ex.new hp)).imp fun b hb => ⟨fresh_back (e4.trans e5) hb, fun z => by rw [z] at hb; rw [e5 D _ h4] at hb; cases hb⟩
  · rw [List.length_map] at q
    obtain ⟨e4, bs4, h4, hm, hb4, he4⟩ := q
    rw [List.take_length] at hm
    intro x dx nx ndx ne
    refine spInit_mono (mk_node (bs := bs4) (f := fe) (n := 1) (S := fun b => H b = none ∧ b ≠ D) hN Z.hR (.inl h4) (fun b hb => ⟨trivial, (hb4 b hb).2⟩) ?_ (e4.tab _ _ Z.hR tb) (by rw [hm]; exact nd) (fun b hb => ?_) (fun j hj => no j (by rw [← hm]; exact hj)) he4 x dx nx ndx ne) ?_
    · have := congrArg List.length hm
      rw [List.length_map, List.length_map] at this
      omega
    · have : b.2.1 ∈ cs.map (fun c => c.2.1) := by rw [← hm]; exact List.mem_map.mpr ⟨b, hb, rfl⟩
      obtain ⟨c, hcc, e⟩ := List.mem_map.mp this
      rw [← e]
      exact (hc c hcc).2.1
    · rintro _ H6 ⟨rfl, e6, M⟩
      exact ⟨rfl, kq _ _ (e4.trans e6) ((M.2 rfl).imp fun b hb => hb.elim (fun z => fresh_back e4 z) fun z => z.1)⟩
end
end TP

namespace TP
open PySem PySem.Spec PyProof.Rows L2
theorem mem_cutV {xs : List V} {lo hi : Option Int} {x : V} (h : x ∈ cutV xs lo hi) : x ∈ xs := List.mem_of_mem_drop (List.mem_of_mem_take h)
theorem mv_ex [TabL] {a H0 H H'} (e : Ex H0 H) (ha : H0 a = none) (m : Mv a H H') : Ex H0 H' := ⟨fun b o h z => m.go b o (ne_of_none h ha) (e.go b o h z) z, fun b h => m.ne b (e.ne b h), fun b q r h => m.tab b q r (e.tab b q r h)⟩
def c24 : List V := [.non, .int 7, .str "w", .int 2, .int 0, .str "drop", .int 1, .int 1000000000000000000000000000000, .int 5, .str "keep", .str "missing", .int 3]
def g24 : Gen where
  KS := ["a", "b2", "", "Key", "a b", "a.b", "keep", "p", "q", "r", "s", "t"]
  C := fun v => decide (v ∈ c24)
  L := 2
  sc := fun v h => by
    have h := of_decide_eq_true h
    simp only [c24, List.mem_cons, List.not_mem_nil, or_false] at h
    rcases h with rfl | rfl | rfl | rfl | rfl | rfl | rfl | rfl | rfl | rfl | rfl | rfl <;> rfl
/-! ### all but one object stays -/
structure Aw [TabL] (p : Addr) (H H' : Hp) : Prop where
  go : ∀ b o, b ≠ p → H b = some o → isTbl o = false → H' b = some o
  ne : ∀ b, H b ≠ none → H' b ≠ none
  tab : ∀ b q, TabL.R b q → LamX.TabS H b q → LamX.TabS H' b q
theorem Aw.of_ex [TabL] {p H H'} (e : Ex H H') : Aw p H H' := ⟨fun b o _ h z => e.go b o h z, e.ne, e.tab⟩
theorem Aw.trans [TabL] {p H H1 H2} (x : Aw p H H1) (y : Aw p H1 H2) : Aw p H H2 := ⟨fun b o n h z => y.go b o n (x.go b o n h z) z, fun b h => y.ne b (x.ne b h), fun b q r h => y.tab b q r (x.tab b q r h)⟩
theorem Aw.put [TabL] {p : Addr} {H : Hp} {u o : HO} (h : H p = some u) (pl : isPl u = true := by rfl) : Aw p H (upd H p o) :=
  ⟨fun b w n e _ => by rw [upd_ne n]; exact e, fun b e => by
    by_cases c : b = p
    · rw [c, upd_same]; exact fun z => nomatch z
    · rw [upd_ne c]; exact e, fun b q _ t => tab_upd t fun w hw => by rw [h] at hw; cases hw; exact pl⟩
abbrev NotP (p : Addr) : Addr → Prop := fun x => x ≠ p
theorem Dc.aw [TabL] {p G H H' n v d} (m : Aw p H H') (h : Dc (NotP p) G H n v d) : Dc (NotP p) G H' n v d := Dc.mono (fun _ z => z) (fun b u s y r => m.go b u s r y) (Nat.le_refl _) h
theorem Ec.aw [TabL] {C p G H H' n v e} (m : Aw p H H') (h : Ec C (NotP p) G H n v e) : Ec C (NotP p) G H' n v e := h.ch (fun b o s z r => ⟨s, m.go b o s r z⟩) (Nat.le_refl _)
theorem pd_one {k : Str} {d : D} {p : Nat} (h : PD d p) : PD (oneD k d) (1 + p) := by
  refine ⟨[k], fun j => if j = k then p else 0, fun j hj => ?_, fun j => ?_, by simp⟩
  · dsimp only at hj
    by_cases c : j = k
    · rw [c]; exact List.mem_singleton.mpr rfl
    · rw [if_neg c] at hj; cases hj
  · dsimp only
    by_cases c : j = k
    · rw [if_pos c, if_pos c]; exact h
    · rw [if_neg c]; trivial
theorem dd_one {k : Str} {d : D} {n : Nat} (h : DD d n) : DD (oneD k d) (n + 1) := by
  refine ⟨by omega, fun j => ?_⟩
  dsimp only
  by_cases c : j = k
  · rw [if_pos c]; exact h
  · rw [if_neg c]; trivial
theorem pd_nest {d : D} {p : Nat} (h : PD d p) : ∀ ks : List Str, PD (nestD ks d) (ks.length + p)
  | [] => by rw [List.length_nil, Nat.zero_add]; exact h
  | k :: ks => by
    rw [List.length_cons, show ks.length + 1 + p = 1 + (ks.length + p) by omega]
    exact pd_one (pd_nest h ks)
theorem dd_nest {d : D} {p : Nat} (h : DD d p) : ∀ ks : List Str, DD (nestD ks d) (ks.length + p)
  | [] => by rw [List.length_nil, Nat.zero_add]; exact h
  | k :: ks => by
    rw [List.length_cons, show ks.length + 1 + p = (ks.length + p) + 1 by omega]
    exact dd_one (dd_nest h ks)
/-- what the law has drawn -/
structure W24 [TabL] (Pt p : Addr) (H : Hp) (pa : Addr) (k0 : Str) (ks : List Str) (x y : Str) (va vb vg : V) (A B Gd : D) : Prop where
  np : pa ≠ p
  path : H pa = some (.lst ((k0 :: ks).map V.str))
  hks : ∀ k ∈ k0 :: ks, k ∈ g24.KS
  len : (k0 :: ks).length ≤ 6
  hx : x ∈ g24.KS
  hy : y ∈ g24.KS
  xy : x ≠ y
  a : Dc (NotP p) g24 H 1 va A
  atA : At A
  b : Dc (NotP p) g24 H 1 vb B
  atB : At B
  g : Dc (NotP p) g24 H 1 vg Gd
  gob : Gd.isOb = false
  tb : LamX.TabS H Pt qLam
theorem W24.aw [TabL] {Pt p H H' pa k0 ks x y va vb vg A B Gd} (hR : TabL.R Pt qLam) (m : Aw p H H') (w : W24 Pt p H pa k0 ks x y va vb vg A B Gd) : W24 Pt p H' pa k0 ks x y va vb vg A B Gd :=
  ⟨w.np, m.go _ _ w.np w.path rfl, w.hks, w.len, w.hx, w.hy, w.xy, w.a.aw m, w.atA, w.b.aw m, w.atB, w.g.aw m, w.gob, m.tab _ _ hR w.tb⟩
/-- a row and the tree that is due -/
def CaseAt (C p : Addr) (H : Hp) (t : Addr) : Prop := ∃ r v rs e, t ≠ p ∧ H t = some (.tup [.ref r, v]) ∧ r ≠ p ∧ H r = some (.lst (rs.map (·.1))) ∧ rs.length ≤ 4 ∧ (∀ q ∈ (rs : List (V × D)), Dc (NotP p) g24 H 8 q.1 q.2 ∧ PD q.2 8 ∧ DD q.2 8) ∧ Ec C (NotP p) g24 H 8 v e ∧ rowE (rs.map (·.2)) = e ∧ rowE (rs.map (·.2) ++ rs.map (·.2)) = e
theorem CaseAt.aw [TabL] {C p H H' t} (m : Aw p H H') (h : CaseAt C p H t) : CaseAt C p H' t := by
  obtain ⟨r, v, rs, e, h1, h2, h3, h4, h5, h6, h7, h8, h9⟩ := h
  exact ⟨r, v, rs, e, h1, m.go _ _ h1 h2 rfl, h3, m.go _ _ h3 h4 rfl, h5, fun q hq => ⟨(h6 q hq).1.aw m, (h6 q hq).2⟩, h7.aw m, h8, h9⟩
theorem disp1 [TabL] {H : Hp} {p : Addr} (k : Str) (v : V) (hp : H p = none) : Ex H (upd (upd H p (.dK [])) p (.dK (mergeK [] [(Sum.inr k, v)]))) ∧ (upd (upd H p (.dK [])) p (.dK (mergeK [] [(Sum.inr k, v)]))) p = some (.dK (mergeK [] [(Sum.inr k, v)])) := ⟨(Ex.new hp).mut hp upd_same, upd_same⟩
abbrev eight (rs : List (V × D)) : List (V × D × Nat) := rs.map fun r => (r.1, r.2, 8)
theorem eight1 (rs : List (V × D)) : (eight rs).map (·.1) = rs.map (·.1) := by rw [List.map_map]; rfl
theorem eight2 (rs : List (V × D)) : (eight rs).map (·.2.1) = rs.map (·.2) := by rw [List.map_map]; rfl
theorem row_at8 {S : Addr → Prop} {H : Hp} {a : Addr} {rs : List (V × D)} (sq : H a = some (.lst (rs.map (·.1)))) (b : ∀ q ∈ rs, Dc S g24 H 8 q.1 q.2 ∧ PD q.2 8 ∧ DD q.2 8) (hl : rs.length ≤ 8) : RowAt S g24 H 8 a (eight rs) := by
  refine ⟨by rw [eight1]; exact .inl sq, fun r hr => ?_, ?_, by rw [List.length_map]; omega⟩
  · obtain ⟨q, hq, rfl⟩ := List.mem_map.mp hr
    obtain ⟨h1, h2, h3⟩ := b q hq
    exact ⟨h1, h2, h2.mono (by decide), h3⟩
  · rw [List.map_map, show ((fun r : V × D × Nat => r.2.2) ∘ fun r : V × D => (r.1, r.2, 8)) = fun _ => 8 from rfl, List.map_const', List.sum_replicate_nat]
    omega
theorem mk_two [TabL] {C Pt : Addr} {G : Gen} {H1 : Hp} {kd : Str} {ma t1 t2 : Addr} {S : Addr → Prop} {n : Nat} {x y : Str} {v1 v2 : V} {m1 m2 : Ef} (hN : G.C .non = true) (hR : TabL.R Pt qLam) (hx : x ∈ G.KS) (hy : y ∈ G.KS) (hxy : x ≠ y)
    (hma : H1 ma = some (.lst [.ref t1, .ref t2])) (h1 : H1 t1 = some (.tup [.str x, v1])) (h2 : H1 t2 = some (.tup [.str y, v2])) (tb : LamX.TabS H1 Pt qLam) (e1 : Ec C S G H1 n v1 m1) (e2 : Ec C S G H1 n v2 m2)
    (xx dx : Addr) (nx : H1 xx = none) (ndx : H1 dx = none) (ne : dx ≠ xx) : spInit C Pt G (.ref xx :: ([.str kd, .non, .ref ma] ++ [])) (upd (upd H1 dx (.own xx)) xx (.ins C dx []))
      (fun v H2 => v = .non ∧ Ex H1 H2 ∧ ((kd = "merge" → Ec C (fun b => H1 b = none ∨ S b) G H2 (n + 1) (.ref xx) (.merge (twoE x m1 y m2))) ∧ (kd = "build" → Ec C (fun b => H1 b = none ∨ S b) G H2 (n + 1) (.ref xx) (.build (twoE x m1 y m2))))) E0 := by
  refine mk_node (bs := [(t1, x, v1), (t2, y, v2)]) hN hR (.inl hma) (fun b hb => ?_) (by show 2 ≤ 5000; decide) tb ?_ (fun b hb => ?_) (fun k hk => ?_) (fun b hb => ?_) xx dx nx ndx ne
  · rcases List.mem_cons.mp hb with rfl | hb
    · exact ⟨trivial, h1⟩
    · rw [List.mem_singleton.mp hb]; exact ⟨trivial, h2⟩
  · show [x, y].Nodup
    simp [hxy]
  · rcases List.mem_cons.mp hb with rfl | hb
    · exact hx
    · rw [List.mem_singleton.mp hb]; exact hy
  · have hk : k ∉ [x, y] := hk
    simp only [List.mem_cons, List.not_mem_nil, or_false, not_or] at hk
    unfold twoE
    rw [if_neg hk.1, if_neg hk.2]
  · rcases List.mem_cons.mp hb with rfl | hb
    · show Ec C S G H1 n v1 (twoE x m1 y m2 x)
      unfold twoE
      rw [if_pos rfl]
      exact e1
    · rw [List.mem_singleton.mp hb]
      show Ec C S G H1 n v2 (twoE x m1 y m2 y)
      unfold twoE
      rw [if_neg hxy.symm, if_pos rfl]
      exact e2
theorem mk_oneE [TabL] {C Pt : Addr} {G : Gen} {H1 : Hp} {kd : Str} {ma t1 : Addr} {S : Addr → Prop} {n : Nat} {x : Str} {v1 : V} {m1 : Ef} (hN : G.C .non = true) (hR : TabL.R Pt qLam) (hx : x ∈ G.KS)
    (hma : H1 ma = some (.lst [.ref t1])) (h1 : H1 t1 = some (.tup [.str x, v1])) (tb : LamX.TabS H1 Pt qLam) (e1 : Ec C S G H1 n v1 m1)
    (xx dx : Addr) (nx : H1 xx = none) (ndx : H1 dx = none) (ne : dx ≠ xx) : spInit C Pt G (.ref xx :: ([.str kd, .non, .ref ma] ++ [])) (upd (upd H1 dx (.own xx)) xx (.ins C dx []))
      (fun v H2 => v = .non ∧ Ex H1 H2 ∧ ((kd = "merge" → Ec C (fun b => H1 b = none ∨ S b) G H2 (n + 1) (.ref xx) (.merge (oneE x m1))) ∧ (kd = "build" → Ec C (fun b => H1 b = none ∨ S b) G H2 (n + 1) (.ref xx) (.build (oneE x m1))))) E0 := by
  refine mk_node (bs := [(t1, x, v1)]) hN hR (.inl hma) (fun b hb => ?_) (by show 1 ≤ 5000; decide) tb (by simp) (fun b hb => ?_) (fun k hk => ?_) (fun b hb => ?_) xx dx nx ndx ne
  · rw [List.mem_singleton.mp hb]; exact ⟨trivial, h1⟩
  · rw [List.mem_singleton.mp hb]; exact hx
  · exact if_neg fun z => hk (by rw [z]; simp)
  · rw [List.mem_singleton.mp hb]
    show Ec C S G H1 n v1 (oneE x m1 x)
    unfold oneE
    rw [if_pos rfl]
    exact e1
theorem mk_nilE [TabL] {C Pt : Addr} {G : Gen} {H1 : Hp} {kd : Str} {ma : Addr} (n : Nat) (hN : G.C .non = true) (hR : TabL.R Pt qLam) (hma : H1 ma = some (.lst [])) (tb : LamX.TabS H1 Pt qLam)
    (xx dx : Addr) (nx : H1 xx = none) (ndx : H1 dx = none) (ne : dx ≠ xx) : spInit C Pt G (.ref xx :: ([.str kd, .non, .ref ma] ++ [])) (upd (upd H1 dx (.own xx)) xx (.ins C dx []))
      (fun v H2 => v = .non ∧ Ex H1 H2 ∧ ((kd = "merge" → Ec C (fun b => H1 b = none ∨ False) G H2 (n + 1) (.ref xx) (.merge noE)) ∧ (kd = "build" → Ec C (fun b => H1 b = none ∨ False) G H2 (n + 1) (.ref xx) (.build noE)))) E0 :=
  mk_node (bs := []) (S := fun _ => False) (n := n) hN hR (.inl hma) (fun b hb => nomatch hb) (Nat.zero_le _) tb List.nodup_nil (fun b hb => nomatch hb) (fun k hk => rfl) (fun b hb => nomatch hb) xx dx nx ndx ne
theorem W24.re [TabL] {Pt p q H pa k0 ks x y va vb vg A B Gd} (hq : H q = none) (w : W24 Pt p H pa k0 ks x y va vb vg A B Gd) : W24 Pt q H pa k0 ks x y va vb vg A B Gd :=
  have n : ∀ z, (z ≠ p ∧ H z ≠ none) → z ≠ q := fun z hz y => hz.2 (by rw [y]; exact hq)
  ⟨ne_of_none w.path hq, w.path, w.hks, w.len, w.hx, w.hy, w.xy, w.a.alloc.imp n, w.atA, w.b.alloc.imp n, w.atB, w.g.alloc.imp n, w.gob, w.tb⟩
theorem W24.ex [TabL] {Pt p H H' pa k0 ks x y va vb vg A B Gd} (hR : TabL.R Pt qLam) (e : Ex H H') (w : W24 Pt p H pa k0 ks x y va vb vg A B Gd) : W24 Pt p H' pa k0 ks x y va vb vg A B Gd := w.aw hR (Aw.of_ex e)
theorem Ec.re {C q G H n v e} {S : Addr → Prop} (h : Ec C S G H n v e) (hq : H q = none) : Ec C (NotP q) G H n v e := h.alloc.imp fun z hz y => hz.2 (by rw [y]; exact hq)
theorem Dc.re {q G H n v d} {S : Addr → Prop} (h : Dc S G H n v d) (hq : H q = none) : Dc (NotP q) G H n v d := h.alloc.imp fun z hz y => hz.2 (by rw [y]; exact hq)
theorem pd_sc {v : V} {p : Nat} (h : 1 ≤ p) : PD (.sc v) p := h
theorem at_pd {d : D} (h : d.isOb = false) : PD d 1 ∧ DD d 0 := by
  cases d with
  | ob f => cases h
  | nil => exact ⟨trivial, trivial⟩
  | sc v => exact ⟨Nat.le_refl _, trivial⟩
  | ls xs => exact ⟨Nat.le_refl _, trivial⟩
/-- a patch along the path -/
theorem nst_ok {S H k0 ks r d} (hl : (k0 :: ks).length ≤ 6) (h : Dc S g24 H (2 + (k0 :: ks).length) r (nestD (k0 :: ks) d)) (pd : PD d 2) (dd : DD d 1) : Dc S g24 H 8 r (nestD (k0 :: ks) d) ∧ PD (nestD (k0 :: ks) d) 8 ∧ DD (nestD (k0 :: ks) d) 8 :=
  ⟨h.lift (by omega), (pd_nest pd _).mono (by omega), (dd_nest dd _).mono (by omega)⟩
theorem case_nest {C pc : Addr} {H : Hp} {t r : Addr} {v : V} (rs : List (V × D)) (d0 : D) (ds : List D) {E : Ef} {k0 : Str} {ks : List Str} (ht : H t = some (.tup [.ref r, v])) (nt : t ≠ pc) (nr : r ≠ pc) (hr : H r = some (.lst (rs.map (·.1)))) (hl : rs.length ≤ 4)
    (hd : rs.map (·.2) = (d0 :: ds).map (nestD (k0 :: ks))) (hq : ∀ q ∈ rs, Dc (NotP pc) g24 H 8 q.1 q.2 ∧ PD q.2 8 ∧ DD q.2 8) (hv : Ec C (NotP pc) g24 H 8 v (nestE (k0 :: ks) E)) (nn : ∀ d ∈ d0 :: ds, d.isNil = false) (c : folds (pem d0) ds = E ∧ folds E (d0 :: ds) = E) : CaseAt C pc H t := by
  have z := row_twice k0 ks d0 ds nn c.1 c.2
  exact ⟨r, v, rs, _, nt, ht, nr, hr, hl, hq, hv, by rw [hd]; exact z.1, by rw [hd]; exact z.2⟩
/-- the list of cases -/
def Iv [TabL] (C Pt pc : Addr) (H : Hp) (pa : Addr) (k0 : Str) (ks : List Str) (x y : Str) (va vb vg : V) (A B Gd : D) (ts : List Addr) : Prop :=
  H pc = some (.lst (ts.map V.ref)) ∧ (∀ t ∈ ts, CaseAt C pc H t) ∧ W24 Pt pc H pa k0 ks x y va vb vg A B Gd
theorem Iv.ex [TabL] {C Pt pc H H' pa k0 ks x y va vb vg A B Gd ts} (hR : TabL.R Pt qLam) (e : Ex H H') (h : Iv C Pt pc H pa k0 ks x y va vb vg A B Gd ts) : Iv C Pt pc H' pa k0 ks x y va vb vg A B Gd ts :=
  ⟨e _ _ h.1, fun t ht => (h.2.1 t ht).aw (Aw.of_ex e), h.2.2.ex hR e⟩
theorem Iv.put [TabL] {C Pt pc H pa k0 ks x y va vb vg A B Gd ts t} (hR : TabL.R Pt qLam) (h : Iv C Pt pc H pa k0 ks x y va vb vg A B Gd ts) (c : CaseAt C pc H t) : Iv C Pt pc (upd H pc (.lst (ts.map V.ref ++ [.ref t]))) pa k0 ks x y va vb vg A B Gd (ts ++ [t]) := by
  have m : Aw pc H (upd H pc (.lst (ts.map V.ref ++ [.ref t]))) := Aw.put h.1
  refine ⟨by rw [upd_same, List.map_append]; rfl, fun u hu => ?_, h.2.2.aw hR m⟩
  rcases List.mem_append.mp hu with hu | hu
  · exact (h.2.1 u hu).aw m
  · rw [List.mem_singleton.mp hu]; exact c.aw m
theorem Ex.of_ext [TabL] {H H' : Hp} (x : L2.Ext H H') : Ex H H' := by
  refine ⟨fun a o h _ => x a o h, fun a h => ?_, fun P q _ t => ?_⟩
  · cases e : H a with
    | none => exact absurd e h
    | some o => rw [x a o e]; exact fun z => nomatch z
  · obtain ⟨ps, h1, h2, h3⟩ := t
    refine ⟨ps, x _ _ h1, h2, fun pos cv hc => ?_⟩
    obtain ⟨c, e1, e2⟩ := h3 pos cv hc
    exact ⟨c, e1, x _ _ e2⟩
theorem ne_new {H : Hp} {p : Addr} {o : HO} (h : H p = some o) : ∀ z, (NotP p z ∨ H z = none) → NotP p z := fun z hz => hz.elim id fun n => (ne_of_none h n).symm
end TP

namespace TP
open PySem PySem.Spec PyProof.Rows L2
abbrev sLaw : Stmt := topS 33
section
variable [TabL] {P : Program} {w : World} {K : PySem.W.Frag} {mg : Str → Option Value} {base : Heap}
def spLaw (K : PySem.W.Frag) (Pt : Addr) : Sp := fun vs H Q _ => ∃ (a : Addr) (ns : List Int), vs = [.ref a] ∧ ScrAt K H a (ns.map V.int) ∧ ns.length ≤ 63 ∧ LamX.TabS H Pt qLam ∧ ∀ H', Q (.bl true) H'
abbrev nLaw : List Str := ["_law_script", "_law_number", "_law_s", "_law_path", "_law_x", "_law_y", "_law_atom", "_law_other", "_law_gone", "_law_set_both", "_law_cases", "_law_first", "_law_last", "_law_all_built", "_law_ends", "_law_drop_x", "_law_dropped_again", "_law_row", "_law_due", "_law_turn"]
theorem scLaw : FnScope nLaw ["_law_script"] (defScope sLaw) := ⟨rfl, rfl, rfl, by decide +kernel, rfl, by decide +kernel, by decide +kernel⟩
set_option maxHeartbeats 0 in
theorem ok_law {C Pt fI : Addr} {fdI : FuncData} {f f1 f2 fn fm fb fe fq : Addr} {fd d1 d2 dn dm db fde fdq : FuncData} (T : Bi mg) (Z : EFacts K mg base C Pt fI fdI) (gI : FnOk P w K mg base CX0 2 fI fdI ["self", "kind", "atom", "members"] (spInit C Pt g24))
    (Dl : Df K mg "law" sLaw ["_law_script"] f fd) (D1 : Df K mg "_law_state" sState ["_law_source"] f1 d1) (D2 : Df K mg "_law_digit" sDigit ["_law_state_here", "_law_base"] f2 d2)
    (Dn : Df K mg "_law_nested" sNested ["_law_path", "_law_inner"] fn dn) (Dm : Df K mg "_law_merging" sMerging ["_law_path", "_law_inner"] fm dm) (Db : Df K mg "_law_built" sLBuilt ["_law_some"] fb db) (De : Df K mg "effect" sEffect ["row"] fe fde)
    (gS : FnOk P w K mg base CX0 26 f1 d1 ["_law_source"] spState) (gG : FnOk P w K mg base CX0 26 f2 d2 ["_law_state_here", "_law_base"] spDigit) (gN : FnOk P w K mg base CX0 26 fn dn ["_law_path", "_law_inner"] (spNested g24 2)) (gM : FnOk P w K mg base CX0 26 fm dm ["_law_path", "_law_inner"] (spMerging C Pt g24 2))
    (gB : FnOk P w K mg base CX0 26 fb db ["_law_some"] (spLBuilt C Pt g24)) (gE : FnOk P w K mg base CX0 26 fe fde ["row"] (spEff C Pt g24 7)) (gQ : FnOk P w K mg base CX0 25 fq fdq ["self", "other"] (spEq (eqR C g24 8))) (bq : Binds K fdq ["self", "other"] []) (hNe : ∀ h : Heap, K.In h → ClsNe h C fq) :
    FnOkG P w K mg base CX0 27 f fd ["_law_script"] (spLaw K Pt) := by
  refine okG Dl.F scLaw (fun vs H Q E h => ?_) (fun cdv A outer s H vs Q E hg hr h => ?_)
  · obtain ⟨a, ns, rfl, _⟩ := h
    rfl
  obtain ⟨a, ns, rfl, hS, hlen, tb0, k⟩ := h
  have hr3 : Room (2 + 1) _ := hr.mono (by decide)
  have hrQ : Room (25 + 1) _ := hr
  refine ⟨_, pss_cons (ps_for PassesOwn.never rfl (pi_list (pe_slice sl_list (pe_op op_catScr (pv 0) (pe_lst (pa_cons pe_int pa_nil))) po_none (po_some pe_int))) (pg_name (i := 1) scLaw.nd rfl (Or.inl rfl))
      (pss_cons (ps_set (i := 2) scLaw.nd rfl (Or.inr rfl) (pe_call gS hr rfl D1.m D1.F.kp D1.b .nil pass0 (pa_cons (pv 1) pa_nil)))
      (pss_cons (ps_setLc (i := 3) (own := [("_law_turn", 19)]) (g := gName 19) (tt := tYes) rfl scLaw.nd rfl rfl (sw_true rfl rfl rfl (by decide +kernel)) (pi_range1 (by rfl) (T.of "range") (pa_cons (pe_op op_add pe_int (pe_call gG hr rfl D2.m D2.F.kp D2.b .nil pass0 (pa_cons (pv 2) (pa_cons pe_int pa_nil)))) pa_nil)) (blkOk_by (N := nLaw) (sc := defScope sLaw) (by decide +kernel)) (fun _ _ _ _ _ => pg_name (i := 19) scLaw.nd rfl (Or.inl rfl)) (fun _ _ _ _ _ => pts_nil) (fun _ _ _ _ _ => (pe_ix (show IxR _ (rIxL K) from ix_list) (pe_lst (pa_cons pe_str (pa_cons pe_str (pa_cons pe_str (pa_cons pe_str (pa_cons pe_str (pa_cons pe_str (pa_cons pe_str pa_nil)))))))) (pe_call gG hr rfl D2.m D2.F.kp D2.b .nil pass0 (pa_cons (pv 2) (pa_cons pe_int pa_nil))) (fun _ _ => rfl))))
      (pss_cons (ps_par (i := 4) (j := 5) rfl scLaw.nd rfl rfl (by decide) rfl rfl (pa_cons (pe_ix ix_list (pe_lst (pa_cons pe_str (pa_cons pe_str (pa_cons pe_str pa_nil)))) (pe_call gG hr rfl D2.m D2.F.kp D2.b .nil pass0 (pa_cons (pv 2) (pa_cons pe_int pa_nil))) (fun _ _ => rfl)) (pa_cons (pe_ix ix_list (pe_lst (pa_cons pe_str (pa_cons pe_str pa_nil))) (pe_call gG hr rfl D2.m D2.F.kp D2.b .nil pass0 (pa_cons (pv 2) (pa_cons pe_int pa_nil))) (fun _ _ => rfl)) pa_nil)) (by rfl))
      (pss_cons (ps_par (i := 6) (j := 7) rfl scLaw.nd rfl rfl (by decide) rfl rfl (pa_cons (pe_ix ix_list (pe_lst (pa_cons pe_int (pa_cons pe_str (pa_cons (pe_lst (pa_cons pe_int (pa_cons pe_non pa_nil))) (pa_cons (pe_op op_pow pe_int pe_int) pa_nil))))) (pe_call gG hr rfl D2.m D2.F.kp D2.b .nil pass0 (pa_cons (pv 2) (pa_cons pe_int pa_nil))) (fun _ _ => rfl)) (pa_cons (pe_ix ix_list (pe_lst (pa_cons pe_int (pa_cons pe_str (pa_cons (pe_lst pa_nil) (pa_cons pe_str pa_nil))))) (pe_call gG hr rfl D2.m D2.F.kp D2.b .nil pass0 (pa_cons (pv 2) (pa_cons pe_int pa_nil))) (fun _ _ => rfl)) pa_nil)) (by rfl))
      (pss_cons (ps_set (i := 8) scLaw.nd rfl (Or.inl rfl) (pe_ix ix_list (pe_lst (pa_cons pe_non (pa_cons pe_int (pa_cons pe_str (pa_cons (pe_lst (pa_cons pe_int pa_nil)) pa_nil))))) (pe_call gG hr rfl D2.m D2.F.kp D2.b .nil pass0 (pa_cons (pv 2) (pa_cons pe_int pa_nil))) (fun _ _ => rfl)))
      (pss_cons (ps_set (i := 9) scLaw.nd rfl (Or.inl rfl) (pe_make Z.mkC gI hr3 rfl Z.mgC Z.b .nil pass0 (pa_cons pe_str (pa_cons pe_non (pa_cons (pe_lst (pa_cons (pe_tup (pa_cons (pv 4) (pa_cons (pe_make Z.mkC gI hr3 rfl Z.mgC Z.b .nil pass0 (pa_cons pe_str (pa_cons (pv 6) (pa_cons (pe_lst pa_nil) pa_nil)))) pa_nil))) (pa_cons (pe_tup (pa_cons (pv 5) (pa_cons (pe_make Z.mkC gI hr3 rfl Z.mgC Z.b .nil pass0 (pa_cons pe_str (pa_cons (pv 7) (pa_cons (pe_lst pa_nil) pa_nil)))) pa_nil))) pa_nil))) pa_nil)))))
      (pss_cons (ps_set (i := 10) scLaw.nd rfl (Or.inl rfl) (pe_lst (pa_cons (pe_tup (pa_cons (pe_lst (pa_cons (pe_call gN hr rfl Dn.m Dn.F.kp Dn.b .nil pass0 (pa_cons (pv 3) (pa_cons (pe_disp (pps_cons (pv 4) (pv 6) pps_nil) (by rfl) (by rfl) (fun z => by cases z) (by decide)) pa_nil))) (pa_cons (pe_call gN hr rfl Dn.m Dn.F.kp Dn.b .nil pass0 (pa_cons (pv 3) (pa_cons (pe_disp (pps_cons (pv 5) (pv 7) pps_nil) (by rfl) (by rfl) (fun z => by cases z) (by decide)) pa_nil))) pa_nil))) (pa_cons (pe_call gM hr rfl Dm.m Dm.F.kp Dm.b .nil pass0 (pa_cons (pv 3) (pa_cons (pv 9) pa_nil))) pa_nil))) pa_nil)))
      (C8.pss_cut (ps_set (i := 11) scLaw.nd rfl (Or.inl rfl) (pe_call gN hr rfl Dn.m Dn.F.kp Dn.b .nil pass0 (pa_cons (pv 3) (pa_cons (pe_disp (pps_cons (pv 4) (pv 6) pps_nil) (by rfl) (by rfl) (fun z => by cases z) (by decide)) pa_nil))))
      (C8.pss_cut (ps_set (i := 12) scLaw.nd rfl (Or.inl rfl) (pe_call gN hr rfl Dn.m Dn.F.kp Dn.b .nil pass0 (pa_cons (pv 3) (pa_cons (pe_disp (pps_cons (pv 5) (pv 7) pps_nil) (by rfl) (by rfl) (fun z => by cases z) (by decide)) pa_nil))))
      (C8.pss_cut (ps_expr (pe_bm PySem.F.plainAttrs_list PySem.F.slot_list_append PySem.F.type_list_append mt_append (pv 10) (pa_cons (pe_tup (pa_cons (pe_lst (pa_cons (pv 11) (pa_cons (pe_call gN hr rfl Dn.m Dn.F.kp Dn.b .nil pass0 (pa_cons (pv 3) (pa_cons (pv 8) pa_nil))) (pa_cons (pv 12) pa_nil)))) (pa_cons (pe_call gM hr rfl Dm.m Dm.F.kp Dm.b .nil pass0 (pa_cons (pv 3) (pa_cons (pe_call gB hr rfl Db.m Db.F.kp Db.b .nil pass0 (pa_cons (pe_lst (pa_cons (pe_tup (pa_cons (pv 5) (pa_cons (pv 7) pa_nil))) pa_nil)) pa_nil)) pa_nil))) pa_nil))) pa_nil)))
      (C8.pss_cut (ps_set (i := 13) scLaw.nd rfl (Or.inl rfl) (pe_call gM hr rfl Dm.m Dm.F.kp Dm.b .nil pass0 (pa_cons (pv 3) (pa_cons (pe_call gB hr rfl Db.m Db.F.kp Db.b .nil pass0 (pa_cons (pe_lst (pa_cons (pe_tup (pa_cons (pv 4) (pa_cons (pv 6) pa_nil))) (pa_cons (pe_tup (pa_cons (pv 5) (pa_cons (pv 7) pa_nil))) pa_nil))) pa_nil)) pa_nil))))
      (C8.pss_cut (ps_expr (pe_bm PySem.F.plainAttrs_list PySem.F.slot_list_append PySem.F.type_list_append mt_append (pv 10) (pa_cons (pe_tup (pa_cons (pe_lst (pa_cons (pe_call gN hr rfl Dn.m Dn.F.kp Dn.b .nil pass0 (pa_cons (pv 3) (pa_cons (pv 8) pa_nil))) (pa_cons (pv 11) (pa_cons (pv 12) pa_nil)))) (pa_cons (pv 13) pa_nil))) pa_nil)))
      (C8.pss_cut (ps_set (i := 14) scLaw.nd rfl (Or.inl rfl) (pe_lst (pa_cons (pe_tup (pa_cons (pv 4) (pa_cons (pe_make Z.mkC gI hr3 rfl Z.mgC Z.b .nil pass0 (pa_cons pe_str (pa_cons pe_non (pa_cons (pe_lst pa_nil) pa_nil)))) pa_nil))) (pa_cons (pe_tup (pa_cons (pv 5) (pa_cons (pe_make Z.mkC gI hr3 rfl Z.mgC Z.b .nil pass0 (pa_cons pe_str (pa_cons (pv 7) (pa_cons (pe_lst pa_nil) pa_nil)))) pa_nil))) pa_nil))))
      (C8.pss_cut (ps_set (i := 15) scLaw.nd rfl (Or.inl rfl) (pe_call gM hr rfl Dm.m Dm.F.kp Dm.b .nil pass0 (pa_cons (pv 3) (pa_cons (pe_make Z.mkC gI hr3 rfl Z.mgC Z.b .nil pass0 (pa_cons pe_str (pa_cons pe_non (pa_cons (pv 14) pa_nil)))) pa_nil))))
      (C8.pss_cut (ps_expr (pe_bm PySem.F.plainAttrs_list PySem.F.slot_list_append PySem.F.type_list_append mt_append (pv 10) (pa_cons (pe_tup (pa_cons (pe_lst (pa_cons (pv 11) (pa_cons (pv 12) (pa_cons (pe_call gN hr rfl Dn.m Dn.F.kp Dn.b .nil pass0 (pa_cons (pv 3) (pa_cons (pe_disp (pps_cons (pv 4) pe_non pps_nil) (by rfl) (by rfl) (fun z => by cases z) (by decide)) pa_nil))) pa_nil)))) (pa_cons (pv 15) pa_nil))) pa_nil)))
      (C8.pss_cut (ps_set (i := 16) scLaw.nd rfl (Or.inl rfl) (pe_lst (pa_cons (pe_call gN hr rfl Dn.m Dn.F.kp Dn.b .nil pass0 (pa_cons (pv 3) (pa_cons (pv 8) pa_nil))) (pa_cons (pv 11) (pa_cons (pv 12) (pa_cons (pe_call gN hr rfl Dn.m Dn.F.kp Dn.b .nil pass0 (pa_cons (pv 3) (pa_cons (pe_disp (pps_cons (pv 4) pe_non pps_nil) (by rfl) (by rfl) (fun z => by cases z) (by decide)) pa_nil))) pa_nil))))))
      (C8.pss_cut (ps_expr (pe_bm PySem.F.plainAttrs_list PySem.F.slot_list_append PySem.F.type_list_append mt_append (pv 10) (pa_cons (pe_tup (pa_cons (pv 16) (pa_cons (pe_call gM hr rfl Dm.m Dm.F.kp Dm.b .nil pass0 (pa_cons (pv 3) (pa_cons (pe_call gB hr rfl Db.m Db.F.kp Db.b .nil pass0 (pa_cons (pe_lst (pa_cons (pe_tup (pa_cons (pv 5) (pa_cons (pv 7) pa_nil))) pa_nil)) pa_nil)) pa_nil))) pa_nil))) pa_nil)))
      (C8.pss_cut (ps_expr (pe_bm PySem.F.plainAttrs_list PySem.F.slot_list_append PySem.F.type_list_append mt_append (pv 10) (pa_cons (pe_tup (pa_cons (pe_lst (pa_cons (pv 11) (pa_cons (pe_call gN hr rfl Dn.m Dn.F.kp Dn.b .nil pass0 (pa_cons (pv 3) (pa_cons pe_non pa_nil))) pa_nil))) (pa_cons (pe_call gM hr rfl Dm.m Dm.F.kp Dm.b .nil pass0 (pa_cons (pv 3) (pa_cons (pe_make Z.mkC gI hr3 rfl Z.mgC Z.b .nil pass0 (pa_cons pe_str (pa_cons pe_non (pa_cons (pe_lst pa_nil) pa_nil)))) pa_nil))) pa_nil))) pa_nil)))
      (C8.pss_cut (ps_expr (pe_bm PySem.F.plainAttrs_list PySem.F.slot_list_append PySem.F.type_list_append mt_append (pv 10) (pa_cons (pe_tup (pa_cons (pe_lst (pa_cons (pe_call gN hr rfl Dn.m Dn.F.kp Dn.b .nil pass0 (pa_cons (pv 3) (pa_cons pe_dnewK pa_nil))) pa_nil)) (pa_cons (pe_call gM hr rfl Dm.m Dm.F.kp Dm.b .nil pass0 (pa_cons (pv 3) (pa_cons (pe_make Z.mkC gI hr3 rfl Z.mgC Z.b .nil pass0 (pa_cons pe_str (pa_cons pe_non (pa_cons (pe_lst pa_nil) pa_nil)))) pa_nil))) pa_nil))) pa_nil)))
      (C8.pss_cut (ps_expr (pe_bm PySem.F.plainAttrs_list PySem.F.slot_list_append PySem.F.type_list_append mt_append (pv 10) (pa_cons (pe_tup (pa_cons (pe_lst (pa_cons (pe_call gN hr rfl Dn.m Dn.F.kp Dn.b .nil pass0 (pa_cons (pv 3) (pa_cons (pv 8) pa_nil))) (pa_cons (pe_call gN hr rfl Dn.m Dn.F.kp Dn.b .nil pass0 (pa_cons (pv 3) (pa_cons pe_dnewK pa_nil))) pa_nil))) (pa_cons (pe_call gM hr rfl Dm.m Dm.F.kp Dm.b .nil pass0 (pa_cons (pv 3) (pa_cons (pe_call gB hr rfl Db.m Db.F.kp Db.b .nil pass0 (pa_cons (pe_lst pa_nil) pa_nil)) pa_nil))) pa_nil))) pa_nil)))
      (C8.pss_cut (ps_expr (pe_bm PySem.F.plainAttrs_list PySem.F.slot_list_append PySem.F.type_list_append mt_append (pv 10) (pa_cons (pe_tup (pa_cons (pe_lst (pa_cons (pv 11) (pa_cons pe_non pa_nil))) (pa_cons (pe_make Z.mkC gI hr3 rfl Z.mgC Z.b .nil pass0 (pa_cons pe_str (pa_cons pe_non (pa_cons (pe_lst pa_nil) pa_nil)))) pa_nil))) pa_nil)))
      (C8.pss_cut (ps_expr (pe_bm PySem.F.plainAttrs_list PySem.F.slot_list_append PySem.F.type_list_append mt_append (pv 10) (pa_cons (pe_tup (pa_cons (pe_lst (pa_cons pe_non (pa_cons (pe_disp (pps_cons (pv 4) (pv 6) pps_nil) (by rfl) (by rfl) (fun z => by cases z) (by decide)) pa_nil))) (pa_cons (pe_call gB hr rfl Db.m Db.F.kp Db.b .nil pass0 (pa_cons (pe_lst (pa_cons (pe_tup (pa_cons (pv 4) (pa_cons (pv 6) pa_nil))) pa_nil)) pa_nil)) pa_nil))) pa_nil)))
      (C8.pss_cut (ps_expr (pe_bm PySem.F.plainAttrs_list PySem.F.slot_list_append PySem.F.type_list_append mt_append (pv 10) (pa_cons (pe_tup (pa_cons (pe_lst (pa_cons (pe_disp (pps_cons (pv 4) (pe_disp (pps_cons (pv 5) (pv 6) pps_nil) (by rfl) (by rfl) (fun z => by cases z) (by decide)) pps_nil) (by rfl) (by rfl) (fun z => by cases z) (by decide)) (pa_cons pe_int (pa_cons (pe_disp (pps_cons (pv 4) (pe_disp (pps_cons (pv 5) pe_non pps_nil) (by rfl) (by rfl) (fun z => by cases z) (by decide)) pps_nil) (by rfl) (by rfl) (fun z => by cases z) (by decide)) pa_nil)))) (pa_cons (pe_make Z.mkC gI hr3 rfl Z.mgC Z.b .nil pass0 (pa_cons pe_str (pa_cons pe_non (pa_cons (pe_lst (pa_cons (pe_tup (pa_cons (pv 4) (pa_cons (pe_call gB hr rfl Db.m Db.F.kp Db.b .nil pass0 (pa_cons (pe_lst pa_nil) pa_nil)) pa_nil))) pa_nil)) pa_nil)))) pa_nil))) pa_nil)))
      (pss_one (ps_for PassesOwn.never rfl (pi_list (pv 10)) (pg_tup rfl (pgs_cons (pg_name (i := 17) scLaw.nd rfl (Or.inl rfl) (Or.inr rfl)) (pgs_cons (pg_name (i := 18) scLaw.nd rfl (Or.inl rfl) (Or.inr rfl)) pgs_nil))) (pss_one (ps_if (PW.pt (pw_or (pt_cmpR (op_neOwn (C := C) gQ hrQ bq pass0 hNe) (pe_call gE hr rfl De.m De.F.kp De.b .nil pass0 (pa_cons (pv 17) pa_nil)) (pv 18) (nomark _)) (pw_or1 (pt_cmpR (op_neOwn (C := C) gQ hrQ bq pass0 hNe) (pe_call gE hr rfl De.m De.F.kp De.b .nil pass0 (pa_cons (pe_op op_cat (pv 17) (pv 17)) pa_nil)) (pv 18) (nomark _))))) (pss_one (ps_ret pe_bl)) pss_nil)))))))))))))))))))))))))))) (pss_one (ps_ret pe_bl)), ?_⟩
  refine ⟨_, rfl, (by show 1 ≤ sizeLine; decide), fun p0 h0 => ?_⟩
  refine ⟨a, p0, ns.map V.int, [.int 0], rfl, rfl, hS.ex (Ex.new h0), upd_same, (by show 1 ≤ 1000; decide), fun p1 h1 => ?_⟩
  refine ⟨3, rfl, p1, _, rfl, .inl (.inl upd_same), fun pL hL => ?_⟩
  refine ⟨pL, rfl, ⟨_, .inl (.inl upd_same)⟩, ?_⟩
  have tb1 : LamX.TabS (upd (upd (upd H p0 (.lst [.int 0])) p1 (.lst (ns.map V.int ++ [.int 0]))) pL (.lst (cutV (ns.map V.int ++ [.int 0]) none (some 3)))) Pt qLam := (Ex.new hL).tab _ _ Z.hR ((Ex.new h1).tab _ _ Z.hR ((Ex.new h0).tab _ _ Z.hR tb0))
  have lL : (upd (upd (upd H p0 (.lst [.int 0])) p1 (.lst (ns.map V.int ++ [.int 0]))) pL (.lst (cutV (ns.map V.int ++ [.int 0]) none (some 3)))) pL = some (.lst (cutV (ns.map V.int ++ [.int 0]) none (some 3))) := upd_same
  generalize (upd (upd (upd H p0 (.lst [.int 0])) p1 (.lst (ns.map V.int ++ [.int 0]))) pL (.lst (cutV (ns.map V.int ++ [.int 0]) none (some 3)))) = H1 at tb1 lL ⊢
  refine for_list (K := K) (a := pL) (xs := cutV (ns.map V.int ++ [.int 0]) none (some 3)) (fun i σ H3 => (∃ y1 y2 y3 y4 y5 y6 y7 y8 y9 y10 y11 y12 y13 y14 y15 y16 y17 y18 y19, σ = [some (.ref a), y1, y2, y3, y4, y5, y6, y7, y8, y9, y10, y11, y12, y13, y14, y15, y16, y17, y18, y19]) ∧ Ex H1 H3) ⟨⟨_, _, _, _, _, _, _, _, _, _, _, _, _, _, _, _, _, _, _, rfl⟩, Ex.refl _⟩ (fun i σ H3 _ q => .inl (.inl (q.2 pL _ lL))) ?_ ?_
  · rintro i x σ H3 hi ⟨⟨y1, y2, y3, y4, y5, y6, y7, y8, y9, y10, y11, y12, y13, y14, y15, y16, y17, y18, y19, rfl⟩, e13⟩
    obtain ⟨num, rfl⟩ : ∃ z, x = V.int z := by
      have := mem_cutV (List.mem_of_getElem? hi)
      rcases List.mem_append.mp this with z | z
      · obtain ⟨z, _, e⟩ := List.mem_map.mp z
        exact ⟨z, e.symm⟩
      · exact ⟨0, List.mem_singleton.mp z⟩
    refine ⟨_, rfl, num, rfl, fun p H4 np e4 st4 _ => ?_⟩
    have e14 : Ex H1 H4 := e13.trans e4
    have np1 : H1 p = none := fresh_back e13 np
    clear np e13 e4
    -- the path
    refine ⟨.ref p, rfl, p, 6, rfl, st4, by decide, by decide, fun t H5 t0 t1 m5 _ => ?_⟩
    refine ⟨_, _, rfl, rfl, ⟨1 + t, rfl, by omega, by omega, fun D hD => ?_⟩⟩
    have nDp : D ≠ p := fun z => m5.st.ne (by rw [← z]; exact hD)
    refine lc_range (lo := 0) (n := (1 + t).toNat) (fun i H6 => Mv p H5 H6 ∧ ∃ ks : List Str, H6 D = some (.lst (ks.map V.str)) ∧ ks.length = i ∧ ∀ k ∈ ks, k ∈ g24.KS) ⟨(Mv.refl m5.st).new hD, [], upd_same, rfl, fun k hk => nomatch hk⟩ (fun i H6 hi q => ?_) fun H6 q => ?_
    · obtain ⟨m6, ks, h6, hl, hks⟩ := q
      refine ⟨rfl, t_yes ?_⟩
      refine ⟨(by show 7 ≤ sizeLine; decide), fun q hq => ⟨.ref p, rfl, p, 7, rfl, ((m6.new (o := .lst [.str "a", .str "b2", .str "", .str "Key", .str "a b", .str "a.b", .str "keep"]) hq)).st, by decide, by decide, fun j H8 j0 j1 m8 same8 => ?_⟩⟩
      have nDq : D ≠ q := ne_of_none h6 hq
      have nqp : q ≠ p := fun z => m6.st.ne (by rw [← z]; exact hq)
      have l8 : SqL K H8 q [.str "a", .str "b2", .str "", .str "Key", .str "a b", .str "a.b", .str "keep"] := .inl (.inl (by rw [same8 q nqp, upd_same]))
      have h8 : H8 D = some (.lst (ks.map V.str)) := by rw [same8 D nDp, upd_ne nDq]; exact h6
      obtain ⟨key, hk, at'⟩ : ∃ key : Str, key ∈ g24.KS ∧ atI [V.str "a", .str "b2", .str "", .str "Key", .str "a b", .str "a.b", .str "keep"] j = some (.str key) := by
        have hj : j = 0 ∨ j = 1 ∨ j = 2 ∨ j = 3 ∨ j = 4 ∨ j = 5 ∨ j = 6 := by omega
        rcases hj with rfl | rfl | rfl | rfl | rfl | rfl | rfl
        · exact ⟨_, by decide +kernel, atI_nat (j := 0) rfl⟩
        · exact ⟨_, by decide +kernel, atI_nat (j := 1) rfl⟩
        · exact ⟨_, by decide +kernel, atI_nat (j := 2) rfl⟩
        · exact ⟨_, by decide +kernel, atI_nat (j := 3) rfl⟩
        · exact ⟨_, by decide +kernel, atI_nat (j := 4) rfl⟩
        · exact ⟨_, by decide +kernel, atI_nat (j := 5) rfl⟩
        · exact ⟨_, by decide +kernel, atI_nat (j := 6) rfl⟩
      refine ⟨q, _, j, _, rfl, rfl, l8, at', _, h8, ?_, ((m6.new hq).trans m8).mut m5.st.ne hD h8, ks ++ [key], by rw [upd_same, List.map_append]; rfl, by rw [List.length_append, hl]; rfl, fun k hk' => ?_⟩
      · rw [List.length_map, hl]
        exact Nat.lt_of_lt_of_le (show i < 1000 by omega) (by decide)
      · rcases List.mem_append.mp hk' with z | z
        · exact hks k z
        · rw [List.mem_singleton.mp z]; exact hk
    obtain ⟨m6, ks', h6, hl, hks⟩ := q
    have m46 := m5.trans m6
    obtain ⟨k0, ks, rfl⟩ : ∃ k0 ks, ks' = k0 :: ks := by
      cases ks' with
      | nil => rw [List.length_nil] at hl; omega
      | cons k0 ks => exact ⟨k0, ks, rfl⟩
    have hlen6 : (k0 :: ks).length ≤ 6 := by omega
    clear hl m5 m6 hD
    -- x and y
    refine ⟨(by show 3 ≤ sizeLine; decide), fun q1 hq1 => ⟨.ref p, rfl, p, 3, rfl, (m46.new (o := .lst [.str "p", .str "q", .str "r"]) hq1).st, by decide, by decide, fun jx H7 jx0 jx1 m7 same7 => ?_⟩⟩
    have nq1 : q1 ≠ p := fun z => m46.st.ne (by rw [← z]; exact hq1)
    have l7 : SqL K H7 q1 [.str "p", .str "q", .str "r"] := .inl (.inl (by rw [same7 q1 nq1, upd_same]))
    have h7 : H7 D = some (.lst ((k0 :: ks).map V.str)) := m7.ex D _ nDp ((Ex.new hq1) D _ h6)
    have m47 := (m46.new hq1).trans m7
    obtain ⟨x, hx, atx, hxs⟩ : ∃ x : Str, x ∈ g24.KS ∧ atI [V.str "p", .str "q", .str "r"] jx = some (.str x) ∧ (x = "p" ∨ x = "q" ∨ x = "r") := by
      have hj : jx = 0 ∨ jx = 1 ∨ jx = 2 := by omega
      rcases hj with rfl | rfl | rfl
      · exact ⟨_, by decide +kernel, atI_nat (j := 0) rfl, .inl rfl⟩
      · exact ⟨_, by decide +kernel, atI_nat (j := 1) rfl, .inr (.inl rfl)⟩
      · exact ⟨_, by decide +kernel, atI_nat (j := 2) rfl, .inr (.inr rfl)⟩
    refine ⟨q1, _, jx, _, rfl, rfl, l7, atx, ?_⟩
    refine ⟨(by show 2 ≤ sizeLine; decide), fun q2 hq2 => ⟨.ref p, rfl, p, 2, rfl, (m47.new (o := .lst [.str "s", .str "t"]) hq2).st, by decide, by decide, fun jy H8 jy0 jy1 m8 same8 => ?_⟩⟩
    have nq2 : q2 ≠ p := fun z => m47.st.ne (by rw [← z]; exact hq2)
    have l8 : SqL K H8 q2 [.str "s", .str "t"] := .inl (.inl (by rw [same8 q2 nq2, upd_same]))
    have h8 : H8 D = some (.lst ((k0 :: ks).map V.str)) := m8.ex D _ nDp ((Ex.new hq2) D _ h7)
    have m48 := (m47.new hq2).trans m8
    obtain ⟨y, hy, aty, hys⟩ : ∃ y : Str, y ∈ g24.KS ∧ atI [V.str "s", .str "t"] jy = some (.str y) ∧ (y = "s" ∨ y = "t") := by
      have hj : jy = 0 ∨ jy = 1 := by omega
      rcases hj with rfl | rfl
      · exact ⟨_, by decide +kernel, atI_nat (j := 0) rfl, .inl rfl⟩
      · exact ⟨_, by decide +kernel, atI_nat (j := 1) rfl, .inr rfl⟩
    have hxy : x ≠ y := by rcases hxs with rfl | rfl | rfl <;> rcases hys with rfl | rfl <;> decide +kernel
    refine ⟨q2, _, jy, _, rfl, rfl, l8, aty, .str x, .str y, rfl, ?_⟩
    clear hxs hys l7 l8 same7 same8 m7 m8 m47 h7 h6 m46
    -- the atoms
    have ls : ∀ (H : Hp) (q : Addr) (xs : List V), q ≠ p → H q = some (.lst xs) → (xs.length ≤ 2 ∧ ∀ z ∈ xs, g24.C z = true) → Dc (NotP p) g24 H 1 (.ref q) (.ls xs) := fun H q xs n h z => Dc.ls n h z
    refine ⟨(by show 2 ≤ sizeLine; decide), fun l1 hl1 => ⟨_, _, rfl, rfl, ⟨by decide, by decide, by decide⟩, (by show 4 ≤ sizeLine; decide), fun q3 hq3 => ?_⟩⟩
    have m48a := m48.new (o := .lst [.int 1, .non]) hl1
    refine ⟨.ref p, rfl, p, 4, rfl, (m48a.new (o := .lst [.int 0, .str "drop", .ref l1, .int (10 ^ (30 : Int).toNat)]) hq3).st, by decide, by decide, fun ja H9 ja0 ja1 m9 same9 => ?_⟩
    have nl1 : l1 ≠ p := fun z => m48.st.ne (by rw [← z]; exact hl1)
    have nq3 : q3 ≠ p := fun z => m48a.st.ne (by rw [← z]; exact hq3)
    have nl1q : l1 ≠ q3 := ne_of_none upd_same hq3
    have l9 : SqL K H9 q3 [.int 0, .str "drop", .ref l1, .int (10 ^ (30 : Int).toNat)] := .inl (.inl (by rw [same9 q3 nq3, upd_same]))
    have l9a : H9 l1 = some (.lst [.int 1, .non]) := by rw [same9 l1 nl1, upd_ne nl1q, upd_same]
    have m49 := (m48a.new hq3).trans m9
    have h9 : H9 D = some (.lst ((k0 :: ks).map V.str)) := m9.ex D _ nDp ((Ex.new hq3) D _ ((Ex.new hl1) D _ h8))
    obtain ⟨va, A, ata, hA, hA'⟩ : ∃ va A, atI [V.int 0, .str "drop", .ref l1, .int (10 ^ (30 : Int).toNat)] ja = some va ∧ Dc (NotP p) g24 H9 1 va A ∧ At A := by
      have hj : ja = 0 ∨ ja = 1 ∨ ja = 2 ∨ ja = 3 := by omega
      rcases hj with rfl | rfl | rfl | rfl
      · exact ⟨_, _, atI_nat (j := 0) rfl, Dc.sc (by decide +kernel), rfl, rfl, rfl⟩
      · exact ⟨_, _, atI_nat (j := 1) rfl, Dc.sc (by decide +kernel), rfl, rfl, rfl⟩
      · exact ⟨_, _, atI_nat (j := 2) rfl, ls _ _ _ nl1 l9a (by decide +kernel), rfl, rfl, rfl⟩
      · exact ⟨_, _, atI_nat (j := 3) rfl, Dc.sc (by decide +kernel), rfl, rfl, rfl⟩
    refine ⟨q3, _, ja, _, rfl, rfl, l9, ata, ?_⟩
    refine ⟨(by show 0 ≤ sizeLine; decide), fun l2 hl2 => ⟨(by show 4 ≤ sizeLine; decide), fun q4 hq4 => ?_⟩⟩
    have m49a := m49.new (o := .lst []) hl2
    refine ⟨.ref p, rfl, p, 4, rfl, (m49a.new (o := .lst [.int 5, .str "keep", .ref l2, .str "missing"]) hq4).st, by decide, by decide, fun jb H10 jb0 jb1 m10 same10 => ?_⟩
    have nl2 : l2 ≠ p := fun z => m49.st.ne (by rw [← z]; exact hl2)
    have nq4 : q4 ≠ p := fun z => m49a.st.ne (by rw [← z]; exact hq4)
    have nl2q : l2 ≠ q4 := ne_of_none upd_same hq4
    have l10 : SqL K H10 q4 [.int 5, .str "keep", .ref l2, .str "missing"] := .inl (.inl (by rw [same10 q4 nq4, upd_same]))
    have l10a : H10 l2 = some (.lst []) := by rw [same10 l2 nl2, upd_ne nl2q, upd_same]
    have m410 := (m49a.new hq4).trans m10
    have h10 : H10 D = some (.lst ((k0 :: ks).map V.str)) := m10.ex D _ nDp ((Ex.new hq4) D _ ((Ex.new hl2) D _ h9))
    have hA10 : Dc (NotP p) g24 H10 1 va A := ((hA.ex (Ex.new hl2)).ex (Ex.new hq4)).mv m10 fun z => z rfl
    obtain ⟨vb, B, atb, hB, hB'⟩ : ∃ vb B, atI [V.int 5, .str "keep", .ref l2, .str "missing"] jb = some vb ∧ Dc (NotP p) g24 H10 1 vb B ∧ At B := by
      have hj : jb = 0 ∨ jb = 1 ∨ jb = 2 ∨ jb = 3 := by omega
      rcases hj with rfl | rfl | rfl | rfl
      · exact ⟨_, _, atI_nat (j := 0) rfl, Dc.sc (by decide +kernel), rfl, rfl, rfl⟩
      · exact ⟨_, _, atI_nat (j := 1) rfl, Dc.sc (by decide +kernel), rfl, rfl, rfl⟩
      · exact ⟨_, _, atI_nat (j := 2) rfl, ls _ _ _ nl2 l10a (by decide +kernel), rfl, rfl, rfl⟩
      · exact ⟨_, _, atI_nat (j := 3) rfl, Dc.sc (by decide +kernel), rfl, rfl, rfl⟩
    refine ⟨q4, _, jb, _, rfl, rfl, l10, atb, va, vb, rfl, ?_⟩
    -- what is gone
    refine ⟨(by show 1 ≤ sizeLine; decide), fun l3 hl3 => ⟨(by show 4 ≤ sizeLine; decide), fun q5 hq5 => ?_⟩⟩
    have m410a := m410.new (o := .lst [.int 2]) hl3
    refine ⟨.ref p, rfl, p, 4, rfl, (m410a.new (o := .lst [.non, .int 7, .str "w", .ref l3]) hq5).st, by decide, by decide, fun jg H11 jg0 jg1 m11 same11 => ?_⟩
    have nl3 : l3 ≠ p := fun z => m410.st.ne (by rw [← z]; exact hl3)
    have nq5 : q5 ≠ p := fun z => m410a.st.ne (by rw [← z]; exact hq5)
    have nl3q : l3 ≠ q5 := ne_of_none upd_same hq5
    have l11 : SqL K H11 q5 [.non, .int 7, .str "w", .ref l3] := .inl (.inl (by rw [same11 q5 nq5, upd_same]))
    have l11a : H11 l3 = some (.lst [.int 2]) := by rw [same11 l3 nl3, upd_ne nl3q, upd_same]
    have m411 := (m410a.new hq5).trans m11
    have h11 : H11 D = some (.lst ((k0 :: ks).map V.str)) := m11.ex D _ nDp ((Ex.new hq5) D _ ((Ex.new hl3) D _ h10))
    have hA11 : Dc (NotP p) g24 H11 1 va A := ((hA10.ex (Ex.new hl3)).ex (Ex.new hq5)).mv m11 fun z => z rfl
    have hB11 : Dc (NotP p) g24 H11 1 vb B := ((hB.ex (Ex.new hl3)).ex (Ex.new hq5)).mv m11 fun z => z rfl
    obtain ⟨vg, Gd, atg, hG, hG'⟩ : ∃ vg Gd, atI [V.non, .int 7, .str "w", .ref l3] jg = some vg ∧ Dc (NotP p) g24 H11 1 vg Gd ∧ Gd.isOb = false := by
      have hj : jg = 0 ∨ jg = 1 ∨ jg = 2 ∨ jg = 3 := by omega
      rcases hj with rfl | rfl | rfl | rfl
      · exact ⟨_, _, atI_nat (j := 0) rfl, Dc.sc (by decide +kernel), rfl⟩
      · exact ⟨_, _, atI_nat (j := 1) rfl, Dc.sc (by decide +kernel), rfl⟩
      · exact ⟨_, _, atI_nat (j := 2) rfl, Dc.sc (by decide +kernel), rfl⟩
      · exact ⟨_, _, atI_nat (j := 3) rfl, ls _ _ _ nl3 l11a (by decide +kernel), rfl⟩
    refine ⟨q5, _, jg, _, rfl, rfl, l11, atg, ?_⟩
    have e111 : Ex H1 H11 := mv_ex e14 np1 m411
    have W : W24 Pt p H11 D k0 ks x y va vb vg A B Gd := ⟨nDp, h11, hks, hlen6, hx, hy, hxy, hA11, hA', hB11, hB', hG, hG', e111.tab _ _ Z.hR tb1⟩
    clear l9 l9a l10 l10a l11 l11a same9 same10 same11 m9 m10 m11 m48 m48a m49 m49a m410 m410a m411 h8 h9 h10 h11 hA hA10 hA11 hB hB11 hG hl1 hl2 hl3 hq1 hq2 hq3 hq4 hq5 hks hlen6 hx hy hxy hA' hB' hG' ls
    have hN : g24.C .non = true := by decide +kernel
    -- the tree of both
    refine ⟨_, rfl, _, rfl, (by show 0 ≤ sizeLine; decide), fun pl hpl => ?_⟩
    intro xx dx nx ndx ne
    refine spInit_mono (mk_set (n := 0) (m := 0) (W.a.ex (Ex.new hpl)) W.atA.2.2 Z.hR (.inl upd_same) ((Ex.new hpl).tab _ _ Z.hR W.tb) xx dx nx ndx ne) ?_
    rintro _ H12 ⟨rfl, e12, s12⟩
    refine ⟨rfl, (by show 2 ≤ sizeLine; decide), fun t1 ht1 => ?_⟩
    have s12 := s12.imp fun z hz => fresh_back (Ex.new hpl) hz
    have e12 := (Ex.new hpl).trans e12
    have e13 := e12.trans (Ex.new ht1 (o := .tup [.str x, .ref xx]))
    have s13 := s12.ex (Ex.new ht1 (o := .tup [.str x, .ref xx]))
    have l13 : (upd H12 t1 (.tup [.str x, .ref xx])) t1 = some (.tup [.str x, .ref xx]) := upd_same
    generalize (upd H12 t1 (.tup [.str x, .ref xx])) = H13 at e13 s13 l13 ⊢
    clear nx ndx ne e12 s12 ht1 hpl
    have W13 := W.ex Z.hR e13
    refine ⟨_, rfl, _, rfl, (by show 0 ≤ sizeLine; decide), fun pl hpl => ?_⟩
    intro xy dx nx ndx ne
    refine spInit_mono (mk_set (n := 0) (m := 0) (W13.b.ex (Ex.new hpl)) W13.atB.2.2 Z.hR (.inl upd_same) ((Ex.new hpl).tab _ _ Z.hR W13.tb) xy dx nx ndx ne) ?_
    rintro _ H14 ⟨rfl, e14, s14⟩
    refine ⟨rfl, (by show 2 ≤ sizeLine; decide), fun t2 ht2 => ⟨(by show 2 ≤ sizeLine; decide), fun m0 hm0 => ?_⟩⟩
    have s14 := s14.imp fun z hz => fresh_back (Ex.new hpl) hz
    have e14' := (Ex.new hpl).trans e14
    have e15 := (e14'.trans (Ex.new ht2 (o := .tup [.str y, .ref xy]))).trans (Ex.new hm0 (o := .lst [.ref t1, .ref t2]))
    have s15 := (s14.ex (Ex.new ht2 (o := .tup [.str y, .ref xy]))).ex (Ex.new hm0 (o := .lst [.ref t1, .ref t2]))
    have l15 : (upd (upd H14 t2 (.tup [.str y, .ref xy])) m0 (.lst [.ref t1, .ref t2])) t2 = some (.tup [.str y, .ref xy]) := (Ex.new hm0) _ _ upd_same
    have l15m : (upd (upd H14 t2 (.tup [.str y, .ref xy])) m0 (.lst [.ref t1, .ref t2])) m0 = some (.lst [.ref t1, .ref t2]) := upd_same
    generalize (upd (upd H14 t2 (.tup [.str y, .ref xy])) m0 (.lst [.ref t1, .ref t2])) = H15 at e15 s15 l15 l15m ⊢
    clear nx ndx ne e14' e14 s14 ht2 hpl hm0
    have W15 := W13.ex Z.hR e15
    intro xb dx nx ndx ne
    refine spInit_mono (mk_two (n := 1) (S := fun z => H11 z = none) hN Z.hR W.hx W.hy W.xy l15m (e15 _ _ l13) l15 W15.tb (s13.ex e15) (s15.imp fun z hz => fresh_back e13 hz) xb dx nx ndx ne) ?_
    rintro _ H16 ⟨rfl, e16, M16⟩
    refine ⟨rfl, ?_⟩
    have b16 := M16.1 rfl
    have W16 := W15.ex Z.hR e16
    have e116 := e111.trans ((e13.trans e15).trans e16)
    have Wx : (x ∈ g24.KS) ∧ (y ∈ g24.KS) ∧ x ≠ y ∧ At A ∧ At B ∧ Gd.isOb = false ∧ (k0 :: ks).length ≤ 6 ∧ ∀ k ∈ k0 :: ks, k ∈ g24.KS := ⟨W.hx, W.hy, W.xy, W.atA, W.atB, W.gob, W.len, W.hks⟩
    clear M16 nx ndx ne e16 l15 l15m l13 s13 s15 e13 e15 W13 W15 W
    obtain ⟨hx, hy, hxy, hA, hB, hG, hl6, hks⟩ := Wx
    have hl1000 : (k0 :: ks).length ≤ 1000 := by omega
    have pdA : PD (oneD x A) 2 ∧ DD (oneD x A) 1 := ⟨pd_one (at_pd hA.2.2).1, dd_one (at_pd hA.2.2).2⟩
    have pdB : PD (oneD y B) 2 ∧ DD (oneD y B) 1 := ⟨pd_one (at_pd hB.2.2).1, dd_one (at_pd hB.2.2).2⟩
    -- the first case
    refine ⟨_, rfl, fun pd hpd => ⟨_, rfl, _, rfl, upd_same, [(Sum.inr x, va)], rfl, (by show 1 ≤ 15; decide), ?_⟩⟩
    obtain ⟨e17, l17⟩ := disp1 x va hpd
    generalize (upd (upd H16 pd (.dK [])) pd (.dK (mergeK [] [(Sum.inr x, va)]))) = H17 at e17 l17 ⊢
    clear hpd
    have W17 := W16.ex Z.hR e17
    refine ⟨fun _ => True, D, .ref pd, k0 :: ks, oneD x A, rfl, W17.path, hks, hl1000, dc_one hx trivial l17 (W17.a.imp fun _ _ => trivial), fun r1 H18 e18 hr1 => ?_⟩
    have W18 := W17.ex Z.hR e18
    refine ⟨_, rfl, fun pd hpd => ⟨_, rfl, _, rfl, upd_same, [(Sum.inr y, vb)], rfl, (by show 1 ≤ 15; decide), ?_⟩⟩
    obtain ⟨e19, l19⟩ := disp1 y vb hpd
    generalize (upd (upd H18 pd (.dK [])) pd (.dK (mergeK [] [(Sum.inr y, vb)]))) = H19 at e19 l19 ⊢
    clear hpd
    have W19 := W18.ex Z.hR e19
    refine ⟨fun _ => True, D, .ref pd, k0 :: ks, oneD y B, rfl, W19.path, hks, hl1000, dc_one hy trivial l19 (W19.b.imp fun _ _ => trivial), fun r2 H20 e20 hr2 => ?_⟩
    refine ⟨(by show 2 ≤ sizeLine; decide), fun rl hrl => ?_⟩
    have e21 : Ex H20 (upd H20 rl (.lst [r1, r2])) := Ex.new hrl
    have l21 : (upd H20 rl (.lst [r1, r2])) rl = some (.lst [r1, r2]) := upd_same
    generalize (upd H20 rl (.lst [r1, r2])) = H21 at e21 l21 ⊢
    clear hrl
    have e1621 := (e17.trans e18).trans ((e19.trans e20).trans e21)
    have W21 := W16.ex Z.hR e1621
    refine ⟨_, rfl, _, rfl, fun _ => True, D, .ref xb, k0 :: ks, _, rfl, W21.path, hks, (b16.ex e1621).imp fun _ _ => trivial, W21.tb, fun v1 H22 e22 hv1 => ?_⟩
    refine ⟨(by show 2 ≤ sizeLine; decide), fun t1 ht1 => ⟨(by show 1 ≤ sizeLine; decide), fun pc hpc => ?_⟩⟩
    have e23 : Ex H22 (upd H22 t1 (.tup [.ref rl, v1])) := Ex.new ht1
    have l23 : (upd H22 t1 (.tup [.ref rl, v1])) t1 = some (.tup [.ref rl, v1]) := upd_same
    generalize (upd H22 t1 (.tup [.ref rl, v1])) = H23 at e23 l23 hpc ⊢
    have e24 : Ex H23 (upd H23 pc (.lst [.ref t1])) := Ex.new hpc
    have l24 : (upd H23 pc (.lst [.ref t1])) pc = some (.lst [.ref t1]) := upd_same
    have I : Iv C Pt pc (upd H23 pc (.lst [.ref t1])) D k0 ks x y va vb vg A B Gd [t1] := by
      have W23 := (W21.ex Z.hR (e22.trans e23)).re hpc
      refine ⟨l24, fun t ht => ?_, W23.ex Z.hR e24⟩
      rw [List.mem_singleton.mp ht]
      refine case_nest [(r1, _), (r2, _)] (oneD x A) [oneD y B] (e24 _ _ l23) (ne_of_none l23 hpc) (ne_of_none ((e22.trans e23) _ _ l21) hpc) ((e22.trans (e23.trans e24)) _ _ l21) (by show 2 ≤ 4; decide) rfl (fun q hq => ?_) ((((hv1.ex e23).re hpc).ex e24).lift (by omega)) (fun d hd => ?_) (rw_c1 hA hB hxy)
      · simp only [List.mem_cons, List.not_mem_nil, or_false] at hq
        rcases hq with rfl | rfl
        · exact nst_ok hl6 (((hr1.ex (((e19.trans e20).trans e21).trans (e22.trans e23))).re hpc).ex e24) pdA.1 pdA.2
        · exact nst_ok hl6 (((hr2.ex (e21.trans (e22.trans e23))).re hpc).ex e24) pdB.1 pdB.2
      · simp only [List.mem_cons, List.not_mem_nil, or_false] at hd
        rcases hd with rfl | rfl <;> rfl
    have e124 := e116.trans ((e1621.trans e22).trans (e23.trans e24))
    generalize (upd H23 pc (.lst [.ref t1])) = H24 at I e124 ⊢
    have npc : H1 pc = none := fresh_back (e116.trans (e1621.trans (e22.trans e23))) hpc
    clear e17 l17 W17 hr1 e18 W18 e19 l19 W19 hr2 e20 e21 l21 e1621 W21 hv1 e22 ht1 e23 l23 hpc e24 l24 W16 b16 e116
    have e1 := e124
    clear e124
    have pdG : PD Gd 2 ∧ DD Gd 1 := ⟨(at_pd hG).1.mono (by decide), (at_pd hG).2.mono (by decide)⟩
    have gnil : Gd.isNil = false := I.2.2.g.ne_nil
    have pdE : PD (.ob fun _ => .nil) 2 ∧ DD (.ob fun _ => .nil) 1 := ⟨⟨[], fun _ => 0, fun k hk => (nomatch hk), fun _ => trivial, by decide⟩, by decide, fun _ => trivial⟩
    refine ⟨fun σ H' => ∃ vf, ∃ z19, σ = [some (.ref a), some (.int num), some (.ref p), some (.ref D), some (.str x), some (.str y), some va, some vb, some vg, some (.ref xb), some (.ref pc), some vf, y12, y13, y14, y15, y16, y17, y18, z19] ∧ Iv C Pt pc H' D k0 ks x y va vb vg A B Gd ([t1]) ∧ Ex H1 H' ∧ Dc (NotP pc) g24 H' (2 + (k0 :: ks).length) vf (nestD (k0 :: ks) (oneD x A)), ?_, ?_⟩
    ·
      refine ⟨_, rfl, fun pd1 hpd1 => ⟨_, rfl, _, rfl, upd_same, [(Sum.inr x, va)], rfl, (by show 1 ≤ 15; decide), ?_⟩⟩
      have npd1 : pd1 ≠ pc := (ne_of_none I.1 hpd1).symm
      obtain ⟨ea, lpd1⟩ := disp1 x va hpd1
      generalize (upd (upd H24 pd1 (.dK [])) pd1 (.dK (mergeK [] [(Sum.inr x, va)]))) = H25 at ea lpd1 ⊢
      replace I := I.ex Z.hR ea
      replace e1 := e1.trans ea
      clear ea hpd1
      refine ⟨NotP pc, D, .ref pd1, k0 :: ks, oneD x A, rfl, I.2.2.path, hks, hl1000, dc_one hx npd1 lpd1 I.2.2.a, fun vf H26 eb qf => ?_⟩
      replace qf := qf.imp (ne_new I.1)
      replace I := I.ex Z.hR eb
      replace e1 := e1.trans eb
      clear eb
      clear lpd1 npd1
      exact ⟨vf, _, rfl, I, e1, qf⟩
    clear I e1
    rintro σ H27 ⟨vf, z19, rfl, I, e1, qf⟩
    refine ⟨fun σ H' => ∃ vl, σ = [some (.ref a), some (.int num), some (.ref p), some (.ref D), some (.str x), some (.str y), some va, some vb, some vg, some (.ref xb), some (.ref pc), some vf, some vl, y13, y14, y15, y16, y17, y18, z19] ∧ Iv C Pt pc H' D k0 ks x y va vb vg A B Gd ([t1]) ∧ Ex H1 H' ∧ Dc (NotP pc) g24 H' (2 + (k0 :: ks).length) vf (nestD (k0 :: ks) (oneD x A)) ∧ Dc (NotP pc) g24 H' (2 + (k0 :: ks).length) vl (nestD (k0 :: ks) (oneD y B)), ?_, ?_⟩
    ·
      refine ⟨_, rfl, fun pd2 hpd2 => ⟨_, rfl, _, rfl, upd_same, [(Sum.inr y, vb)], rfl, (by show 1 ≤ 15; decide), ?_⟩⟩
      have npd2 : pd2 ≠ pc := (ne_of_none I.1 hpd2).symm
      obtain ⟨ea, lpd2⟩ := disp1 y vb hpd2
      generalize (upd (upd H27 pd2 (.dK [])) pd2 (.dK (mergeK [] [(Sum.inr y, vb)]))) = H28 at ea lpd2 ⊢
      replace I := I.ex Z.hR ea
      replace e1 := e1.trans ea
      replace qf := qf.ex ea
      clear ea hpd2
      refine ⟨NotP pc, D, .ref pd2, k0 :: ks, oneD y B, rfl, I.2.2.path, hks, hl1000, dc_one hy npd2 lpd2 I.2.2.b, fun vl H29 eb ql => ?_⟩
      replace ql := ql.imp (ne_new I.1)
      replace I := I.ex Z.hR eb
      replace e1 := e1.trans eb
      replace qf := qf.ex eb
      clear eb
      clear lpd2 npd2
      exact ⟨vl, rfl, I, e1, qf, ql⟩
    clear I e1 qf
    rintro σ H30 ⟨vl, rfl, I, e1, qf, ql⟩
    refine ⟨fun σ H' => ∃ t2, σ = [some (.ref a), some (.int num), some (.ref p), some (.ref D), some (.str x), some (.str y), some va, some vb, some vg, some (.ref xb), some (.ref pc), some vf, some vl, y13, y14, y15, y16, y17, y18, z19] ∧ Iv C Pt pc H' D k0 ks x y va vb vg A B Gd ([t1] ++ [t2]) ∧ Ex H1 H' ∧ Dc (NotP pc) g24 H' (2 + (k0 :: ks).length) vf (nestD (k0 :: ks) (oneD x A)) ∧ Dc (NotP pc) g24 H' (2 + (k0 :: ks).length) vl (nestD (k0 :: ks) (oneD y B)), ?_, ?_⟩
    ·
      refine ⟨_, rfl, .inl ⟨rfl, _, .inl (.inl I.1)⟩, ?_⟩
      refine ⟨_, rfl, ?_⟩
      refine ⟨_, rfl, _, rfl, ?_⟩
      refine ⟨NotP pc, D, vg, k0 :: ks, Gd, rfl, I.2.2.path, hks, hl1000, I.2.2.g.lift (by decide), fun vgn H31 eb qg => ?_⟩
      replace qg := qg.imp (ne_new I.1)
      replace I := I.ex Z.hR eb
      replace e1 := e1.trans eb
      replace qf := qf.ex eb
      replace ql := ql.ex eb
      clear eb
      refine ⟨_, rfl, ?_⟩
      refine ⟨(by show 3 ≤ sizeLine; decide), fun r2 hr2 => ?_⟩
      have nr2 : r2 ≠ pc := (ne_of_none I.1 hr2).symm
      have ea : Ex H31 (upd H31 r2 (.lst [vf, vgn, vl])) := Ex.new hr2
      have lr2 : (upd H31 r2 (.lst [vf, vgn, vl])) r2 = some (.lst [vf, vgn, vl]) := upd_same
      generalize (upd H31 r2 (.lst [vf, vgn, vl])) = H32 at ea lr2 ⊢
      replace I := I.ex Z.hR ea
      replace e1 := e1.trans ea
      replace qf := qf.ex ea
      replace ql := ql.ex ea
      replace qg := qg.ex ea
      clear ea hr2
      refine ⟨_, rfl, ?_⟩
      refine ⟨_, rfl, _, rfl, ?_⟩
      refine ⟨(by show 2 ≤ sizeLine; decide), fun tt3_0 htt3_0 => ?_⟩
      have ntt3_0 : tt3_0 ≠ pc := (ne_of_none I.1 htt3_0).symm
      have ea : Ex H32 (upd H32 tt3_0 (.tup [.str y, vb])) := Ex.new htt3_0
      have ltt3_0 : (upd H32 tt3_0 (.tup [.str y, vb])) tt3_0 = some (.tup [.str y, vb]) := upd_same
      generalize (upd H32 tt3_0 (.tup [.str y, vb])) = H33 at ea ltt3_0 ⊢
      replace I := I.ex Z.hR ea
      replace e1 := e1.trans ea
      replace qf := qf.ex ea
      replace ql := ql.ex ea
      replace qg := qg.ex ea
      replace lr2 := ea _ _ lr2
      clear ea htt3_0
      refine ⟨(by show 1 ≤ sizeLine; decide), fun ll3 hll3 => ?_⟩
      have nll3 : ll3 ≠ pc := (ne_of_none I.1 hll3).symm
      have ea : Ex H33 (upd H33 ll3 (.lst [.ref tt3_0])) := Ex.new hll3
      have lll3 : (upd H33 ll3 (.lst [.ref tt3_0])) ll3 = some (.lst [.ref tt3_0]) := upd_same
      generalize (upd H33 ll3 (.lst [.ref tt3_0])) = H34 at ea lll3 ⊢
      replace I := I.ex Z.hR ea
      replace e1 := e1.trans ea
      replace qf := qf.ex ea
      replace ql := ql.ex ea
      replace qg := qg.ex ea
      replace lr2 := ea _ _ lr2
      replace ltt3_0 := ea _ _ ltt3_0
      clear ea hll3
      refine ⟨NotP pc, ll3, [(tt3_0, y, vb, B)], oneE y (.set B), rfl, lll3, fun c hc => ?_, ?_, (by show 1 ≤ 1000; decide), fun k hk => ?_, I.2.2.tb, fun rb H35 eb qb => ?_⟩
      · rw [List.mem_singleton.mp hc]
        exact ⟨ltt3_0, hy, I.2.2.b, hB.2.2, if_pos rfl⟩
      · simp
      · exact if_neg fun z => hk (by rw [z]; simp)
      replace qb := qb.imp fun z hz => ne_new I.1 z (.inr hz)
      replace I := I.ex Z.hR eb
      replace e1 := e1.trans eb
      replace qf := qf.ex eb
      replace ql := ql.ex eb
      replace qg := qg.ex eb
      replace lr2 := eb _ _ lr2
      replace ltt3_0 := eb _ _ ltt3_0
      replace lll3 := eb _ _ lll3
      clear eb
      clear ltt3_0 ntt3_0
      clear lll3 nll3
      obtain ⟨xb2, _, _, _, rfl, _, _⟩ := qb.fields
      refine ⟨NotP pc, D, .ref xb2, k0 :: ks, .build (oneE y (.set B)), rfl, I.2.2.path, hks, qb, I.2.2.tb, fun vm H36 eb qm => ?_⟩
      replace qm := qm.imp (ne_new I.1)
      replace I := I.ex Z.hR eb
      replace e1 := e1.trans eb
      replace qf := qf.ex eb
      replace ql := ql.ex eb
      replace qg := qg.ex eb
      replace qb := qb.ex eb
      replace lr2 := eb _ _ lr2
      clear eb
      refine ⟨(by show 2 ≤ sizeLine; decide), fun t2 ht2 => ?_⟩
      have nt2 : t2 ≠ pc := (ne_of_none I.1 ht2).symm
      have ea : Ex H36 (upd H36 t2 (.tup [.ref r2, vm])) := Ex.new ht2
      have lt2 : (upd H36 t2 (.tup [.ref r2, vm])) t2 = some (.tup [.ref r2, vm]) := upd_same
      generalize (upd H36 t2 (.tup [.ref r2, vm])) = H37 at ea lt2 ⊢
      replace I := I.ex Z.hR ea
      replace e1 := e1.trans ea
      replace qf := qf.ex ea
      replace ql := ql.ex ea
      replace qg := qg.ex ea
      replace qb := qb.ex ea
      replace qm := qm.ex ea
      replace lr2 := ea _ _ lr2
      clear ea ht2
      have cs : CaseAt C pc H37 t2 := by
        refine case_nest [(vf, _), (vgn, _), (vl, _)] (oneD x A) [Gd, oneD y B] lt2 nt2 nr2 lr2 (by show 3 ≤ 4; decide) rfl (fun q hq => ?_) (qm.lift (by omega)) (fun d hd => ?_) (rw_c2 hA hB hG hxy)
        · simp only [List.mem_cons, List.not_mem_nil, or_false] at hq
          rcases hq with rfl | rfl | rfl
          · exact nst_ok hl6 qf pdA.1 pdA.2
          · exact nst_ok hl6 qg pdG.1 pdG.2
          · exact nst_ok hl6 ql pdB.1 pdB.2
        · simp only [List.mem_cons, List.not_mem_nil, or_false] at hd
          rcases hd with rfl | rfl | rfl <;> first | rfl | exact gnil
      refine ⟨pc, _, _, rfl, rfl, I.1, (by show 1 < sizeLine; decide), ?_⟩
      have m : Aw pc H37 (upd H37 pc (.lst (([t1]).map V.ref ++ [.ref t2]))) := Aw.put I.1
      replace e1 : Ex H1 (upd H37 pc (.lst (([t1]).map V.ref ++ [.ref t2]))) := e1.mut npc I.1
      replace I := I.put Z.hR cs
      clear lt2
      generalize (upd H37 pc (.lst (([t1]).map V.ref ++ [.ref t2]))) = H38 at m e1 I ⊢
      replace qf := qf.aw m
      replace ql := ql.aw m
      replace qg := qg.aw m
      replace qb := qb.aw m
      replace qm := qm.aw m
      replace lr2 := m.go _ _ nr2 lr2 rfl
      clear m cs
      exact ⟨t2, rfl, I, e1, qf, ql⟩
    clear I e1 qf ql
    rintro σ H39 ⟨t2, rfl, I, e1, qf, ql⟩
    refine ⟨fun σ H' => ∃ v3, σ = [some (.ref a), some (.int num), some (.ref p), some (.ref D), some (.str x), some (.str y), some va, some vb, some vg, some (.ref xb), some (.ref pc), some vf, some vl, some v3, y14, y15, y16, y17, y18, z19] ∧ Iv C Pt pc H' D k0 ks x y va vb vg A B Gd ([t1] ++ [t2]) ∧ Ex H1 H' ∧ Dc (NotP pc) g24 H' (2 + (k0 :: ks).length) vf (nestD (k0 :: ks) (oneD x A)) ∧ Dc (NotP pc) g24 H' (2 + (k0 :: ks).length) vl (nestD (k0 :: ks) (oneD y B)) ∧ Ec C (NotP pc) g24 H' (2 + (k0 :: ks).length) v3 (nestE (k0 :: ks) (.build (twoE x (.set A) y (.set B)))), ?_, ?_⟩
    ·
      refine ⟨_, rfl, ?_⟩
      refine ⟨_, rfl, _, rfl, ?_⟩
      refine ⟨(by show 2 ≤ sizeLine; decide), fun tt4_0 htt4_0 => ?_⟩
      have ntt4_0 : tt4_0 ≠ pc := (ne_of_none I.1 htt4_0).symm
      have ea : Ex H39 (upd H39 tt4_0 (.tup [.str x, va])) := Ex.new htt4_0
      have ltt4_0 : (upd H39 tt4_0 (.tup [.str x, va])) tt4_0 = some (.tup [.str x, va]) := upd_same
      generalize (upd H39 tt4_0 (.tup [.str x, va])) = H40 at ea ltt4_0 ⊢
      replace I := I.ex Z.hR ea
      replace e1 := e1.trans ea
      replace qf := qf.ex ea
      replace ql := ql.ex ea
      clear ea htt4_0
      refine ⟨_, rfl, _, rfl, ?_⟩
      refine ⟨(by show 2 ≤ sizeLine; decide), fun tt4_1 htt4_1 => ?_⟩
      have ntt4_1 : tt4_1 ≠ pc := (ne_of_none I.1 htt4_1).symm
      have ea : Ex H40 (upd H40 tt4_1 (.tup [.str y, vb])) := Ex.new htt4_1
      have ltt4_1 : (upd H40 tt4_1 (.tup [.str y, vb])) tt4_1 = some (.tup [.str y, vb]) := upd_same
      generalize (upd H40 tt4_1 (.tup [.str y, vb])) = H41 at ea ltt4_1 ⊢
      replace I := I.ex Z.hR ea
      replace e1 := e1.trans ea
      replace qf := qf.ex ea
      replace ql := ql.ex ea
      replace ltt4_0 := ea _ _ ltt4_0
      clear ea htt4_1
      refine ⟨(by show 2 ≤ sizeLine; decide), fun ll4 hll4 => ?_⟩
      have nll4 : ll4 ≠ pc := (ne_of_none I.1 hll4).symm
      have ea : Ex H41 (upd H41 ll4 (.lst [.ref tt4_0, .ref tt4_1])) := Ex.new hll4
      have lll4 : (upd H41 ll4 (.lst [.ref tt4_0, .ref tt4_1])) ll4 = some (.lst [.ref tt4_0, .ref tt4_1]) := upd_same
      generalize (upd H41 ll4 (.lst [.ref tt4_0, .ref tt4_1])) = H42 at ea lll4 ⊢
      replace I := I.ex Z.hR ea
      replace e1 := e1.trans ea
      replace qf := qf.ex ea
      replace ql := ql.ex ea
      replace ltt4_0 := ea _ _ ltt4_0
      replace ltt4_1 := ea _ _ ltt4_1
      clear ea hll4
      refine ⟨NotP pc, ll4, [(tt4_0, x, va, A), (tt4_1, y, vb, B)], twoE x (.set A) y (.set B), rfl, lll4, fun c hc => ?_, ?_, (by show 2 ≤ 1000; decide), fun k hk => ?_, I.2.2.tb, fun rb H43 eb qb => ?_⟩
      · rcases List.mem_cons.mp hc with rfl | hc
        · exact ⟨ltt4_0, hx, I.2.2.a, hA.2.2, if_pos rfl⟩
        · rw [List.mem_singleton.mp hc]
          exact ⟨ltt4_1, hy, I.2.2.b, hB.2.2, (if_neg hxy.symm).trans (if_pos rfl)⟩
      · show [x, y].Nodup
        simp [hxy]
      · have hk : k ∉ [x, y] := hk
        simp only [List.mem_cons, List.not_mem_nil, or_false, not_or] at hk
        exact (if_neg hk.1).trans (if_neg hk.2)
      replace qb := qb.imp fun z hz => ne_new I.1 z (.inr hz)
      replace I := I.ex Z.hR eb
      replace e1 := e1.trans eb
      replace qf := qf.ex eb
      replace ql := ql.ex eb
      replace ltt4_0 := eb _ _ ltt4_0
      replace ltt4_1 := eb _ _ ltt4_1
      replace lll4 := eb _ _ lll4
      clear eb
      clear ltt4_0 ntt4_0
      clear ltt4_1 ntt4_1
      clear lll4 nll4
      obtain ⟨xb3, _, _, _, rfl, _, _⟩ := qb.fields
      refine ⟨NotP pc, D, .ref xb3, k0 :: ks, .build (twoE x (.set A) y (.set B)), rfl, I.2.2.path, hks, qb, I.2.2.tb, fun v3 H44 eb q3 => ?_⟩
      replace q3 := q3.imp (ne_new I.1)
      replace I := I.ex Z.hR eb
      replace e1 := e1.trans eb
      replace qf := qf.ex eb
      replace ql := ql.ex eb
      replace qb := qb.ex eb
      clear eb
      exact ⟨v3, rfl, I, e1, qf, ql, q3⟩
    clear I e1 qf ql
    rintro σ H45 ⟨v3, rfl, I, e1, qf, ql, q3⟩
    refine ⟨fun σ H' => ∃ t3, σ = [some (.ref a), some (.int num), some (.ref p), some (.ref D), some (.str x), some (.str y), some va, some vb, some vg, some (.ref xb), some (.ref pc), some vf, some vl, some v3, y14, y15, y16, y17, y18, z19] ∧ Iv C Pt pc H' D k0 ks x y va vb vg A B Gd ([t1] ++ [t2] ++ [t3]) ∧ Ex H1 H' ∧ Dc (NotP pc) g24 H' (2 + (k0 :: ks).length) vf (nestD (k0 :: ks) (oneD x A)) ∧ Dc (NotP pc) g24 H' (2 + (k0 :: ks).length) vl (nestD (k0 :: ks) (oneD y B)), ?_, ?_⟩
    ·
      refine ⟨_, rfl, .inl ⟨rfl, _, .inl (.inl I.1)⟩, ?_⟩
      refine ⟨_, rfl, _, rfl, ?_⟩
      refine ⟨NotP pc, D, vg, k0 :: ks, Gd, rfl, I.2.2.path, hks, hl1000, I.2.2.g.lift (by decide), fun vgn H46 eb qg => ?_⟩
      replace qg := qg.imp (ne_new I.1)
      replace I := I.ex Z.hR eb
      replace e1 := e1.trans eb
      replace qf := qf.ex eb
      replace ql := ql.ex eb
      replace q3 := q3.ex eb
      clear eb
      refine ⟨_, rfl, _, rfl, ?_⟩
      refine ⟨(by show 3 ≤ sizeLine; decide), fun r3 hr3 => ?_⟩
      have nr3 : r3 ≠ pc := (ne_of_none I.1 hr3).symm
      have ea : Ex H46 (upd H46 r3 (.lst [vgn, vf, vl])) := Ex.new hr3
      have lr3 : (upd H46 r3 (.lst [vgn, vf, vl])) r3 = some (.lst [vgn, vf, vl]) := upd_same
      generalize (upd H46 r3 (.lst [vgn, vf, vl])) = H47 at ea lr3 ⊢
      replace I := I.ex Z.hR ea
      replace e1 := e1.trans ea
      replace qf := qf.ex ea
      replace ql := ql.ex ea
      replace qg := qg.ex ea
      replace q3 := q3.ex ea
      clear ea hr3
      refine ⟨_, rfl, ?_⟩
      refine ⟨(by show 2 ≤ sizeLine; decide), fun t3 ht3 => ?_⟩
      have nt3 : t3 ≠ pc := (ne_of_none I.1 ht3).symm
      have ea : Ex H47 (upd H47 t3 (.tup [.ref r3, v3])) := Ex.new ht3
      have lt3 : (upd H47 t3 (.tup [.ref r3, v3])) t3 = some (.tup [.ref r3, v3]) := upd_same
      generalize (upd H47 t3 (.tup [.ref r3, v3])) = H48 at ea lt3 ⊢
      replace I := I.ex Z.hR ea
      replace e1 := e1.trans ea
      replace qf := qf.ex ea
      replace ql := ql.ex ea
      replace qg := qg.ex ea
      replace q3 := q3.ex ea
      replace lr3 := ea _ _ lr3
      clear ea ht3
      have cs : CaseAt C pc H48 t3 := by
        refine case_nest [(vgn, _), (vf, _), (vl, _)] (Gd) [oneD x A, oneD y B] lt3 nt3 nr3 lr3 (by show 3 ≤ 4; decide) rfl (fun q hq => ?_) (q3.lift (by omega)) (fun d hd => ?_) (rw_c3 hA hB hG hxy)
        · simp only [List.mem_cons, List.not_mem_nil, or_false] at hq
          rcases hq with rfl | rfl | rfl
          · exact nst_ok hl6 qg pdG.1 pdG.2
          · exact nst_ok hl6 qf pdA.1 pdA.2
          · exact nst_ok hl6 ql pdB.1 pdB.2
        · simp only [List.mem_cons, List.not_mem_nil, or_false] at hd
          rcases hd with rfl | rfl | rfl <;> first | rfl | exact gnil
      refine ⟨pc, _, _, rfl, rfl, I.1, (by show 2 < sizeLine; decide), ?_⟩
      have m : Aw pc H48 (upd H48 pc (.lst (([t1] ++ [t2]).map V.ref ++ [.ref t3]))) := Aw.put I.1
      replace e1 : Ex H1 (upd H48 pc (.lst (([t1] ++ [t2]).map V.ref ++ [.ref t3]))) := e1.mut npc I.1
      replace I := I.put Z.hR cs
      clear lt3
      generalize (upd H48 pc (.lst (([t1] ++ [t2]).map V.ref ++ [.ref t3]))) = H49 at m e1 I ⊢
      replace qf := qf.aw m
      replace ql := ql.aw m
      replace qg := qg.aw m
      replace q3 := q3.aw m
      replace lr3 := m.go _ _ nr3 lr3 rfl
      clear m cs
      exact ⟨t3, rfl, I, e1, qf, ql⟩
    clear I e1 qf ql q3
    rintro σ H50 ⟨t3, rfl, I, e1, qf, ql⟩
    refine ⟨fun σ H' => ∃ ends, ∃ u1, ∃ u2, ∃ xd, ∃ xs, σ = [some (.ref a), some (.int num), some (.ref p), some (.ref D), some (.str x), some (.str y), some va, some vb, some vg, some (.ref xb), some (.ref pc), some vf, some vl, some v3, some (.ref ends), y15, y16, y17, y18, z19] ∧ Iv C Pt pc H' D k0 ks x y va vb vg A B Gd ([t1] ++ [t2] ++ [t3]) ∧ Ex H1 H' ∧ Dc (NotP pc) g24 H' (2 + (k0 :: ks).length) vf (nestD (k0 :: ks) (oneD x A)) ∧ Dc (NotP pc) g24 H' (2 + (k0 :: ks).length) vl (nestD (k0 :: ks) (oneD y B)) ∧ H' ends = some (.lst [.ref u1, .ref u2]) ∧ ends ≠ pc ∧ H' u1 = some (.tup [.str x, .ref xd]) ∧ u1 ≠ pc ∧ H' u2 = some (.tup [.str y, .ref xs]) ∧ u2 ≠ pc ∧ Ec C (NotP pc) g24 H' 1 (.ref xd) .drop ∧ Ec C (NotP pc) g24 H' 1 (.ref xs) (.set B), ?_, ?_⟩
    ·
      refine ⟨_, rfl, ?_⟩
      refine ⟨(by show 0 ≤ sizeLine; decide), fun pl hpl => ?_⟩
      have npl : pl ≠ pc := (ne_of_none I.1 hpl).symm
      have ea : Ex H50 (upd H50 pl (.lst [])) := Ex.new hpl
      have lpl : (upd H50 pl (.lst [])) pl = some (.lst []) := upd_same
      generalize (upd H50 pl (.lst [])) = H51 at ea lpl ⊢
      replace I := I.ex Z.hR ea
      replace e1 := e1.trans ea
      replace qf := qf.ex ea
      replace ql := ql.ex ea
      clear ea hpl
      intro xd dx nx ndx ne
      refine spInit_mono (mk_drop 0 hN Z.hR (.inl lpl) I.2.2.tb xd dx nx ndx ne) ?_
      rintro _ H52 ⟨rfl, eb, M⟩
      have qd := M.imp fun z hz => ne_new I.1 z (.inr hz)
      clear M nx ndx ne
      replace I := I.ex Z.hR eb
      replace e1 := e1.trans eb
      replace qf := qf.ex eb
      replace ql := ql.ex eb
      clear eb
      refine ⟨rfl, ?_⟩
      clear lpl npl
      refine ⟨(by show 2 ≤ sizeLine; decide), fun u1 hu1 => ?_⟩
      have nu1 : u1 ≠ pc := (ne_of_none I.1 hu1).symm
      have ea : Ex H52 (upd H52 u1 (.tup [.str x, .ref xd])) := Ex.new hu1
      have lu1 : (upd H52 u1 (.tup [.str x, .ref xd])) u1 = some (.tup [.str x, .ref xd]) := upd_same
      generalize (upd H52 u1 (.tup [.str x, .ref xd])) = H53 at ea lu1 ⊢
      replace I := I.ex Z.hR ea
      replace e1 := e1.trans ea
      replace qf := qf.ex ea
      replace ql := ql.ex ea
      replace qd := qd.ex ea
      clear ea hu1
      refine ⟨_, rfl, _, rfl, ?_⟩
      refine ⟨(by show 0 ≤ sizeLine; decide), fun pl hpl => ?_⟩
      have npl : pl ≠ pc := (ne_of_none I.1 hpl).symm
      have ea : Ex H53 (upd H53 pl (.lst [])) := Ex.new hpl
      have lpl : (upd H53 pl (.lst [])) pl = some (.lst []) := upd_same
      generalize (upd H53 pl (.lst [])) = H54 at ea lpl ⊢
      replace I := I.ex Z.hR ea
      replace e1 := e1.trans ea
      replace qf := qf.ex ea
      replace ql := ql.ex ea
      replace qd := qd.ex ea
      replace lu1 := ea _ _ lu1
      clear ea hpl
      intro xs dx nx ndx ne
      refine spInit_mono (mk_set (m := 0) 0 I.2.2.b hB.2.2 Z.hR (.inl lpl) I.2.2.tb xs dx nx ndx ne) ?_
      rintro _ H55 ⟨rfl, eb, M⟩
      have qs := M.imp fun z hz => ne_new I.1 z (.inr hz)
      clear M nx ndx ne
      replace I := I.ex Z.hR eb
      replace e1 := e1.trans eb
      replace qf := qf.ex eb
      replace ql := ql.ex eb
      replace qd := qd.ex eb
      replace lu1 := eb _ _ lu1
      clear eb
      refine ⟨rfl, ?_⟩
      clear lpl npl
      refine ⟨(by show 2 ≤ sizeLine; decide), fun u2 hu2 => ?_⟩
      have nu2 : u2 ≠ pc := (ne_of_none I.1 hu2).symm
      have ea : Ex H55 (upd H55 u2 (.tup [.str y, .ref xs])) := Ex.new hu2
      have lu2 : (upd H55 u2 (.tup [.str y, .ref xs])) u2 = some (.tup [.str y, .ref xs]) := upd_same
      generalize (upd H55 u2 (.tup [.str y, .ref xs])) = H56 at ea lu2 ⊢
      replace I := I.ex Z.hR ea
      replace e1 := e1.trans ea
      replace qf := qf.ex ea
      replace ql := ql.ex ea
      replace qd := qd.ex ea
      replace qs := qs.ex ea
      replace lu1 := ea _ _ lu1
      clear ea hu2
      refine ⟨(by show 2 ≤ sizeLine; decide), fun ends hends => ?_⟩
      have nends : ends ≠ pc := (ne_of_none I.1 hends).symm
      have ea : Ex H56 (upd H56 ends (.lst [.ref u1, .ref u2])) := Ex.new hends
      have lends : (upd H56 ends (.lst [.ref u1, .ref u2])) ends = some (.lst [.ref u1, .ref u2]) := upd_same
      generalize (upd H56 ends (.lst [.ref u1, .ref u2])) = H57 at ea lends ⊢
      replace I := I.ex Z.hR ea
      replace e1 := e1.trans ea
      replace qf := qf.ex ea
      replace ql := ql.ex ea
      replace qd := qd.ex ea
      replace qs := qs.ex ea
      replace lu1 := ea _ _ lu1
      replace lu2 := ea _ _ lu2
      clear ea hends
      exact ⟨ends, u1, u2, xd, xs, rfl, I, e1, qf, ql, lends, nends, lu1, nu1, lu2, nu2, qd, qs⟩
    clear I e1 qf ql
    rintro σ H58 ⟨ends, u1, u2, xd, xs, rfl, I, e1, qf, ql, lends, nends, lu1, nu1, lu2, nu2, qd, qs⟩
    refine ⟨fun σ H' => ∃ v4, σ = [some (.ref a), some (.int num), some (.ref p), some (.ref D), some (.str x), some (.str y), some va, some vb, some vg, some (.ref xb), some (.ref pc), some vf, some vl, some v3, some (.ref ends), some v4, y16, y17, y18, z19] ∧ Iv C Pt pc H' D k0 ks x y va vb vg A B Gd ([t1] ++ [t2] ++ [t3]) ∧ Ex H1 H' ∧ Dc (NotP pc) g24 H' (2 + (k0 :: ks).length) vf (nestD (k0 :: ks) (oneD x A)) ∧ Dc (NotP pc) g24 H' (2 + (k0 :: ks).length) vl (nestD (k0 :: ks) (oneD y B)) ∧ Ec C (NotP pc) g24 H' (2 + (k0 :: ks).length) v4 (nestE (k0 :: ks) (.merge (twoE x .drop y (.set B)))), ?_, ?_⟩
    ·
      refine ⟨_, rfl, _, rfl, ?_⟩
      intro xm dx nx ndx ne
      refine spInit_mono (mk_two (kd := "merge") (n := 1) (S := NotP pc) hN Z.hR hx hy hxy lends lu1 lu2 I.2.2.tb qd qs xm dx nx ndx ne) ?_
      rintro _ H59 ⟨rfl, eb, M⟩
      have qb := (M.1 rfl).imp fun z hz => ne_new I.1 z hz.symm
      clear M nx ndx ne
      replace I := I.ex Z.hR eb
      replace e1 := e1.trans eb
      replace qf := qf.ex eb
      replace ql := ql.ex eb
      replace qd := qd.ex eb
      replace qs := qs.ex eb
      replace lends := eb _ _ lends
      replace lu1 := eb _ _ lu1
      replace lu2 := eb _ _ lu2
      clear eb
      refine ⟨rfl, ?_⟩
      refine ⟨NotP pc, D, .ref xm, k0 :: ks, .merge (twoE x .drop y (.set B)), rfl, I.2.2.path, hks, qb, I.2.2.tb, fun v4 H60 eb q4 => ?_⟩
      replace q4 := q4.imp (ne_new I.1)
      replace I := I.ex Z.hR eb
      replace e1 := e1.trans eb
      replace qf := qf.ex eb
      replace ql := ql.ex eb
      replace qd := qd.ex eb
      replace qs := qs.ex eb
      replace qb := qb.ex eb
      replace lends := eb _ _ lends
      replace lu1 := eb _ _ lu1
      replace lu2 := eb _ _ lu2
      clear eb
      exact ⟨v4, rfl, I, e1, qf, ql, q4⟩
    clear I e1 qf ql qd qs lends nends lu1 nu1 lu2 nu2
    rintro σ H61 ⟨v4, rfl, I, e1, qf, ql, q4⟩
    refine ⟨fun σ H' => ∃ t4, σ = [some (.ref a), some (.int num), some (.ref p), some (.ref D), some (.str x), some (.str y), some va, some vb, some vg, some (.ref xb), some (.ref pc), some vf, some vl, some v3, some (.ref ends), some v4, y16, y17, y18, z19] ∧ Iv C Pt pc H' D k0 ks x y va vb vg A B Gd ([t1] ++ [t2] ++ [t3] ++ [t4]) ∧ Ex H1 H' ∧ Dc (NotP pc) g24 H' (2 + (k0 :: ks).length) vf (nestD (k0 :: ks) (oneD x A)) ∧ Dc (NotP pc) g24 H' (2 + (k0 :: ks).length) vl (nestD (k0 :: ks) (oneD y B)), ?_, ?_⟩
    ·
      refine ⟨_, rfl, .inl ⟨rfl, _, .inl (.inl I.1)⟩, ?_⟩
      refine ⟨_, rfl, _, rfl, ?_⟩
      refine ⟨_, rfl, fun pd5 hpd5 => ⟨_, rfl, upd_same, [(Sum.inr x, .non)], rfl, (by show 1 ≤ 15; decide), ?_⟩⟩
      have npd5 : pd5 ≠ pc := (ne_of_none I.1 hpd5).symm
      obtain ⟨ea, lpd5⟩ := disp1 x .non hpd5
      generalize (upd (upd H61 pd5 (.dK [])) pd5 (.dK (mergeK [] [(Sum.inr x, .non)]))) = H62 at ea lpd5 ⊢
      replace I := I.ex Z.hR ea
      replace e1 := e1.trans ea
      replace qf := qf.ex ea
      replace ql := ql.ex ea
      replace q4 := q4.ex ea
      clear ea hpd5
      refine ⟨NotP pc, D, .ref pd5, k0 :: ks, oneD x (.sc .non), rfl, I.2.2.path, hks, hl1000, dc_one hx npd5 lpd5 (Dc.sc hN), fun vx H63 eb qx => ?_⟩
      replace qx := qx.imp (ne_new I.1)
      replace I := I.ex Z.hR eb
      replace e1 := e1.trans eb
      replace qf := qf.ex eb
      replace ql := ql.ex eb
      replace q4 := q4.ex eb
      clear eb
      clear lpd5 npd5
      refine ⟨(by show 3 ≤ sizeLine; decide), fun r4 hr4 => ?_⟩
      have nr4 : r4 ≠ pc := (ne_of_none I.1 hr4).symm
      have ea : Ex H63 (upd H63 r4 (.lst [vf, vl, vx])) := Ex.new hr4
      have lr4 : (upd H63 r4 (.lst [vf, vl, vx])) r4 = some (.lst [vf, vl, vx]) := upd_same
      generalize (upd H63 r4 (.lst [vf, vl, vx])) = H64 at ea lr4 ⊢
      replace I := I.ex Z.hR ea
      replace e1 := e1.trans ea
      replace qf := qf.ex ea
      replace ql := ql.ex ea
      replace qx := qx.ex ea
      replace q4 := q4.ex ea
      clear ea hr4
      refine ⟨_, rfl, ?_⟩
      refine ⟨(by show 2 ≤ sizeLine; decide), fun t4 ht4 => ?_⟩
      have nt4 : t4 ≠ pc := (ne_of_none I.1 ht4).symm
      have ea : Ex H64 (upd H64 t4 (.tup [.ref r4, v4])) := Ex.new ht4
      have lt4 : (upd H64 t4 (.tup [.ref r4, v4])) t4 = some (.tup [.ref r4, v4]) := upd_same
      generalize (upd H64 t4 (.tup [.ref r4, v4])) = H65 at ea lt4 ⊢
      replace I := I.ex Z.hR ea
      replace e1 := e1.trans ea
      replace qf := qf.ex ea
      replace ql := ql.ex ea
      replace qx := qx.ex ea
      replace q4 := q4.ex ea
      replace lr4 := ea _ _ lr4
      clear ea ht4
      have cs : CaseAt C pc H65 t4 := by
        refine case_nest [(vf, _), (vl, _), (vx, _)] (oneD x A) [oneD y B, oneD x (.sc .non)] lt4 nt4 nr4 lr4 (by show 3 ≤ 4; decide) rfl (fun q hq => ?_) (q4.lift (by omega)) (fun d hd => ?_) (rw_c4 hA hB hxy)
        · simp only [List.mem_cons, List.not_mem_nil, or_false] at hq
          rcases hq with rfl | rfl | rfl
          · exact nst_ok hl6 qf pdA.1 pdA.2
          · exact nst_ok hl6 ql pdB.1 pdB.2
          · exact nst_ok hl6 qx (pd_one (p := 1) (Nat.le_refl _)) (dd_one (n := 0) trivial)
        · simp only [List.mem_cons, List.not_mem_nil, or_false] at hd
          rcases hd with rfl | rfl | rfl <;> first | rfl | exact gnil
      refine ⟨pc, _, _, rfl, rfl, I.1, (by show 3 < sizeLine; decide), ?_⟩
      have m : Aw pc H65 (upd H65 pc (.lst (([t1] ++ [t2] ++ [t3]).map V.ref ++ [.ref t4]))) := Aw.put I.1
      replace e1 : Ex H1 (upd H65 pc (.lst (([t1] ++ [t2] ++ [t3]).map V.ref ++ [.ref t4]))) := e1.mut npc I.1
      replace I := I.put Z.hR cs
      clear lt4
      generalize (upd H65 pc (.lst (([t1] ++ [t2] ++ [t3]).map V.ref ++ [.ref t4]))) = H66 at m e1 I ⊢
      replace qf := qf.aw m
      replace ql := ql.aw m
      replace qx := qx.aw m
      replace q4 := q4.aw m
      replace lr4 := m.go _ _ nr4 lr4 rfl
      clear m cs
      exact ⟨t4, rfl, I, e1, qf, ql⟩
    clear I e1 qf ql q4
    rintro σ H67 ⟨t4, rfl, I, e1, qf, ql⟩
    refine ⟨fun σ H' => ∃ r5, ∃ vgn, ∃ vx, σ = [some (.ref a), some (.int num), some (.ref p), some (.ref D), some (.str x), some (.str y), some va, some vb, some vg, some (.ref xb), some (.ref pc), some vf, some vl, some v3, some (.ref ends), some v4, some (.ref r5), y17, y18, z19] ∧ Iv C Pt pc H' D k0 ks x y va vb vg A B Gd ([t1] ++ [t2] ++ [t3] ++ [t4]) ∧ Ex H1 H' ∧ Dc (NotP pc) g24 H' (2 + (k0 :: ks).length) vf (nestD (k0 :: ks) (oneD x A)) ∧ Dc (NotP pc) g24 H' (2 + (k0 :: ks).length) vl (nestD (k0 :: ks) (oneD y B)) ∧ H' r5 = some (.lst [vgn, vf, vl, vx]) ∧ r5 ≠ pc ∧ Dc (NotP pc) g24 H' (2 + (k0 :: ks).length) vgn (nestD (k0 :: ks) Gd) ∧ Dc (NotP pc) g24 H' (2 + (k0 :: ks).length) vx (nestD (k0 :: ks) (oneD x (.sc .non))), ?_, ?_⟩
    ·
      refine ⟨_, rfl, _, rfl, ?_⟩
      refine ⟨NotP pc, D, vg, k0 :: ks, Gd, rfl, I.2.2.path, hks, hl1000, I.2.2.g.lift (by decide), fun vgn H68 eb qg => ?_⟩
      replace qg := qg.imp (ne_new I.1)
      replace I := I.ex Z.hR eb
      replace e1 := e1.trans eb
      replace qf := qf.ex eb
      replace ql := ql.ex eb
      clear eb
      refine ⟨_, rfl, _, rfl, ?_⟩
      refine ⟨_, rfl, fun pd6 hpd6 => ⟨_, rfl, upd_same, [(Sum.inr x, .non)], rfl, (by show 1 ≤ 15; decide), ?_⟩⟩
      have npd6 : pd6 ≠ pc := (ne_of_none I.1 hpd6).symm
      obtain ⟨ea, lpd6⟩ := disp1 x .non hpd6
      generalize (upd (upd H68 pd6 (.dK [])) pd6 (.dK (mergeK [] [(Sum.inr x, .non)]))) = H69 at ea lpd6 ⊢
      replace I := I.ex Z.hR ea
      replace e1 := e1.trans ea
      replace qf := qf.ex ea
      replace ql := ql.ex ea
      replace qg := qg.ex ea
      clear ea hpd6
      refine ⟨NotP pc, D, .ref pd6, k0 :: ks, oneD x (.sc .non), rfl, I.2.2.path, hks, hl1000, dc_one hx npd6 lpd6 (Dc.sc hN), fun vx H70 eb qx => ?_⟩
      replace qx := qx.imp (ne_new I.1)
      replace I := I.ex Z.hR eb
      replace e1 := e1.trans eb
      replace qf := qf.ex eb
      replace ql := ql.ex eb
      replace qg := qg.ex eb
      clear eb
      clear lpd6 npd6
      refine ⟨(by show 4 ≤ sizeLine; decide), fun r5 hr5 => ?_⟩
      have nr5 : r5 ≠ pc := (ne_of_none I.1 hr5).symm
      have ea : Ex H70 (upd H70 r5 (.lst [vgn, vf, vl, vx])) := Ex.new hr5
      have lr5 : (upd H70 r5 (.lst [vgn, vf, vl, vx])) r5 = some (.lst [vgn, vf, vl, vx]) := upd_same
      generalize (upd H70 r5 (.lst [vgn, vf, vl, vx])) = H71 at ea lr5 ⊢
      replace I := I.ex Z.hR ea
      replace e1 := e1.trans ea
      replace qf := qf.ex ea
      replace ql := ql.ex ea
      replace qg := qg.ex ea
      replace qx := qx.ex ea
      clear ea hr5
      exact ⟨r5, vgn, vx, rfl, I, e1, qf, ql, lr5, nr5, qg, qx⟩
    clear I e1 qf ql
    rintro σ H72 ⟨r5, vgn, vx, rfl, I, e1, qf, ql, lr5, nr5, qg, qx⟩
    refine ⟨fun σ H' => ∃ t5, σ = [some (.ref a), some (.int num), some (.ref p), some (.ref D), some (.str x), some (.str y), some va, some vb, some vg, some (.ref xb), some (.ref pc), some vf, some vl, some v3, some (.ref ends), some v4, some (.ref r5), y17, y18, z19] ∧ Iv C Pt pc H' D k0 ks x y va vb vg A B Gd ([t1] ++ [t2] ++ [t3] ++ [t4] ++ [t5]) ∧ Ex H1 H' ∧ Dc (NotP pc) g24 H' (2 + (k0 :: ks).length) vf (nestD (k0 :: ks) (oneD x A)) ∧ Dc (NotP pc) g24 H' (2 + (k0 :: ks).length) vl (nestD (k0 :: ks) (oneD y B)), ?_, ?_⟩
    ·
      refine ⟨_, rfl, .inl ⟨rfl, _, .inl (.inl I.1)⟩, ?_⟩
      refine ⟨_, rfl, _, rfl, ?_⟩
      refine ⟨_, rfl, _, rfl, ?_⟩
      refine ⟨(by show 2 ≤ sizeLine; decide), fun tt7_0 htt7_0 => ?_⟩
      have ntt7_0 : tt7_0 ≠ pc := (ne_of_none I.1 htt7_0).symm
      have ea : Ex H72 (upd H72 tt7_0 (.tup [.str y, vb])) := Ex.new htt7_0
      have ltt7_0 : (upd H72 tt7_0 (.tup [.str y, vb])) tt7_0 = some (.tup [.str y, vb]) := upd_same
      generalize (upd H72 tt7_0 (.tup [.str y, vb])) = H73 at ea ltt7_0 ⊢
      replace I := I.ex Z.hR ea
      replace e1 := e1.trans ea
      replace qf := qf.ex ea
      replace ql := ql.ex ea
      replace qg := qg.ex ea
      replace qx := qx.ex ea
      replace lr5 := ea _ _ lr5
      clear ea htt7_0
      refine ⟨(by show 1 ≤ sizeLine; decide), fun ll7 hll7 => ?_⟩
      have nll7 : ll7 ≠ pc := (ne_of_none I.1 hll7).symm
      have ea : Ex H73 (upd H73 ll7 (.lst [.ref tt7_0])) := Ex.new hll7
      have lll7 : (upd H73 ll7 (.lst [.ref tt7_0])) ll7 = some (.lst [.ref tt7_0]) := upd_same
      generalize (upd H73 ll7 (.lst [.ref tt7_0])) = H74 at ea lll7 ⊢
      replace I := I.ex Z.hR ea
      replace e1 := e1.trans ea
      replace qf := qf.ex ea
      replace ql := ql.ex ea
      replace qg := qg.ex ea
      replace qx := qx.ex ea
      replace lr5 := ea _ _ lr5
      replace ltt7_0 := ea _ _ ltt7_0
      clear ea hll7
      refine ⟨NotP pc, ll7, [(tt7_0, y, vb, B)], oneE y (.set B), rfl, lll7, fun c hc => ?_, ?_, (by show 1 ≤ 1000; decide), fun k hk => ?_, I.2.2.tb, fun rb H75 eb qb => ?_⟩
      · rw [List.mem_singleton.mp hc]
        exact ⟨ltt7_0, hy, I.2.2.b, hB.2.2, if_pos rfl⟩
      · simp
      · exact if_neg fun z => hk (by rw [z]; simp)
      replace qb := qb.imp fun z hz => ne_new I.1 z (.inr hz)
      replace I := I.ex Z.hR eb
      replace e1 := e1.trans eb
      replace qf := qf.ex eb
      replace ql := ql.ex eb
      replace qg := qg.ex eb
      replace qx := qx.ex eb
      replace lr5 := eb _ _ lr5
      replace ltt7_0 := eb _ _ ltt7_0
      replace lll7 := eb _ _ lll7
      clear eb
      clear ltt7_0 ntt7_0
      clear lll7 nll7
      obtain ⟨xb5, _, _, _, rfl, _, _⟩ := qb.fields
      refine ⟨NotP pc, D, .ref xb5, k0 :: ks, .build (oneE y (.set B)), rfl, I.2.2.path, hks, qb, I.2.2.tb, fun vm H76 eb qm => ?_⟩
      replace qm := qm.imp (ne_new I.1)
      replace I := I.ex Z.hR eb
      replace e1 := e1.trans eb
      replace qf := qf.ex eb
      replace ql := ql.ex eb
      replace qg := qg.ex eb
      replace qx := qx.ex eb
      replace qb := qb.ex eb
      replace lr5 := eb _ _ lr5
      clear eb
      refine ⟨(by show 2 ≤ sizeLine; decide), fun t5 ht5 => ?_⟩
      have nt5 : t5 ≠ pc := (ne_of_none I.1 ht5).symm
      have ea : Ex H76 (upd H76 t5 (.tup [.ref r5, vm])) := Ex.new ht5
      have lt5 : (upd H76 t5 (.tup [.ref r5, vm])) t5 = some (.tup [.ref r5, vm]) := upd_same
      generalize (upd H76 t5 (.tup [.ref r5, vm])) = H77 at ea lt5 ⊢
      replace I := I.ex Z.hR ea
      replace e1 := e1.trans ea
      replace qf := qf.ex ea
      replace ql := ql.ex ea
      replace qg := qg.ex ea
      replace qx := qx.ex ea
      replace qb := qb.ex ea
      replace qm := qm.ex ea
      replace lr5 := ea _ _ lr5
      clear ea ht5
      have cs : CaseAt C pc H77 t5 := by
        refine case_nest [(vgn, _), (vf, _), (vl, _), (vx, _)] (Gd) [oneD x A, oneD y B, oneD x (.sc .non)] lt5 nt5 nr5 lr5 (by show 4 ≤ 4; decide) rfl (fun q hq => ?_) (qm.lift (by omega)) (fun d hd => ?_) (rw_c5 hA hB hG hxy)
        · simp only [List.mem_cons, List.not_mem_nil, or_false] at hq
          rcases hq with rfl | rfl | rfl | rfl
          · exact nst_ok hl6 qg pdG.1 pdG.2
          · exact nst_ok hl6 qf pdA.1 pdA.2
          · exact nst_ok hl6 ql pdB.1 pdB.2
          · exact nst_ok hl6 qx (pd_one (p := 1) (Nat.le_refl _)) (dd_one (n := 0) trivial)
        · simp only [List.mem_cons, List.not_mem_nil, or_false] at hd
          rcases hd with rfl | rfl | rfl | rfl <;> first | rfl | exact gnil
      refine ⟨pc, _, _, rfl, rfl, I.1, (by show 4 < sizeLine; decide), ?_⟩
      have m : Aw pc H77 (upd H77 pc (.lst (([t1] ++ [t2] ++ [t3] ++ [t4]).map V.ref ++ [.ref t5]))) := Aw.put I.1
      replace e1 : Ex H1 (upd H77 pc (.lst (([t1] ++ [t2] ++ [t3] ++ [t4]).map V.ref ++ [.ref t5]))) := e1.mut npc I.1
      replace I := I.put Z.hR cs
      clear lt5
      generalize (upd H77 pc (.lst (([t1] ++ [t2] ++ [t3] ++ [t4]).map V.ref ++ [.ref t5]))) = H78 at m e1 I ⊢
      replace qf := qf.aw m
      replace ql := ql.aw m
      replace qg := qg.aw m
      replace qx := qx.aw m
      replace qb := qb.aw m
      replace qm := qm.aw m
      replace lr5 := m.go _ _ nr5 lr5 rfl
      clear m cs
      exact ⟨t5, rfl, I, e1, qf, ql⟩
    clear I e1 qf ql qg qx lr5 nr5
    rintro σ H79 ⟨t5, rfl, I, e1, qf, ql⟩
    refine ⟨fun σ H' => ∃ t6, σ = [some (.ref a), some (.int num), some (.ref p), some (.ref D), some (.str x), some (.str y), some va, some vb, some vg, some (.ref xb), some (.ref pc), some vf, some vl, some v3, some (.ref ends), some v4, some (.ref r5), y17, y18, z19] ∧ Iv C Pt pc H' D k0 ks x y va vb vg A B Gd ([t1] ++ [t2] ++ [t3] ++ [t4] ++ [t5] ++ [t6]) ∧ Ex H1 H' ∧ Dc (NotP pc) g24 H' (2 + (k0 :: ks).length) vf (nestD (k0 :: ks) (oneD x A)) ∧ Dc (NotP pc) g24 H' (2 + (k0 :: ks).length) vl (nestD (k0 :: ks) (oneD y B)), ?_, ?_⟩
    ·
      refine ⟨_, rfl, .inl ⟨rfl, _, .inl (.inl I.1)⟩, ?_⟩
      refine ⟨_, rfl, ?_⟩
      refine ⟨_, rfl, ?_⟩
      refine ⟨NotP pc, D, .non, k0 :: ks, .sc .non, rfl, I.2.2.path, hks, hl1000, Dc.sc hN, fun vn H80 eb qn => ?_⟩
      replace qn := qn.imp (ne_new I.1)
      replace I := I.ex Z.hR eb
      replace e1 := e1.trans eb
      replace qf := qf.ex eb
      replace ql := ql.ex eb
      clear eb
      refine ⟨(by show 2 ≤ sizeLine; decide), fun r6 hr6 => ?_⟩
      have nr6 : r6 ≠ pc := (ne_of_none I.1 hr6).symm
      have ea : Ex H80 (upd H80 r6 (.lst [vf, vn])) := Ex.new hr6
      have lr6 : (upd H80 r6 (.lst [vf, vn])) r6 = some (.lst [vf, vn]) := upd_same
      generalize (upd H80 r6 (.lst [vf, vn])) = H81 at ea lr6 ⊢
      replace I := I.ex Z.hR ea
      replace e1 := e1.trans ea
      replace qf := qf.ex ea
      replace ql := ql.ex ea
      replace qn := qn.ex ea
      clear ea hr6
      refine ⟨_, rfl, ?_⟩
      refine ⟨(by show 0 ≤ sizeLine; decide), fun pl hpl => ?_⟩
      have npl : pl ≠ pc := (ne_of_none I.1 hpl).symm
      have ea : Ex H81 (upd H81 pl (.lst [])) := Ex.new hpl
      have lpl : (upd H81 pl (.lst [])) pl = some (.lst []) := upd_same
      generalize (upd H81 pl (.lst [])) = H82 at ea lpl ⊢
      replace I := I.ex Z.hR ea
      replace e1 := e1.trans ea
      replace qf := qf.ex ea
      replace ql := ql.ex ea
      replace qn := qn.ex ea
      replace lr6 := ea _ _ lr6
      clear ea hpl
      intro xd dx nx ndx ne
      refine spInit_mono (mk_drop 1 hN Z.hR (.inl lpl) I.2.2.tb xd dx nx ndx ne) ?_
      rintro _ H83 ⟨rfl, eb, M⟩
      have qd := M.imp fun z hz => ne_new I.1 z (.inr hz)
      clear M nx ndx ne
      replace I := I.ex Z.hR eb
      replace e1 := e1.trans eb
      replace qf := qf.ex eb
      replace ql := ql.ex eb
      replace qn := qn.ex eb
      replace lr6 := eb _ _ lr6
      clear eb
      refine ⟨rfl, ?_⟩
      refine ⟨NotP pc, D, .ref xd, k0 :: ks, .drop, rfl, I.2.2.path, hks, qd, I.2.2.tb, fun vm H84 eb qm => ?_⟩
      replace qm := qm.imp (ne_new I.1)
      replace I := I.ex Z.hR eb
      replace e1 := e1.trans eb
      replace qf := qf.ex eb
      replace ql := ql.ex eb
      replace qn := qn.ex eb
      replace qd := qd.ex eb
      replace lr6 := eb _ _ lr6
      clear eb
      refine ⟨(by show 2 ≤ sizeLine; decide), fun t6 ht6 => ?_⟩
      have nt6 : t6 ≠ pc := (ne_of_none I.1 ht6).symm
      have ea : Ex H84 (upd H84 t6 (.tup [.ref r6, vm])) := Ex.new ht6
      have lt6 : (upd H84 t6 (.tup [.ref r6, vm])) t6 = some (.tup [.ref r6, vm]) := upd_same
      generalize (upd H84 t6 (.tup [.ref r6, vm])) = H85 at ea lt6 ⊢
      replace I := I.ex Z.hR ea
      replace e1 := e1.trans ea
      replace qf := qf.ex ea
      replace ql := ql.ex ea
      replace qn := qn.ex ea
      replace qd := qd.ex ea
      replace qm := qm.ex ea
      replace lr6 := ea _ _ lr6
      clear ea ht6
      have cs : CaseAt C pc H85 t6 := by
        refine case_nest [(vf, _), (vn, _)] (oneD x A) [.sc .non] lt6 nt6 nr6 lr6 (by show 2 ≤ 4; decide) rfl (fun q hq => ?_) (qm.lift (by omega)) (fun d hd => ?_) (rw_c6 hA)
        · simp only [List.mem_cons, List.not_mem_nil, or_false] at hq
          rcases hq with rfl | rfl
          · exact nst_ok hl6 qf pdA.1 pdA.2
          · exact nst_ok hl6 qn (pd_sc (by decide)) trivial
        · simp only [List.mem_cons, List.not_mem_nil, or_false] at hd
          rcases hd with rfl | rfl <;> first | rfl | exact gnil
      refine ⟨pc, _, _, rfl, rfl, I.1, (by show 5 < sizeLine; decide), ?_⟩
      have m : Aw pc H85 (upd H85 pc (.lst (([t1] ++ [t2] ++ [t3] ++ [t4] ++ [t5]).map V.ref ++ [.ref t6]))) := Aw.put I.1
      replace e1 : Ex H1 (upd H85 pc (.lst (([t1] ++ [t2] ++ [t3] ++ [t4] ++ [t5]).map V.ref ++ [.ref t6]))) := e1.mut npc I.1
      replace I := I.put Z.hR cs
      clear lt6
      generalize (upd H85 pc (.lst (([t1] ++ [t2] ++ [t3] ++ [t4] ++ [t5]).map V.ref ++ [.ref t6]))) = H86 at m e1 I ⊢
      replace qf := qf.aw m
      replace ql := ql.aw m
      replace qn := qn.aw m
      replace qd := qd.aw m
      replace qm := qm.aw m
      replace lr6 := m.go _ _ nr6 lr6 rfl
      clear m cs
      exact ⟨t6, rfl, I, e1, qf, ql⟩
    clear I e1 qf ql
    rintro σ H87 ⟨t6, rfl, I, e1, qf, ql⟩
    refine ⟨fun σ H' => ∃ t7, σ = [some (.ref a), some (.int num), some (.ref p), some (.ref D), some (.str x), some (.str y), some va, some vb, some vg, some (.ref xb), some (.ref pc), some vf, some vl, some v3, some (.ref ends), some v4, some (.ref r5), y17, y18, z19] ∧ Iv C Pt pc H' D k0 ks x y va vb vg A B Gd ([t1] ++ [t2] ++ [t3] ++ [t4] ++ [t5] ++ [t6] ++ [t7]) ∧ Ex H1 H' ∧ Dc (NotP pc) g24 H' (2 + (k0 :: ks).length) vf (nestD (k0 :: ks) (oneD x A)), ?_, ?_⟩
    ·
      refine ⟨_, rfl, .inl ⟨rfl, _, .inl (.inl I.1)⟩, ?_⟩
      refine ⟨_, rfl, fun pd8 hpd8 => ?_⟩
      have npd8 : pd8 ≠ pc := (ne_of_none I.1 hpd8).symm
      have ea : Ex H87 (upd H87 pd8 (.dK [])) := Ex.new hpd8
      have lpd8 : (upd H87 pd8 (.dK [])) pd8 = some (.dK []) := upd_same
      generalize (upd H87 pd8 (.dK [])) = H88 at ea lpd8 ⊢
      replace I := I.ex Z.hR ea
      replace e1 := e1.trans ea
      replace qf := qf.ex ea
      replace ql := ql.ex ea
      clear ea hpd8
      refine ⟨NotP pc, D, .ref pd8, k0 :: ks, .ob fun _ => .nil, rfl, I.2.2.path, hks, hl1000, Dc.ob (ms := []) npd8 lpd8 Mem.nil, fun ve H89 eb qe => ?_⟩
      replace qe := qe.imp (ne_new I.1)
      replace I := I.ex Z.hR eb
      replace e1 := e1.trans eb
      replace qf := qf.ex eb
      replace ql := ql.ex eb
      clear eb
      clear lpd8 npd8
      refine ⟨(by show 1 ≤ sizeLine; decide), fun r7 hr7 => ?_⟩
      have nr7 : r7 ≠ pc := (ne_of_none I.1 hr7).symm
      have ea : Ex H89 (upd H89 r7 (.lst [ve])) := Ex.new hr7
      have lr7 : (upd H89 r7 (.lst [ve])) r7 = some (.lst [ve]) := upd_same
      generalize (upd H89 r7 (.lst [ve])) = H90 at ea lr7 ⊢
      replace I := I.ex Z.hR ea
      replace e1 := e1.trans ea
      replace qf := qf.ex ea
      replace ql := ql.ex ea
      replace qe := qe.ex ea
      clear ea hr7
      refine ⟨_, rfl, ?_⟩
      refine ⟨(by show 0 ≤ sizeLine; decide), fun pl hpl => ?_⟩
      have npl : pl ≠ pc := (ne_of_none I.1 hpl).symm
      have ea : Ex H90 (upd H90 pl (.lst [])) := Ex.new hpl
      have lpl : (upd H90 pl (.lst [])) pl = some (.lst []) := upd_same
      generalize (upd H90 pl (.lst [])) = H91 at ea lpl ⊢
      replace I := I.ex Z.hR ea
      replace e1 := e1.trans ea
      replace qf := qf.ex ea
      replace ql := ql.ex ea
      replace qe := qe.ex ea
      replace lr7 := ea _ _ lr7
      clear ea hpl
      intro xn dx nx ndx ne
      refine spInit_mono (mk_nilE (kd := "merge") 1 hN Z.hR lpl I.2.2.tb xn dx nx ndx ne) ?_
      rintro _ H92 ⟨rfl, eb, M⟩
      have qd := (M.1 rfl).imp fun z hz => ne_new I.1 z (.inr (hz.elim id False.elim))
      clear M nx ndx ne
      replace I := I.ex Z.hR eb
      replace e1 := e1.trans eb
      replace qf := qf.ex eb
      replace ql := ql.ex eb
      replace qe := qe.ex eb
      replace lr7 := eb _ _ lr7
      clear eb
      refine ⟨rfl, ?_⟩
      refine ⟨NotP pc, D, .ref xn, k0 :: ks, .merge noE, rfl, I.2.2.path, hks, qd, I.2.2.tb, fun vm H93 eb qm => ?_⟩
      replace qm := qm.imp (ne_new I.1)
      replace I := I.ex Z.hR eb
      replace e1 := e1.trans eb
      replace qf := qf.ex eb
      replace ql := ql.ex eb
      replace qe := qe.ex eb
      replace qd := qd.ex eb
      replace lr7 := eb _ _ lr7
      clear eb
      refine ⟨(by show 2 ≤ sizeLine; decide), fun t7 ht7 => ?_⟩
      have nt7 : t7 ≠ pc := (ne_of_none I.1 ht7).symm
      have ea : Ex H93 (upd H93 t7 (.tup [.ref r7, vm])) := Ex.new ht7
      have lt7 : (upd H93 t7 (.tup [.ref r7, vm])) t7 = some (.tup [.ref r7, vm]) := upd_same
      generalize (upd H93 t7 (.tup [.ref r7, vm])) = H94 at ea lt7 ⊢
      replace I := I.ex Z.hR ea
      replace e1 := e1.trans ea
      replace qf := qf.ex ea
      replace ql := ql.ex ea
      replace qe := qe.ex ea
      replace qd := qd.ex ea
      replace qm := qm.ex ea
      replace lr7 := ea _ _ lr7
      clear ea ht7
      have cs : CaseAt C pc H94 t7 := by
        refine case_nest [(ve, _)] (.ob fun _ => .nil) [] lt7 nt7 nr7 lr7 (by show 1 ≤ 4; decide) rfl (fun q hq => ?_) (qm.lift (by omega)) (fun d hd => ?_) (rw_c7)
        · rw [List.mem_singleton.mp hq]
          exact nst_ok hl6 qe pdE.1 pdE.2
        · rw [List.mem_singleton.mp hd]; first | rfl | exact gnil
      refine ⟨pc, _, _, rfl, rfl, I.1, (by show 6 < sizeLine; decide), ?_⟩
      have m : Aw pc H94 (upd H94 pc (.lst (([t1] ++ [t2] ++ [t3] ++ [t4] ++ [t5] ++ [t6]).map V.ref ++ [.ref t7]))) := Aw.put I.1
      replace e1 : Ex H1 (upd H94 pc (.lst (([t1] ++ [t2] ++ [t3] ++ [t4] ++ [t5] ++ [t6]).map V.ref ++ [.ref t7]))) := e1.mut npc I.1
      replace I := I.put Z.hR cs
      clear lt7
      generalize (upd H94 pc (.lst (([t1] ++ [t2] ++ [t3] ++ [t4] ++ [t5] ++ [t6]).map V.ref ++ [.ref t7]))) = H95 at m e1 I ⊢
      replace qf := qf.aw m
      replace ql := ql.aw m
      replace qe := qe.aw m
      replace qd := qd.aw m
      replace qm := qm.aw m
      replace lr7 := m.go _ _ nr7 lr7 rfl
      clear m cs
      exact ⟨t7, rfl, I, e1, qf⟩
    clear I e1 qf ql
    rintro σ H96 ⟨t7, rfl, I, e1, qf⟩
    refine ⟨fun σ H' => ∃ t8, σ = [some (.ref a), some (.int num), some (.ref p), some (.ref D), some (.str x), some (.str y), some va, some vb, some vg, some (.ref xb), some (.ref pc), some vf, some vl, some v3, some (.ref ends), some v4, some (.ref r5), y17, y18, z19] ∧ Iv C Pt pc H' D k0 ks x y va vb vg A B Gd ([t1] ++ [t2] ++ [t3] ++ [t4] ++ [t5] ++ [t6] ++ [t7] ++ [t8]) ∧ Ex H1 H' ∧ Dc (NotP pc) g24 H' (2 + (k0 :: ks).length) vf (nestD (k0 :: ks) (oneD x A)), ?_, ?_⟩
    ·
      refine ⟨_, rfl, .inl ⟨rfl, _, .inl (.inl I.1)⟩, ?_⟩
      refine ⟨_, rfl, _, rfl, ?_⟩
      refine ⟨NotP pc, D, vg, k0 :: ks, Gd, rfl, I.2.2.path, hks, hl1000, I.2.2.g.lift (by decide), fun vgn H97 eb qg => ?_⟩
      replace qg := qg.imp (ne_new I.1)
      replace I := I.ex Z.hR eb
      replace e1 := e1.trans eb
      replace qf := qf.ex eb
      clear eb
      refine ⟨_, rfl, fun pd9 hpd9 => ?_⟩
      have npd9 : pd9 ≠ pc := (ne_of_none I.1 hpd9).symm
      have ea : Ex H97 (upd H97 pd9 (.dK [])) := Ex.new hpd9
      have lpd9 : (upd H97 pd9 (.dK [])) pd9 = some (.dK []) := upd_same
      generalize (upd H97 pd9 (.dK [])) = H98 at ea lpd9 ⊢
      replace I := I.ex Z.hR ea
      replace e1 := e1.trans ea
      replace qf := qf.ex ea
      replace qg := qg.ex ea
      clear ea hpd9
      refine ⟨NotP pc, D, .ref pd9, k0 :: ks, .ob fun _ => .nil, rfl, I.2.2.path, hks, hl1000, Dc.ob (ms := []) npd9 lpd9 Mem.nil, fun ve H99 eb qe => ?_⟩
      replace qe := qe.imp (ne_new I.1)
      replace I := I.ex Z.hR eb
      replace e1 := e1.trans eb
      replace qf := qf.ex eb
      replace qg := qg.ex eb
      clear eb
      clear lpd9 npd9
      refine ⟨(by show 2 ≤ sizeLine; decide), fun r8 hr8 => ?_⟩
      have nr8 : r8 ≠ pc := (ne_of_none I.1 hr8).symm
      have ea : Ex H99 (upd H99 r8 (.lst [vgn, ve])) := Ex.new hr8
      have lr8 : (upd H99 r8 (.lst [vgn, ve])) r8 = some (.lst [vgn, ve]) := upd_same
      generalize (upd H99 r8 (.lst [vgn, ve])) = H100 at ea lr8 ⊢
      replace I := I.ex Z.hR ea
      replace e1 := e1.trans ea
      replace qf := qf.ex ea
      replace qg := qg.ex ea
      replace qe := qe.ex ea
      clear ea hr8
      refine ⟨_, rfl, ?_⟩
      refine ⟨(by show 0 ≤ sizeLine; decide), fun ll10 hll10 => ?_⟩
      have nll10 : ll10 ≠ pc := (ne_of_none I.1 hll10).symm
      have ea : Ex H100 (upd H100 ll10 (.lst [])) := Ex.new hll10
      have lll10 : (upd H100 ll10 (.lst [])) ll10 = some (.lst []) := upd_same
      generalize (upd H100 ll10 (.lst [])) = H101 at ea lll10 ⊢
      replace I := I.ex Z.hR ea
      replace e1 := e1.trans ea
      replace qf := qf.ex ea
      replace qg := qg.ex ea
      replace qe := qe.ex ea
      replace lr8 := ea _ _ lr8
      clear ea hll10
      refine ⟨NotP pc, ll10, [], noE, rfl, lll10, fun c hc => ?_, ?_, (by show 0 ≤ 1000; decide), fun k hk => ?_, I.2.2.tb, fun rb H102 eb qb => ?_⟩
      · cases hc
      · exact List.nodup_nil
      · rfl
      replace qb := qb.imp fun z hz => ne_new I.1 z (.inr hz)
      replace I := I.ex Z.hR eb
      replace e1 := e1.trans eb
      replace qf := qf.ex eb
      replace qg := qg.ex eb
      replace qe := qe.ex eb
      replace lr8 := eb _ _ lr8
      replace lll10 := eb _ _ lll10
      clear eb
      clear lll10 nll10
      obtain ⟨xb8, _, _, _, rfl, _, _⟩ := qb.fields
      refine ⟨NotP pc, D, .ref xb8, k0 :: ks, .build noE, rfl, I.2.2.path, hks, qb, I.2.2.tb, fun vm H103 eb qm => ?_⟩
      replace qm := qm.imp (ne_new I.1)
      replace I := I.ex Z.hR eb
      replace e1 := e1.trans eb
      replace qf := qf.ex eb
      replace qg := qg.ex eb
      replace qe := qe.ex eb
      replace qb := qb.ex eb
      replace lr8 := eb _ _ lr8
      clear eb
      refine ⟨(by show 2 ≤ sizeLine; decide), fun t8 ht8 => ?_⟩
      have nt8 : t8 ≠ pc := (ne_of_none I.1 ht8).symm
      have ea : Ex H103 (upd H103 t8 (.tup [.ref r8, vm])) := Ex.new ht8
      have lt8 : (upd H103 t8 (.tup [.ref r8, vm])) t8 = some (.tup [.ref r8, vm]) := upd_same
      generalize (upd H103 t8 (.tup [.ref r8, vm])) = H104 at ea lt8 ⊢
      replace I := I.ex Z.hR ea
      replace e1 := e1.trans ea
      replace qf := qf.ex ea
      replace qg := qg.ex ea
      replace qe := qe.ex ea
      replace qb := qb.ex ea
      replace qm := qm.ex ea
      replace lr8 := ea _ _ lr8
      clear ea ht8
      have cs : CaseAt C pc H104 t8 := by
        refine case_nest [(vgn, _), (ve, _)] (Gd) [.ob fun _ => .nil] lt8 nt8 nr8 lr8 (by show 2 ≤ 4; decide) rfl (fun q hq => ?_) (qm.lift (by omega)) (fun d hd => ?_) (rw_c8 hG)
        · simp only [List.mem_cons, List.not_mem_nil, or_false] at hq
          rcases hq with rfl | rfl
          · exact nst_ok hl6 qg pdG.1 pdG.2
          · exact nst_ok hl6 qe pdE.1 pdE.2
        · simp only [List.mem_cons, List.not_mem_nil, or_false] at hd
          rcases hd with rfl | rfl <;> first | rfl | exact gnil
      refine ⟨pc, _, _, rfl, rfl, I.1, (by show 7 < sizeLine; decide), ?_⟩
      have m : Aw pc H104 (upd H104 pc (.lst (([t1] ++ [t2] ++ [t3] ++ [t4] ++ [t5] ++ [t6] ++ [t7]).map V.ref ++ [.ref t8]))) := Aw.put I.1
      replace e1 : Ex H1 (upd H104 pc (.lst (([t1] ++ [t2] ++ [t3] ++ [t4] ++ [t5] ++ [t6] ++ [t7]).map V.ref ++ [.ref t8]))) := e1.mut npc I.1
      replace I := I.put Z.hR cs
      clear lt8
      generalize (upd H104 pc (.lst (([t1] ++ [t2] ++ [t3] ++ [t4] ++ [t5] ++ [t6] ++ [t7]).map V.ref ++ [.ref t8]))) = H105 at m e1 I ⊢
      replace qf := qf.aw m
      replace qg := qg.aw m
      replace qe := qe.aw m
      replace qb := qb.aw m
      replace qm := qm.aw m
      replace lr8 := m.go _ _ nr8 lr8 rfl
      clear m cs
      exact ⟨t8, rfl, I, e1, qf⟩
    clear I e1 qf
    rintro σ H106 ⟨t8, rfl, I, e1, qf⟩
    refine ⟨fun σ H' => ∃ t9, σ = [some (.ref a), some (.int num), some (.ref p), some (.ref D), some (.str x), some (.str y), some va, some vb, some vg, some (.ref xb), some (.ref pc), some vf, some vl, some v3, some (.ref ends), some v4, some (.ref r5), y17, y18, z19] ∧ Iv C Pt pc H' D k0 ks x y va vb vg A B Gd ([t1] ++ [t2] ++ [t3] ++ [t4] ++ [t5] ++ [t6] ++ [t7] ++ [t8] ++ [t9]) ∧ Ex H1 H', ?_, ?_⟩
    ·
      refine ⟨_, rfl, .inl ⟨rfl, _, .inl (.inl I.1)⟩, ?_⟩
      refine ⟨_, rfl, ?_⟩
      refine ⟨(by show 2 ≤ sizeLine; decide), fun r9 hr9 => ?_⟩
      have nr9 : r9 ≠ pc := (ne_of_none I.1 hr9).symm
      have ea : Ex H106 (upd H106 r9 (.lst [vf, .non])) := Ex.new hr9
      have lr9 : (upd H106 r9 (.lst [vf, .non])) r9 = some (.lst [vf, .non]) := upd_same
      generalize (upd H106 r9 (.lst [vf, .non])) = H107 at ea lr9 ⊢
      replace I := I.ex Z.hR ea
      replace e1 := e1.trans ea
      replace qf := qf.ex ea
      clear ea hr9
      refine ⟨(by show 0 ≤ sizeLine; decide), fun pl hpl => ?_⟩
      have npl : pl ≠ pc := (ne_of_none I.1 hpl).symm
      have ea : Ex H107 (upd H107 pl (.lst [])) := Ex.new hpl
      have lpl : (upd H107 pl (.lst [])) pl = some (.lst []) := upd_same
      generalize (upd H107 pl (.lst [])) = H108 at ea lpl ⊢
      replace I := I.ex Z.hR ea
      replace e1 := e1.trans ea
      replace qf := qf.ex ea
      replace lr9 := ea _ _ lr9
      clear ea hpl
      intro xs dx nx ndx ne
      refine spInit_mono (mk_set (S := NotP pc) (m := 0) (d := .sc .non) 7 (Dc.sc hN) rfl Z.hR (.inl lpl) I.2.2.tb xs dx nx ndx ne) ?_
      rintro _ H109 ⟨rfl, eb, M⟩
      have qs := M.imp fun z hz => ne_new I.1 z (.inr hz)
      clear M nx ndx ne
      replace I := I.ex Z.hR eb
      replace e1 := e1.trans eb
      replace qf := qf.ex eb
      replace lr9 := eb _ _ lr9
      clear eb
      refine ⟨rfl, ?_⟩
      refine ⟨(by show 2 ≤ sizeLine; decide), fun t9 ht9 => ?_⟩
      have nt9 : t9 ≠ pc := (ne_of_none I.1 ht9).symm
      have ea : Ex H109 (upd H109 t9 (.tup [.ref r9, .ref xs])) := Ex.new ht9
      have lt9 : (upd H109 t9 (.tup [.ref r9, .ref xs])) t9 = some (.tup [.ref r9, .ref xs]) := upd_same
      generalize (upd H109 t9 (.tup [.ref r9, .ref xs])) = H110 at ea lt9 ⊢
      replace I := I.ex Z.hR ea
      replace e1 := e1.trans ea
      replace qf := qf.ex ea
      replace qs := qs.ex ea
      replace lr9 := ea _ _ lr9
      clear ea ht9
      have cs : CaseAt C pc H110 t9 := by
        refine ⟨r9, .ref xs, [(vf, nestD (k0 :: ks) (oneD x A)), (.non, .sc .non)], _, nt9, lt9, nr9, lr9, (by show 2 ≤ 4; decide), fun q hq => ?_, qs, (rw_c9 _).1, (rw_c9 _).2⟩
        simp only [List.mem_cons, List.not_mem_nil, or_false] at hq
        rcases hq with rfl | rfl
        · exact nst_ok hl6 qf pdA.1 pdA.2
        · exact ⟨Dc.sc hN, pd_sc (by decide), trivial⟩
      refine ⟨pc, _, _, rfl, rfl, I.1, (by show 8 < sizeLine; decide), ?_⟩
      have m : Aw pc H110 (upd H110 pc (.lst (([t1] ++ [t2] ++ [t3] ++ [t4] ++ [t5] ++ [t6] ++ [t7] ++ [t8]).map V.ref ++ [.ref t9]))) := Aw.put I.1
      replace e1 : Ex H1 (upd H110 pc (.lst (([t1] ++ [t2] ++ [t3] ++ [t4] ++ [t5] ++ [t6] ++ [t7] ++ [t8]).map V.ref ++ [.ref t9]))) := e1.mut npc I.1
      replace I := I.put Z.hR cs
      clear lt9
      generalize (upd H110 pc (.lst (([t1] ++ [t2] ++ [t3] ++ [t4] ++ [t5] ++ [t6] ++ [t7] ++ [t8]).map V.ref ++ [.ref t9]))) = H111 at m e1 I ⊢
      replace qf := qf.aw m
      replace qs := qs.aw m
      replace lr9 := m.go _ _ nr9 lr9 rfl
      clear m cs
      exact ⟨t9, rfl, I, e1⟩
    clear I e1 qf
    rintro σ H112 ⟨t9, rfl, I, e1⟩
    refine ⟨fun σ H' => ∃ t10, σ = [some (.ref a), some (.int num), some (.ref p), some (.ref D), some (.str x), some (.str y), some va, some vb, some vg, some (.ref xb), some (.ref pc), some vf, some vl, some v3, some (.ref ends), some v4, some (.ref r5), y17, y18, z19] ∧ Iv C Pt pc H' D k0 ks x y va vb vg A B Gd ([t1] ++ [t2] ++ [t3] ++ [t4] ++ [t5] ++ [t6] ++ [t7] ++ [t8] ++ [t9] ++ [t10]) ∧ Ex H1 H', ?_, ?_⟩
    ·
      refine ⟨_, rfl, .inl ⟨rfl, _, .inl (.inl I.1)⟩, ?_⟩
      refine fun pd10 hpd10 => ⟨_, rfl, _, rfl, upd_same, [(Sum.inr x, va)], rfl, (by show 1 ≤ 15; decide), ?_⟩
      have npd10 : pd10 ≠ pc := (ne_of_none I.1 hpd10).symm
      obtain ⟨ea, lpd10⟩ := disp1 x va hpd10
      generalize (upd (upd H112 pd10 (.dK [])) pd10 (.dK (mergeK [] [(Sum.inr x, va)]))) = H113 at ea lpd10 ⊢
      replace I := I.ex Z.hR ea
      replace e1 := e1.trans ea
      clear ea hpd10
      have qo : Dc (NotP pc) g24 H113 2 (.ref pd10) (oneD x A) := dc_one hx npd10 lpd10 I.2.2.a
      clear lpd10 npd10
      refine ⟨(by show 2 ≤ sizeLine; decide), fun r10 hr10 => ?_⟩
      have nr10 : r10 ≠ pc := (ne_of_none I.1 hr10).symm
      have ea : Ex H113 (upd H113 r10 (.lst [.non, .ref pd10])) := Ex.new hr10
      have lr10 : (upd H113 r10 (.lst [.non, .ref pd10])) r10 = some (.lst [.non, .ref pd10]) := upd_same
      generalize (upd H113 r10 (.lst [.non, .ref pd10])) = H114 at ea lr10 ⊢
      replace I := I.ex Z.hR ea
      replace e1 := e1.trans ea
      replace qo := qo.ex ea
      clear ea hr10
      refine ⟨_, rfl, _, rfl, ?_⟩
      refine ⟨(by show 2 ≤ sizeLine; decide), fun tt11_0 htt11_0 => ?_⟩
      have ntt11_0 : tt11_0 ≠ pc := (ne_of_none I.1 htt11_0).symm
      have ea : Ex H114 (upd H114 tt11_0 (.tup [.str x, va])) := Ex.new htt11_0
      have ltt11_0 : (upd H114 tt11_0 (.tup [.str x, va])) tt11_0 = some (.tup [.str x, va]) := upd_same
      generalize (upd H114 tt11_0 (.tup [.str x, va])) = H115 at ea ltt11_0 ⊢
      replace I := I.ex Z.hR ea
      replace e1 := e1.trans ea
      replace qo := qo.ex ea
      replace lr10 := ea _ _ lr10
      clear ea htt11_0
      refine ⟨(by show 1 ≤ sizeLine; decide), fun ll11 hll11 => ?_⟩
      have nll11 : ll11 ≠ pc := (ne_of_none I.1 hll11).symm
      have ea : Ex H115 (upd H115 ll11 (.lst [.ref tt11_0])) := Ex.new hll11
      have lll11 : (upd H115 ll11 (.lst [.ref tt11_0])) ll11 = some (.lst [.ref tt11_0]) := upd_same
      generalize (upd H115 ll11 (.lst [.ref tt11_0])) = H116 at ea lll11 ⊢
      replace I := I.ex Z.hR ea
      replace e1 := e1.trans ea
      replace qo := qo.ex ea
      replace lr10 := ea _ _ lr10
      replace ltt11_0 := ea _ _ ltt11_0
      clear ea hll11
      refine ⟨NotP pc, ll11, [(tt11_0, x, va, A)], oneE x (.set A), rfl, lll11, fun c hc => ?_, ?_, (by show 1 ≤ 1000; decide), fun k hk => ?_, I.2.2.tb, fun rb H117 eb qb => ?_⟩
      · rw [List.mem_singleton.mp hc]
        exact ⟨ltt11_0, hx, I.2.2.a, hA.2.2, if_pos rfl⟩
      · simp
      · exact if_neg fun z => hk (by rw [z]; simp)
      replace qb := qb.imp fun z hz => ne_new I.1 z (.inr hz)
      replace I := I.ex Z.hR eb
      replace e1 := e1.trans eb
      replace qo := qo.ex eb
      replace lr10 := eb _ _ lr10
      replace ltt11_0 := eb _ _ ltt11_0
      replace lll11 := eb _ _ lll11
      clear eb
      clear ltt11_0 ntt11_0
      clear lll11 nll11
      refine ⟨(by show 2 ≤ sizeLine; decide), fun t10 ht10 => ?_⟩
      have nt10 : t10 ≠ pc := (ne_of_none I.1 ht10).symm
      have ea : Ex H117 (upd H117 t10 (.tup [.ref r10, rb])) := Ex.new ht10
      have lt10 : (upd H117 t10 (.tup [.ref r10, rb])) t10 = some (.tup [.ref r10, rb]) := upd_same
      generalize (upd H117 t10 (.tup [.ref r10, rb])) = H118 at ea lt10 ⊢
      replace I := I.ex Z.hR ea
      replace e1 := e1.trans ea
      replace qo := qo.ex ea
      replace qb := qb.ex ea
      replace lr10 := ea _ _ lr10
      clear ea ht10
      have cs : CaseAt C pc H118 t10 := by
        refine ⟨r10, rb, [(.non, .sc .non), (.ref pd10, oneD x A)], _, nt10, lt10, nr10, lr10, (by show 2 ≤ 4; decide), fun q hq => ?_, qb.lift (by decide), (rw_c10 hA).1, (rw_c10 hA).2⟩
        simp only [List.mem_cons, List.not_mem_nil, or_false] at hq
        rcases hq with rfl | rfl
        · exact ⟨Dc.sc hN, pd_sc (by decide), trivial⟩
        · exact ⟨qo.lift (by decide), pdA.1.mono (by decide), pdA.2.mono (by decide)⟩
      refine ⟨pc, _, _, rfl, rfl, I.1, (by show 9 < sizeLine; decide), ?_⟩
      have m : Aw pc H118 (upd H118 pc (.lst (([t1] ++ [t2] ++ [t3] ++ [t4] ++ [t5] ++ [t6] ++ [t7] ++ [t8] ++ [t9]).map V.ref ++ [.ref t10]))) := Aw.put I.1
      replace e1 : Ex H1 (upd H118 pc (.lst (([t1] ++ [t2] ++ [t3] ++ [t4] ++ [t5] ++ [t6] ++ [t7] ++ [t8] ++ [t9]).map V.ref ++ [.ref t10]))) := e1.mut npc I.1
      replace I := I.put Z.hR cs
      clear lt10
      generalize (upd H118 pc (.lst (([t1] ++ [t2] ++ [t3] ++ [t4] ++ [t5] ++ [t6] ++ [t7] ++ [t8] ++ [t9]).map V.ref ++ [.ref t10]))) = H119 at m e1 I ⊢
      replace qo := qo.aw m
      replace qb := qb.aw m
      replace lr10 := m.go _ _ nr10 lr10 rfl
      clear m cs
      exact ⟨t10, rfl, I, e1⟩
    clear I e1
    rintro σ H120 ⟨t10, rfl, I, e1⟩
    refine ⟨fun σ H' => ∃ t11, σ = [some (.ref a), some (.int num), some (.ref p), some (.ref D), some (.str x), some (.str y), some va, some vb, some vg, some (.ref xb), some (.ref pc), some vf, some vl, some v3, some (.ref ends), some v4, some (.ref r5), y17, y18, z19] ∧ Iv C Pt pc H' D k0 ks x y va vb vg A B Gd ([t1] ++ [t2] ++ [t3] ++ [t4] ++ [t5] ++ [t6] ++ [t7] ++ [t8] ++ [t9] ++ [t10] ++ [t11]) ∧ Ex H1 H', ?_, ?_⟩
    ·
      refine ⟨_, rfl, .inl ⟨rfl, _, .inl (.inl I.1)⟩, ?_⟩
      refine fun pa1 hpa1 => ⟨_, rfl, ?_⟩
      have npa1 : pa1 ≠ pc := (ne_of_none I.1 hpa1).symm
      have ea : Ex H120 (upd H120 pa1 (.dK [])) := Ex.new hpa1
      refine fun pb1 hpb1 => ⟨_, rfl, _, rfl, upd_same, [(Sum.inr y, va)], rfl, (by show 1 ≤ 15; decide), ?_⟩
      have npb1 : pb1 ≠ pc := (ne_of_none (ea _ _ I.1) hpb1).symm
      have nab : pb1 ≠ pa1 := (ne_of_none upd_same hpb1).symm
      obtain ⟨eb, lb⟩ := disp1 y va hpb1
      have la : (upd (upd (upd H120 pa1 (.dK [])) pb1 (.dK [])) pb1 (.dK (mergeK [] [(Sum.inr y, va)]))) pa1 = some (.dK []) := eb _ _ upd_same
      generalize (upd (upd (upd H120 pa1 (.dK [])) pb1 (.dK [])) pb1 (.dK (mergeK [] [(Sum.inr y, va)]))) = Hb at eb lb la ⊢
      refine ⟨la, [(Sum.inr x, .ref pb1)], rfl, (by show 1 ≤ 15; decide), ?_⟩
      have ec : Ex H120 (upd Hb pa1 (.dK (mergeK [] [(Sum.inr x, .ref pb1)]))) := (ea.trans eb).mut hpa1 la
      have lc : (upd Hb pa1 (.dK (mergeK [] [(Sum.inr x, .ref pb1)]))) pa1 = some (.dK (mergeK [] [(Sum.inr x, .ref pb1)])) := upd_same
      have ld : (upd Hb pa1 (.dK (mergeK [] [(Sum.inr x, .ref pb1)]))) pb1 = some (.dK (mergeK [] [(Sum.inr y, va)])) := by rw [upd_ne nab]; exact lb
      generalize (upd Hb pa1 (.dK (mergeK [] [(Sum.inr x, .ref pb1)]))) = H121 at ec lc ld ⊢
      replace I := I.ex Z.hR ec
      replace e1 := e1.trans ec
      have qo : Dc (NotP pc) g24 H121 3 (.ref pa1) (oneD x (oneD y A)) := dc_one hx npa1 lc (dc_one hy npb1 ld I.2.2.a)
      clear ea eb ec la lb lc ld nab hpa1 hpb1 npa1 npb1
      refine fun pa2 hpa2 => ⟨_, rfl, ?_⟩
      have npa2 : pa2 ≠ pc := (ne_of_none I.1 hpa2).symm
      have ea : Ex H121 (upd H121 pa2 (.dK [])) := Ex.new hpa2
      refine fun pb2 hpb2 => ⟨_, rfl, upd_same, [(Sum.inr y, .non)], rfl, (by show 1 ≤ 15; decide), ?_⟩
      have npb2 : pb2 ≠ pc := (ne_of_none (ea _ _ I.1) hpb2).symm
      have nab : pb2 ≠ pa2 := (ne_of_none upd_same hpb2).symm
      obtain ⟨eb, lb⟩ := disp1 y .non hpb2
      have la : (upd (upd (upd H121 pa2 (.dK [])) pb2 (.dK [])) pb2 (.dK (mergeK [] [(Sum.inr y, .non)]))) pa2 = some (.dK []) := eb _ _ upd_same
      generalize (upd (upd (upd H121 pa2 (.dK [])) pb2 (.dK [])) pb2 (.dK (mergeK [] [(Sum.inr y, .non)]))) = Hb at eb lb la ⊢
      refine ⟨la, [(Sum.inr x, .ref pb2)], rfl, (by show 1 ≤ 15; decide), ?_⟩
      have ec : Ex H121 (upd Hb pa2 (.dK (mergeK [] [(Sum.inr x, .ref pb2)]))) := (ea.trans eb).mut hpa2 la
      have lc : (upd Hb pa2 (.dK (mergeK [] [(Sum.inr x, .ref pb2)]))) pa2 = some (.dK (mergeK [] [(Sum.inr x, .ref pb2)])) := upd_same
      have ld : (upd Hb pa2 (.dK (mergeK [] [(Sum.inr x, .ref pb2)]))) pb2 = some (.dK (mergeK [] [(Sum.inr y, .non)])) := by rw [upd_ne nab]; exact lb
      generalize (upd Hb pa2 (.dK (mergeK [] [(Sum.inr x, .ref pb2)]))) = H122 at ec lc ld ⊢
      replace I := I.ex Z.hR ec
      replace e1 := e1.trans ec
      replace qo := qo.ex ec
      have qp : Dc (NotP pc) g24 H122 3 (.ref pa2) (oneD x (oneD y (.sc .non))) := dc_one hx npa2 lc (dc_one hy npb2 ld (Dc.sc hN))
      clear ea eb ec la lb lc ld nab hpa2 hpb2 npa2 npb2
      refine ⟨(by show 3 ≤ sizeLine; decide), fun r11 hr11 => ?_⟩
      have nr11 : r11 ≠ pc := (ne_of_none I.1 hr11).symm
      have ea : Ex H122 (upd H122 r11 (.lst [.ref pa1, .int 3, .ref pa2])) := Ex.new hr11
      have lr11 : (upd H122 r11 (.lst [.ref pa1, .int 3, .ref pa2])) r11 = some (.lst [.ref pa1, .int 3, .ref pa2]) := upd_same
      generalize (upd H122 r11 (.lst [.ref pa1, .int 3, .ref pa2])) = H123 at ea lr11 ⊢
      replace I := I.ex Z.hR ea
      replace e1 := e1.trans ea
      replace qo := qo.ex ea
      replace qp := qp.ex ea
      clear ea hr11
      refine ⟨_, rfl, ?_⟩
      refine ⟨(by show 0 ≤ sizeLine; decide), fun ll12 hll12 => ?_⟩
      have nll12 : ll12 ≠ pc := (ne_of_none I.1 hll12).symm
      have ea : Ex H123 (upd H123 ll12 (.lst [])) := Ex.new hll12
      have lll12 : (upd H123 ll12 (.lst [])) ll12 = some (.lst []) := upd_same
      generalize (upd H123 ll12 (.lst [])) = H124 at ea lll12 ⊢
      replace I := I.ex Z.hR ea
      replace e1 := e1.trans ea
      replace qo := qo.ex ea
      replace qp := qp.ex ea
      replace lr11 := ea _ _ lr11
      clear ea hll12
      refine ⟨NotP pc, ll12, [], noE, rfl, lll12, fun c hc => ?_, ?_, (by show 0 ≤ 1000; decide), fun k hk => ?_, I.2.2.tb, fun rb H125 eb qb => ?_⟩
      · cases hc
      · exact List.nodup_nil
      · rfl
      replace qb := qb.imp fun z hz => ne_new I.1 z (.inr hz)
      replace I := I.ex Z.hR eb
      replace e1 := e1.trans eb
      replace qo := qo.ex eb
      replace qp := qp.ex eb
      replace lr11 := eb _ _ lr11
      replace lll12 := eb _ _ lll12
      clear eb
      clear lll12 nll12
      refine ⟨(by show 2 ≤ sizeLine; decide), fun w1 hw1 => ?_⟩
      have nw1 : w1 ≠ pc := (ne_of_none I.1 hw1).symm
      have ea : Ex H125 (upd H125 w1 (.tup [.str x, rb])) := Ex.new hw1
      have lw1 : (upd H125 w1 (.tup [.str x, rb])) w1 = some (.tup [.str x, rb]) := upd_same
      generalize (upd H125 w1 (.tup [.str x, rb])) = H126 at ea lw1 ⊢
      replace I := I.ex Z.hR ea
      replace e1 := e1.trans ea
      replace qo := qo.ex ea
      replace qp := qp.ex ea
      replace qb := qb.ex ea
      replace lr11 := ea _ _ lr11
      clear ea hw1
      refine ⟨(by show 1 ≤ sizeLine; decide), fun w2 hw2 => ?_⟩
      have nw2 : w2 ≠ pc := (ne_of_none I.1 hw2).symm
      have ea : Ex H126 (upd H126 w2 (.lst [.ref w1])) := Ex.new hw2
      have lw2 : (upd H126 w2 (.lst [.ref w1])) w2 = some (.lst [.ref w1]) := upd_same
      generalize (upd H126 w2 (.lst [.ref w1])) = H127 at ea lw2 ⊢
      replace I := I.ex Z.hR ea
      replace e1 := e1.trans ea
      replace qo := qo.ex ea
      replace qp := qp.ex ea
      replace qb := qb.ex ea
      replace lr11 := ea _ _ lr11
      replace lw1 := ea _ _ lw1
      clear ea hw2
      intro xm dx nx ndx ne
      refine spInit_mono (mk_oneE (kd := "build") (n := 2) (S := NotP pc) hN Z.hR hx lw2 lw1 I.2.2.tb qb xm dx nx ndx ne) ?_
      rintro _ H128 ⟨rfl, eb, M⟩
      have qm := (M.2 rfl).imp fun z hz => ne_new I.1 z hz.symm
      clear M nx ndx ne
      replace I := I.ex Z.hR eb
      replace e1 := e1.trans eb
      replace qo := qo.ex eb
      replace qp := qp.ex eb
      replace qb := qb.ex eb
      replace lr11 := eb _ _ lr11
      replace lw1 := eb _ _ lw1
      replace lw2 := eb _ _ lw2
      clear eb
      refine ⟨rfl, ?_⟩
      refine ⟨(by show 2 ≤ sizeLine; decide), fun t11 ht11 => ?_⟩
      have nt11 : t11 ≠ pc := (ne_of_none I.1 ht11).symm
      have ea : Ex H128 (upd H128 t11 (.tup [.ref r11, .ref xm])) := Ex.new ht11
      have lt11 : (upd H128 t11 (.tup [.ref r11, .ref xm])) t11 = some (.tup [.ref r11, .ref xm]) := upd_same
      generalize (upd H128 t11 (.tup [.ref r11, .ref xm])) = H129 at ea lt11 ⊢
      replace I := I.ex Z.hR ea
      replace e1 := e1.trans ea
      replace qo := qo.ex ea
      replace qp := qp.ex ea
      replace qb := qb.ex ea
      replace qm := qm.ex ea
      replace lr11 := ea _ _ lr11
      replace lw1 := ea _ _ lw1
      replace lw2 := ea _ _ lw2
      clear ea ht11
      have cs : CaseAt C pc H129 t11 := by
        refine ⟨r11, .ref xm, [(.ref pa1, oneD x (oneD y A)), (.int 3, .sc (.int 3)), (.ref pa2, oneD x (oneD y (.sc .non)))], _, nt11, lt11, nr11, lr11, (by show 3 ≤ 4; decide), fun q hq => ?_, qm.lift (by decide), rw_c11.1, rw_c11.2⟩
        simp only [List.mem_cons, List.not_mem_nil, or_false] at hq
        rcases hq with rfl | rfl | rfl
        · exact ⟨qo.lift (by decide), (pd_one (pd_one (at_pd hA.2.2).1)).mono (by decide), (dd_one (dd_one (at_pd hA.2.2).2)).mono (by decide)⟩
        · exact ⟨Dc.sc (by decide +kernel), pd_sc (by decide), trivial⟩
        · exact ⟨qp.lift (by decide), (pd_one (pd_one (pd_sc (v := .non) (Nat.le_refl 1)))).mono (by decide), (dd_one (dd_one (d := .sc .non) (n := 0) trivial)).mono (by decide)⟩
      refine ⟨pc, _, _, rfl, rfl, I.1, (by show 10 < sizeLine; decide), ?_⟩
      have m : Aw pc H129 (upd H129 pc (.lst (([t1] ++ [t2] ++ [t3] ++ [t4] ++ [t5] ++ [t6] ++ [t7] ++ [t8] ++ [t9] ++ [t10]).map V.ref ++ [.ref t11]))) := Aw.put I.1
      replace e1 : Ex H1 (upd H129 pc (.lst (([t1] ++ [t2] ++ [t3] ++ [t4] ++ [t5] ++ [t6] ++ [t7] ++ [t8] ++ [t9] ++ [t10]).map V.ref ++ [.ref t11]))) := e1.mut npc I.1
      replace I := I.put Z.hR cs
      clear lt11
      generalize (upd H129 pc (.lst (([t1] ++ [t2] ++ [t3] ++ [t4] ++ [t5] ++ [t6] ++ [t7] ++ [t8] ++ [t9] ++ [t10]).map V.ref ++ [.ref t11]))) = H130 at m e1 I ⊢
      replace qo := qo.aw m
      replace qp := qp.aw m
      replace qb := qb.aw m
      replace qm := qm.aw m
      replace lr11 := m.go _ _ nr11 lr11 rfl
      replace lw1 := m.go _ _ nw1 lw1 rfl
      replace lw2 := m.go _ _ nw2 lw2 rfl
      clear m cs
      exact ⟨t11, rfl, I, e1⟩
    clear I e1
    rintro σ H131 ⟨t11, rfl, I, e1⟩
    -- each case
    refine ⟨_, rfl, pc, rfl, ⟨_, .inl (.inl I.1)⟩, ?_⟩
    refine for_list (K := K) (a := pc) (xs := ([t1] ++ [t2] ++ [t3] ++ [t4] ++ [t5] ++ [t6] ++ [t7] ++ [t8] ++ [t9] ++ [t10] ++ [t11]).map V.ref) (fun i σ H5 => (∃ y1 y2 y3 y4 y5 y6 y7 y8 y9 y10 y11 y12 y13 y14 y15 y16 y17 y18 y19, σ = [some (.ref a), y1, y2, y3, y4, y5, y6, y7, y8, y9, y10, y11, y12, y13, y14, y15, y16, y17, y18, y19]) ∧ Ex H131 H5) ⟨⟨_, _, _, _, _, _, _, _, _, _, _, _, _, _, _, _, _, _, _, rfl⟩, Ex.refl _⟩ (fun i σ H5 _ q => .inl (.inl (q.2 pc _ I.1))) ?_ ?_
    · rintro i t' σ H5 hi ⟨⟨y1, y2, y3, y4, y5, y6, y7, y8, y9, y10, y11, y12, y13, y14, y15, y16, y17, y18, y19, rfl⟩, e5⟩
      obtain ⟨t, ht, rfl⟩ : ∃ t, t ∈ ([t1] ++ [t2] ++ [t3] ++ [t4] ++ [t5] ++ [t6] ++ [t7] ++ [t8] ++ [t9] ++ [t10] ++ [t11]) ∧ t' = .ref t := by
        obtain ⟨t, h1, h2⟩ := List.mem_map.mp (List.mem_of_getElem? hi)
        exact ⟨t, h1, h2.symm⟩
      obtain ⟨r, v, rs, e, c1, c2, c3, c4, c5, c6, c7, c8, c9⟩ := (I.2.1 t ht).aw (Aw.of_ex e5)
      have tb5 := e5.tab _ _ Z.hR I.2.2.tb
      refine ⟨t, _, rfl, .inl (.inl c2), rfl, _, _, rfl, _, _, rfl, rfl, ?_⟩
      obtain ⟨a2, dx2, av2, u2, rfl, _, ha2⟩ := c7.fields
      refine ⟨_, rfl, NotP pc, r, eight rs, rfl, row_at8 c4 c6 (by omega), tb5, fun v1 H6 e6 hv1 => ?_⟩
      rw [eight2, c8] at hv1
      obtain ⟨a1, dx1, av1, u1, rfl, _, ha1⟩ := hv1.fields
      refine ⟨_, rfl, a1, a2, dx1, dx2, _, _, rfl, rfl, ha1, e6 _ _ ha2, ⟨_, _, e, hv1, c7.ex e6⟩, fun H7 x7 => ⟨_, rfl, iteF ?_⟩⟩
      have e57 : Ex H5 H7 := e6.trans (Ex.of_ext x7)
      refine ⟨_, rfl, _, rfl, r, r, _, _, rfl, rfl, e57 _ _ c4, e57 _ _ c4, ?_, fun rr hrr => ?_⟩
      · rw [List.length_map]; exact Nat.le_trans (show rs.length + rs.length ≤ 8 by omega) (by decide)
      rw [← List.map_append]
      have e8 : Ex H7 (upd H7 rr (.lst ((rs ++ rs).map (·.1)))) := Ex.new hrr
      have l8 : (upd H7 rr (.lst ((rs ++ rs).map (·.1)))) rr = some (.lst ((rs ++ rs).map (·.1))) := upd_same
      generalize (upd H7 rr (.lst ((rs ++ rs).map (·.1)))) = H8 at e8 l8 ⊢
      have e58 := e57.trans e8
      refine ⟨NotP pc, rr, eight (rs ++ rs), rfl, row_at8 l8 (fun q hq => ?_) (by rw [List.length_append]; omega), e58.tab _ _ Z.hR tb5, fun v3 H9 e9 hv3 => ?_⟩
      · have := c6 q ((List.mem_append.mp hq).elim id id)
        exact ⟨this.1.ex e58, this.2⟩
      rw [eight2, List.map_append, c9] at hv3
      obtain ⟨a3, dx3, av3, u3, rfl, _, ha3⟩ := hv3.fields
      have e59 := e58.trans e9
      refine ⟨_, rfl, a3, a2, dx3, dx2, _, _, rfl, rfl, ha3, e59 _ _ ha2, ⟨_, _, e, hv3, c7.ex e59⟩, fun H10 x10 => ⟨_, rfl, iteF ?_⟩⟩
      exact ⟨⟨_, _, _, _, _, _, _, _, _, _, _, _, _, _, _, _, _, _, _, rfl⟩, e5.trans (e59.trans (Ex.of_ext x10))⟩
    · rintro σ H5 ⟨⟨y1, y2, y3, y4, y5, y6, y7, y8, y9, y10, y11, y12, y13, y14, y15, y16, y17, y18, y19, rfl⟩, e5⟩
      exact ⟨⟨_, _, _, _, _, _, _, _, _, _, _, _, _, _, _, _, _, _, _, rfl⟩, e1.trans e5⟩
  · rintro σ H3 ⟨⟨y1, y2, y3, y4, y5, y6, y7, y8, y9, y10, y11, y12, y13, y14, y15, y16, y17, y18, y19, rfl⟩, _⟩
    exact k H3
end
end TP

namespace TP
open PySem PySem.Spec PyProof.Rows L2
instance : TabL := ⟨fun _ q => q = qLam, fun _ _ _ h h' => h.trans h'.symm⟩
theorem all_mk {l : PySem.W.OpenLaw} {w : World} {K : PySem.W.Frag} {h : Heap} {mg : Str → Option Value} {fa f0 f1 f2 f3 f4 f5 f6 f7 f8 f9 f10 f11 f12 f13 f14 f15 f16 f17 f18 f19 f20 C cX Pt Nn fI fA fE : Addr} (X : K.In h) (G : h.Ns mainGlobals mg) (hfa : mg "law" = some (.ref fa))
    {od0 an0 od1 an1 od2 an2 od3 an3 od4 an4 od5 an5 od6 an6 od7 an7 od8 an8 od9 an9 od10 an10 od11 an11 od12 an12 od13 an13 od14 an14 od15 an15 od16 an16 od17 an17 od18 an18 od19 an19 od20 an20 odI anI odA anA odE anE : Option Addr} {sl0 sl1 sl2 sl3 sl4 sl5 sl6 sl7 sl8 sl9 sl10 sl11 sl12 sl13 sl14 sl15 sl16 sl17 sl18 sl19 sl20 slI slA slE : Array (Option Value)} {oc0 kV0 dc0 pm0 cd0 ct0 oc1 kV1 dc1 pm1 cd1 ct1 oc2 kV2 dc2 pm2 cd2 ct2 oc3 kV3 dc3 pm3 cd3 ct3 oc4 kV4 dc4 pm4 cd4 ct4 oc5 kV5 dc5 pm5 cd5 ct5 oc6 kV6 dc6 pm6 cd6 ct6 oc7 kV7 dc7 pm7 cd7 ct7 oc8 kV8 dc8 pm8 cd8 ct8 oc9 kV9 dc9 pm9 cd9 ct9 oc10 kV10 dc10 pm10 cd10 ct10 oc11 kV11 dc11 pm11 cd11 ct11 oc12 kV12 dc12 pm12 cd12 ct12 oc13 kV13 dc13 pm13 cd13 ct13 oc14 kV14 dc14 pm14 cd14 ct14 oc15 kV15 dc15 pm15 cd15 ct15 oc16 kV16 dc16 pm16 cd16 ct16 oc17 kV17 dc17 pm17 cd17 ct17 oc18 kV18 dc18 pm18 cd18 ct18 oc19 kV19 dc19 pm19 cd19 ct19 oc20 kV20 dc20 pm20 cd20 ct20 ocI kVI dcI pmI cdI ctI ocA kVA dcA pmA cdA ctA ocE kVE dcE pmE cdE ctE : Value} {tk0 tk1 : Tok}
    {nmE qE : Str} {bsE subE : List Value} {snE : List Str} {hdctE abE : Bool} {colE : Option Bool} {ddE dNE : Option Addr} {k0E k1E k2E k3E k5E : Option Value} {newIdE : String} {cNE : Value} {esE : Array DictEntry} {epE : Nat} {slNE : Array (Option Value)}
    (a0 : PySem.W.nsIn K mainGlobals "check" = some (some (.ref f0))) (l0 : K.lookup f0 = some ⟨oc0, od0, .func (PySem.W.fnOf "check" "check" (defArgs sCheck) (defBody sCheck) (defScope sCheck) .none kV0 dc0 pm0 an0 cd0 ct0), sl0⟩) (c0 : PySem.W.codeIn K cd0 "check" = true) (k0 : PySem.W.keepIn K (.ref f0) = true)
    (a1 : PySem.W.nsIn K mainGlobals "wrong_path" = some (some (.ref f1))) (l1 : K.lookup f1 = some ⟨oc1, od1, .func (PySem.W.fnOf "wrong_path" "wrong_path" (defArgs sWrong) (defBody sWrong) (defScope sWrong) .none kV1 dc1 pm1 an1 cd1 ct1), sl1⟩) (c1 : PySem.W.codeIn K cd1 "wrong_path" = true) (k1 : PySem.W.keepIn K (.ref f1) = true)
    (a2 : PySem.W.nsIn K mainGlobals "is_atom" = some (some (.ref f2))) (l2 : K.lookup f2 = some ⟨oc2, od2, .func (PySem.W.fnOf "is_atom" "is_atom" (defArgs sIsAtom) (defBody sIsAtom) (defScope sIsAtom) .none kV2 dc2 pm2 an2 cd2 ct2), sl2⟩) (c2 : PySem.W.codeIn K cd2 "is_atom" = true) (k2 : PySem.W.keepIn K (.ref f2) = true)
    (a3 : PySem.W.nsIn K mainGlobals "is_element" = some (some (.ref f3))) (l3 : K.lookup f3 = some ⟨oc3, od3, .func (PySem.W.fnOf "is_element" "is_element" (defArgs sIsElem) (defBody sIsElem) (defScope sIsElem) .none kV3 dc3 pm3 an3 cd3 ct3), sl3⟩) (c3 : PySem.W.codeIn K cd3 "is_element" = true) (k3 : PySem.W.keepIn K (.ref f3) = true)
    (a4 : PySem.W.nsIn K mainGlobals "depth" = some (some (.ref f4))) (l4 : K.lookup f4 = some ⟨oc4, od4, .func (PySem.W.fnOf "depth" "depth" (defArgs sDepth) (defBody sDepth) (defScope sDepth) .none kV4 dc4 pm4 an4 cd4 ct4), sl4⟩) (c4 : PySem.W.codeIn K cd4 "depth" = true) (k4 : PySem.W.keepIn K (.ref f4) = true)
    (a5 : PySem.W.nsIn K mainGlobals "parts" = some (some (.ref f5))) (l5 : K.lookup f5 = some ⟨oc5, od5, .func (PySem.W.fnOf "parts" "parts" (defArgs sParts) (defBody sParts) (defScope sParts) .none kV5 dc5 pm5 an5 cd5 ct5), sl5⟩) (c5 : PySem.W.codeIn K cd5 "parts" = true) (k5 : PySem.W.keepIn K (.ref f5) = true)
    (a6 : PySem.W.nsIn K mainGlobals "copied" = some (some (.ref f6))) (l6 : K.lookup f6 = some ⟨oc6, od6, .func (PySem.W.fnOf "copied" "copied" (defArgs sCopied) (defBody sCopied) (defScope sCopied) .none kV6 dc6 pm6 an6 cd6 ct6), sl6⟩) (c6 : PySem.W.codeIn K cd6 "copied" = true) (k6 : PySem.W.keepIn K (.ref f6) = true)
    (a7 : PySem.W.nsIn K mainGlobals "check_row" = some (some (.ref f7))) (l7 : K.lookup f7 = some ⟨oc7, od7, .func (PySem.W.fnOf "check_row" "check_row" (defArgs sCheckRow) (defBody sCheckRow) (defScope sCheckRow) .none kV7 dc7 pm7 an7 cd7 ct7), sl7⟩) (c7 : PySem.W.codeIn K cd7 "check_row" = true) (k7 : PySem.W.keepIn K (.ref f7) = true)
    (a8 : PySem.W.nsIn K mainGlobals "effect" = some (some (.ref f8))) (l8 : K.lookup f8 = some ⟨oc8, od8, .func (PySem.W.fnOf "effect" "effect" (defArgs sEffect) (defBody sEffect) (defScope sEffect) .none kV8 dc8 pm8 an8 cd8 ct8), sl8⟩) (c8 : PySem.W.codeIn K cd8 "effect" = true) (k8 : PySem.W.keepIn K (.ref f8) = true)
    (a9 : PySem.W.nsIn K mainGlobals "row_effect" = some (some (.ref f9))) (l9 : K.lookup f9 = some ⟨oc9, od9, .func (PySem.W.fnOf "row_effect" "row_effect" (defArgs sRowEffect) (defBody sRowEffect) (defScope sRowEffect) .none kV9 dc9 pm9 an9 cd9 ct9), sl9⟩) (c9 : PySem.W.codeIn K cd9 "row_effect" = true) (k9 : PySem.W.keepIn K (.ref f9) = true)
    (a10 : PySem.W.nsIn K mainGlobals "patch_effect" = some (some (.ref f10))) (l10 : K.lookup f10 = some ⟨oc10, od10, .func (PySem.W.fnOf "patch_effect" "patch_effect" (defArgs sPE) (defBody sPE) (defScope sPE) .none kV10 dc10 pm10 an10 cd10 ct10), sl10⟩) (c10 : PySem.W.codeIn K cd10 "patch_effect" = true) (k10 : PySem.W.keepIn K (.ref f10) = true)
    (a11 : PySem.W.nsIn K mainGlobals "member_effect" = some (some (.ref f11))) (l11 : K.lookup f11 = some ⟨oc11, od11, .func (PySem.W.fnOf "member_effect" "member_effect" (defArgs sME) (defBody sME) (defScope sME) .none kV11 dc11 pm11 an11 cd11 ct11), sl11⟩) (c11 : PySem.W.codeIn K cd11 "member_effect" = true) (k11 : PySem.W.keepIn K (.ref f11) = true)
    (a12 : PySem.W.nsIn K mainGlobals "following" = some (some (.ref f12))) (l12 : K.lookup f12 = some ⟨oc12, od12, .func (PySem.W.fnOf "following" "following" (defArgs sFol) (defBody sFol) (defScope sFol) .none kV12 dc12 pm12 an12 cd12 ct12), sl12⟩) (c12 : PySem.W.codeIn K cd12 "following" = true) (k12 : PySem.W.keepIn K (.ref f12) = true)
    (a13 : PySem.W.nsIn K mainGlobals "merged" = some (some (.ref f13))) (l13 : K.lookup f13 = some ⟨oc13, od13, .func (PySem.W.fnOf "merged" "merged" (defArgs sMerged) (defBody sMerged) (defScope sMerged) .none kV13 dc13 pm13 an13 cd13 ct13), sl13⟩) (c13 : PySem.W.codeIn K cd13 "merged" = true) (k13 : PySem.W.keepIn K (.ref f13) = true)
    (a14 : PySem.W.nsIn K mainGlobals "built" = some (some (.ref f14))) (l14 : K.lookup f14 = some ⟨oc14, od14, .func (PySem.W.fnOf "built" "built" (defArgs sBuilt) (defBody sBuilt) (defScope sBuilt) .none kV14 dc14 pm14 an14 cd14 ct14), sl14⟩) (c14 : PySem.W.codeIn K cd14 "built" = true) (k14 : PySem.W.keepIn K (.ref f14) = true)
    (a15 : PySem.W.nsIn K mainGlobals "_law_state" = some (some (.ref f15))) (l15 : K.lookup f15 = some ⟨oc15, od15, .func (PySem.W.fnOf "_law_state" "_law_state" (defArgs sState) (defBody sState) (defScope sState) .none kV15 dc15 pm15 an15 cd15 ct15), sl15⟩) (c15 : PySem.W.codeIn K cd15 "_law_state" = true) (k15 : PySem.W.keepIn K (.ref f15) = true)
    (a16 : PySem.W.nsIn K mainGlobals "_law_digit" = some (some (.ref f16))) (l16 : K.lookup f16 = some ⟨oc16, od16, .func (PySem.W.fnOf "_law_digit" "_law_digit" (defArgs sDigit) (defBody sDigit) (defScope sDigit) .none kV16 dc16 pm16 an16 cd16 ct16), sl16⟩) (c16 : PySem.W.codeIn K cd16 "_law_digit" = true) (k16 : PySem.W.keepIn K (.ref f16) = true)
    (a17 : PySem.W.nsIn K mainGlobals "_law_nested" = some (some (.ref f17))) (l17 : K.lookup f17 = some ⟨oc17, od17, .func (PySem.W.fnOf "_law_nested" "_law_nested" (defArgs sNested) (defBody sNested) (defScope sNested) .none kV17 dc17 pm17 an17 cd17 ct17), sl17⟩) (c17 : PySem.W.codeIn K cd17 "_law_nested" = true) (k17 : PySem.W.keepIn K (.ref f17) = true)
    (a18 : PySem.W.nsIn K mainGlobals "_law_merging" = some (some (.ref f18))) (l18 : K.lookup f18 = some ⟨oc18, od18, .func (PySem.W.fnOf "_law_merging" "_law_merging" (defArgs sMerging) (defBody sMerging) (defScope sMerging) .none kV18 dc18 pm18 an18 cd18 ct18), sl18⟩) (c18 : PySem.W.codeIn K cd18 "_law_merging" = true) (k18 : PySem.W.keepIn K (.ref f18) = true)
    (a19 : PySem.W.nsIn K mainGlobals "_law_built" = some (some (.ref f19))) (l19 : K.lookup f19 = some ⟨oc19, od19, .func (PySem.W.fnOf "_law_built" "_law_built" (defArgs sLBuilt) (defBody sLBuilt) (defScope sLBuilt) .none kV19 dc19 pm19 an19 cd19 ct19), sl19⟩) (c19 : PySem.W.codeIn K cd19 "_law_built" = true) (k19 : PySem.W.keepIn K (.ref f19) = true)
    (a20 : PySem.W.nsIn K mainGlobals "law" = some (some (.ref f20))) (l20 : K.lookup f20 = some ⟨oc20, od20, .func (PySem.W.fnOf "law" "law" (defArgs sLaw) (defBody sLaw) (defScope sLaw) .none kV20 dc20 pm20 an20 cd20 ct20), sl20⟩) (c20 : PySem.W.codeIn K cd20 "law" = true) (k20 : PySem.W.keepIn K (.ref f20) = true)
    (q0 : PySem.W.nsIn K mainGlobals "MOST_DEPTH" = some (some (.int 8 tk0)))
    (q1 : PySem.W.nsIn K mainGlobals "MOST_PARTS" = some (some (.int 200 tk1)))
    (z0 : PySem.W.nsIn K mainGlobals "isinstance" = some none)
    (z1 : PySem.W.nsIn K mainGlobals "dict" = some none)
    (z2 : PySem.W.nsIn K mainGlobals "list" = some none)
    (z3 : PySem.W.nsIn K mainGlobals "int" = some none)
    (z4 : PySem.W.nsIn K mainGlobals "str" = some none)
    (z5 : PySem.W.nsIn K mainGlobals "bool" = some none)
    (z6 : PySem.W.nsIn K mainGlobals "sorted" = some none)
    (z7 : PySem.W.nsIn K mainGlobals "sum" = some none)
    (z8 : PySem.W.nsIn K mainGlobals "max" = some none)
    (z9 : PySem.W.nsIn K mainGlobals "all" = some none)
    (z10 : PySem.W.nsIn K mainGlobals "len" = some none)
    (z11 : PySem.W.nsIn K mainGlobals "range" = some none)
    (z12 : PySem.W.nsIn K mainGlobals "abs" = some none)
    (z13 : PySem.W.nsIn K mainGlobals "repr" = some none)
    (z14 : PySem.W.nsIn K mainGlobals "tuple" = some none)
    (aC : PySem.W.nsIn K mainGlobals "Effect" = some (some (.ref C)))
    (lI : K.lookup fI = some ⟨ocI, odI, .func (PySem.W.fnOf "__init__" "Effect.__init__" (defArgs sInit) (defBody sInit) (defScope sInit) .none kVI dcI pmI anI (.ref cX) ctI), slI⟩) (cI : PySem.W.codeIn K (.ref cX) "Effect.__init__" = true) (kI : PySem.W.keepIn K (.ref fI) = true)
    (lA : K.lookup fA = some ⟨ocA, odA, .func (PySem.W.fnOf "__add__" "Effect.__add__" (defArgs sAdd) (defBody sAdd) (defScope sAdd) .none kVA dcA pmA anA cdA ctA), slA⟩) (cA : PySem.W.codeIn K cdA "Effect.__add__" = true) (kA : PySem.W.keepIn K (.ref fA) = true)
    (lE : K.lookup fE = some ⟨ocE, odE, .func (PySem.W.fnOf "__eq__" "Effect.__eq__" (defArgs sEqE) (defBody sEqE) (defScope sEqE) .none kVE dcE pmE anE cdE ctE), slE⟩) (cE : PySem.W.codeIn K cdE "Effect.__eq__" = true) (kE : PySem.W.keepIn K (.ref fE) = true)
    (pgE : PySem.W.plainGet K C Str.empty = true) (hdE : PySem.W.hasDictIn K C = true) (poE : PySem.W.plainOver K C = true) (saE : PySem.W.findIn K (.ref C) "__setattr__" = some (some (.builtin "object.__setattr__")))
    (nK : PySem.W.findIn K (.ref C) "kind" = some none) (nA : PySem.W.findIn K (.ref C) "atom" = some none) (nM : PySem.W.findIn K (.ref C) "members" = some none)
    (mkE : PySem.W.makesIn K C = true) (inE : PySem.W.findIn K (.ref C) "__init__" = some (some (.ref fI))) (fnI : PySem.W.isFn K (.ref fI) = true) (kpC : PySem.W.keepIn K (.ref C) = true)
    (sf : PySem.W.selfFirst K C = true) (hfA : PySem.W.findIn K (.ref C) (PySem.dunder "add") = some (some (.ref fA))) (fnA : PySem.W.isFn K (.ref fA) = true)
    (hfE : PySem.W.findIn K (.ref C) "__eq__" = some (some (.ref fE))) (fnE : PySem.W.isFn K (.ref fE) = true)
    (icA : PySem.W.findIn K (.ref C) "__class__" = some (some (.builtin "object.__class__"))) (icN : PySem.W.specialIn K (.builtin "object.__class__") "__get__" = some (some (.builtin "getset_descriptor.__get__"))) (icT : PySem.W.takesIn K (.builtin "object.__class__") = some true) (icM : PySem.W.mroIn K C (.type "object") = some true) (icE : PySem.W.kitOne K (.ref C) (.ref C) = some true)
    (lCl : K.lookup C = some (excClassObj nmE qE C Nn bsE [.type "object"] hdctE snE subE abE colE ddE k0E k1E k2E k3E k5E newIdE)) (lNs : K.lookup Nn = some ⟨cNE, dNE, .dict esE epE, slNE⟩) (skE : (esE.toList.all fun e => isStrV e.key) = true) (nsE : nsFind esE "__eq__" = some (.ref fE)) (cfE : ocE = .type "function") (nsN : nsFind esE "__ne__" = none)
    : ∃ fd : FuncData, (∀ (s : Shared) (v : Value), BindsTo s fd ⟨[v], []⟩ [("_law_script", v)]) ∧ ∀ base : Heap, K.In base → base.Ns mainGlobals mg → LamX.TabB base mg cX Pt → FnOkG l.prog w K mg base CX0 27 fa fd ["_law_script"] (spLaw K Pt) := by
  have e := hfa.symm.trans (PySem.W.mg_of X G a20)
  cases e
  have B : Bi mg := fun x hx => by
    simp only [List.mem_cons, List.not_mem_nil, or_false] at hx
    rcases hx with rfl | rfl | rfl | rfl | rfl | rfl | rfl | rfl | rfl | rfl | rfl | rfl | rfl | rfl | rfl
    · exact PySem.W.mg_none_of X G z0
    · exact PySem.W.mg_none_of X G z1
    · exact PySem.W.mg_none_of X G z2
    · exact PySem.W.mg_none_of X G z3
    · exact PySem.W.mg_none_of X G z4
    · exact PySem.W.mg_none_of X G z5
    · exact PySem.W.mg_none_of X G z6
    · exact PySem.W.mg_none_of X G z7
    · exact PySem.W.mg_none_of X G z8
    · exact PySem.W.mg_none_of X G z9
    · exact PySem.W.mg_none_of X G z10
    · exact PySem.W.mg_none_of X G z11
    · exact PySem.W.mg_none_of X G z12
    · exact PySem.W.mg_none_of X G z13
    · exact PySem.W.mg_none_of X G z14
  have F0 := fun_mk (st := sCheck) l0 c0 k0
  have D0 : Df K mg "check" sCheck ["value"] _ _ := ⟨F0, PySem.W.mg_of X G a0, F0.binds (ps := ["value"]) fun _ _ _ _ _ _ us hl => match us, hl with | [_], _ => rfl⟩
  have F1 := fun_mk (st := sWrong) l1 c1 k1
  have D1 : Df K mg "wrong_path" sWrong ["value"] _ _ := ⟨F1, PySem.W.mg_of X G a1, F1.binds (ps := ["value"]) fun _ _ _ _ _ _ us hl => match us, hl with | [_], _ => rfl⟩
  have F2 := fun_mk (st := sIsAtom) l2 c2 k2
  have D2 : Df K mg "is_atom" sIsAtom ["value"] _ _ := ⟨F2, PySem.W.mg_of X G a2, F2.binds (ps := ["value"]) fun _ _ _ _ _ _ us hl => match us, hl with | [_], _ => rfl⟩
  have F3 := fun_mk (st := sIsElem) l3 c3 k3
  have D3 : Df K mg "is_element" sIsElem ["value"] _ _ := ⟨F3, PySem.W.mg_of X G a3, F3.binds (ps := ["value"]) fun _ _ _ _ _ _ us hl => match us, hl with | [_], _ => rfl⟩
  have F4 := fun_mk (st := sDepth) l4 c4 k4
  have D4 : Df K mg "depth" sDepth ["document"] _ _ := ⟨F4, PySem.W.mg_of X G a4, F4.binds (ps := ["document"]) fun _ _ _ _ _ _ us hl => match us, hl with | [_], _ => rfl⟩
  have F5 := fun_mk (st := sParts) l5 c5 k5
  have D5 : Df K mg "parts" sParts ["document"] _ _ := ⟨F5, PySem.W.mg_of X G a5, F5.binds (ps := ["document"]) fun _ _ _ _ _ _ us hl => match us, hl with | [_], _ => rfl⟩
  have F6 := fun_mk (st := sCopied) l6 c6 k6
  have D6 : Df K mg "copied" sCopied ["document"] _ _ := ⟨F6, PySem.W.mg_of X G a6, F6.binds (ps := ["document"]) fun _ _ _ _ _ _ us hl => match us, hl with | [_], _ => rfl⟩
  have F7 := fun_mk (st := sCheckRow) l7 c7 k7
  have D7 : Df K mg "check_row" sCheckRow ["row"] _ _ := ⟨F7, PySem.W.mg_of X G a7, F7.binds (ps := ["row"]) fun _ _ _ _ _ _ us hl => match us, hl with | [_], _ => rfl⟩
  have F8 := fun_mk (st := sEffect) l8 c8 k8
  have D8 : Df K mg "effect" sEffect ["row"] _ _ := ⟨F8, PySem.W.mg_of X G a8, F8.binds (ps := ["row"]) fun _ _ _ _ _ _ us hl => match us, hl with | [_], _ => rfl⟩
  have F9 := fun_mk (st := sRowEffect) l9 c9 k9
  have D9 : Df K mg "row_effect" sRowEffect ["row"] _ _ := ⟨F9, PySem.W.mg_of X G a9, F9.binds (ps := ["row"]) fun _ _ _ _ _ _ us hl => match us, hl with | [_], _ => rfl⟩
  have F10 := fun_mk (st := sPE) l10 c10 k10
  have D10 : Df K mg "patch_effect" sPE ["patch"] _ _ := ⟨F10, PySem.W.mg_of X G a10, F10.binds (ps := ["patch"]) fun _ _ _ _ _ _ us hl => match us, hl with | [_], _ => rfl⟩
  have F11 := fun_mk (st := sME) l11 c11 k11
  have D11 : Df K mg "member_effect" sME ["patch"] _ _ := ⟨F11, PySem.W.mg_of X G a11, F11.binds (ps := ["patch"]) fun _ _ _ _ _ _ us hl => match us, hl with | [_], _ => rfl⟩
  have F12 := fun_mk (st := sFol) l12 c12 k12
  have D12 : Df K mg "following" sFol ["one", "other"] _ _ := ⟨F12, PySem.W.mg_of X G a12, F12.binds (ps := ["one", "other"]) fun _ _ _ _ _ _ us hl => match us, hl with | [_, _], _ => rfl⟩
  have F13 := fun_mk (st := sMerged) l13 c13 k13
  have D13 : Df K mg "merged" sMerged ["one", "other"] _ _ := ⟨F13, PySem.W.mg_of X G a13, F13.binds (ps := ["one", "other"]) fun _ _ _ _ _ _ us hl => match us, hl with | [_, _], _ => rfl⟩
  have F14 := fun_mk (st := sBuilt) l14 c14 k14
  have D14 : Df K mg "built" sBuilt ["one", "other"] _ _ := ⟨F14, PySem.W.mg_of X G a14, F14.binds (ps := ["one", "other"]) fun _ _ _ _ _ _ us hl => match us, hl with | [_, _], _ => rfl⟩
  have F15 := fun_mk (st := sState) l15 c15 k15
  have D15 : Df K mg "_law_state" sState ["_law_source"] _ _ := ⟨F15, PySem.W.mg_of X G a15, F15.binds (ps := ["_law_source"]) fun _ _ _ _ _ _ us hl => match us, hl with | [_], _ => rfl⟩
  have F16 := fun_mk (st := sDigit) l16 c16 k16
  have D16 : Df K mg "_law_digit" sDigit ["_law_state_here", "_law_base"] _ _ := ⟨F16, PySem.W.mg_of X G a16, F16.binds (ps := ["_law_state_here", "_law_base"]) fun _ _ _ _ _ _ us hl => match us, hl with | [_, _], _ => rfl⟩
  have F17 := fun_mk (st := sNested) l17 c17 k17
  have D17 : Df K mg "_law_nested" sNested ["_law_path", "_law_inner"] _ _ := ⟨F17, PySem.W.mg_of X G a17, F17.binds (ps := ["_law_path", "_law_inner"]) fun _ _ _ _ _ _ us hl => match us, hl with | [_, _], _ => rfl⟩
  have F18 := fun_mk (st := sMerging) l18 c18 k18
  have D18 : Df K mg "_law_merging" sMerging ["_law_path", "_law_inner"] _ _ := ⟨F18, PySem.W.mg_of X G a18, F18.binds (ps := ["_law_path", "_law_inner"]) fun _ _ _ _ _ _ us hl => match us, hl with | [_, _], _ => rfl⟩
  have F19 := fun_mk (st := sLBuilt) l19 c19 k19
  have D19 : Df K mg "_law_built" sLBuilt ["_law_some"] _ _ := ⟨F19, PySem.W.mg_of X G a19, F19.binds (ps := ["_law_some"]) fun _ _ _ _ _ _ us hl => match us, hl with | [_], _ => rfl⟩
  have F20 := fun_mk (st := sLaw) l20 c20 k20
  have D20 : Df K mg "law" sLaw ["_law_script"] _ _ := ⟨F20, PySem.W.mg_of X G a20, F20.binds (ps := ["_law_script"]) fun _ _ _ _ _ _ us hl => match us, hl with | [_], _ => rfl⟩
  have FI := fun_mk (st := sInit) lI cI kI
  have bI := FI.binds (ps := ["self", "kind", "atom", "members"]) fun _ _ _ _ _ _ us hl => match us, hl with | [_, _, _, _], _ => rfl
  have FA := fun_mk (st := sAdd) lA cA kA
  have bA := FA.binds (ps := ["self", "other"]) fun _ _ _ _ _ _ us hl => match us, hl with | [_, _], _ => rfl
  have FE := fun_mk (st := sEqE) lE cE kE
  have bE := FE.binds (ps := ["self", "other"]) fun _ _ _ _ _ _ us hl => match us, hl with | [_, _], _ => rfl
  refine ⟨PySem.W.fnOf "law" "law" (defArgs sLaw) (defBody sLaw) (defScope sLaw) .none kV20 dc20 pm20 an20 cd20 ct20, fun s v => .of_eq rfl, fun base _ _ TB => ?_⟩
  have cl : Cls K C := ⟨pgE, hdE, poE, saE⟩
  have IC : C8.InsC K C := ⟨cl, icA, icN, icT, icM, icE⟩
  have hNe : ∀ h : Heap, K.In h → ClsNe h C fE := fun h Y => clsNe_of Y lCl lNs skE nsE lE cfE nsN
  have Z : EFacts K mg base C Pt fI _ := ⟨cl, nK, nA, nM, PySem.W.mg_of X G aC, ⟨mkE, inE, fnI, kpC⟩, bI, rfl⟩
  have gI : FnOk l.prog w K mg base CX0 2 fI _ ["self", "kind", "atom", "members"] (spInit C Pt g24) := ok_init lI cI B cl nK nA nM TB rfl
  have hN : g24.C .non = true := by decide +kernel
  have hG : g24.KS.length ≤ 5000 := by decide
  have R : Prog K mg _ _ _ _ _ _ _ _ _ _ _ _ _ _ := ⟨D0, D1, D2, D3, D4, D5, D6, ⟨_, PySem.W.mg_of X G q0⟩, ⟨_, PySem.W.mg_of X G q1⟩⟩
  have gFol := ok_fol' (P := l.prog) (w := w) hG Z gI hN B D12 D13 D14 8
  have gAdd := ok_add FA D12 gFol
  have gPE := ok_pe hG Z gI hN B D10 D11 8
  have gRE := ok_reff (n := 7) (k := 21) (by decide) Z gI hN B D9 D10 (gPE.mono (by decide)) gAdd bA sf hfA fnA
  have gRow := ok_row (P := l.prog) (w := w) (base := base) R B (G := g24) (by decide) (by decide) 8 D7
  have gE := ok_effect rfl D8 D7 (gRow.mono (by decide)) D9 gRE
  have gQ := ok_eqE (P := l.prog) (w := w) (G := g24) Z IC B FE bE hfE fnE 8
  exact ok_law B Z gI D20 D15 D16 D17 D18 D19 D8 ((ok_state D15 B).mono (by decide)) ((ok_digit D16).mono (by decide)) ((ok_nested (k := 25) D17)) ((ok_merging (k := 25) (by decide) Z gI hN D18)) ((ok_lbuilt (k := 25) (by decide) Z gI hN D19)) (gE.mono (by decide)) gQ bE hNe
end TP
open PySem PySem.W PyProof.Rows
set_option maxHeartbeats 0 in
theorem PySem.Challenge.cw_twopatches_k24_trees_of_rows_by_hand_holds : PySem.Challenge.rw_twopatches_k24_trees_of_rows_by_hand.Holds := by
  w_on; o_law; k_head; (case hw => w_witness2)
  k_fill
  refine TP.walk_GT (l := PySem.Challenge.rw_twopatches_k24_trees_of_rows_by_hand) (n := 63) (k := 27) (x := "_law_script") (sp := TP.spLaw) rfl (by decide) rfl ⟨rfl, by decide, by decide⟩ (fun w h Y => Y.1) ?F (fun K H a Pt ns hl hT hS => ⟨a, ns, rfl, hS, hl, TP.tabs0 hT, fun _ => rfl⟩)
  case F =>
    intro w mg fa h Y KX G hmg
    refine' ⟨_, _, Y.2 _ (List.mem_singleton.mpr rfl), ?hK, ?hcd, TP.all_mk KX G hmg ?a0 ?l0 ?c0 ?k0 ?a1 ?l1 ?c1 ?k1 ?a2 ?l2 ?c2 ?k2 ?a3 ?l3 ?c3 ?k3 ?a4 ?l4 ?c4 ?k4 ?a5 ?l5 ?c5 ?k5 ?a6 ?l6 ?c6 ?k6 ?a7 ?l7 ?c7 ?k7 ?a8 ?l8 ?c8 ?k8 ?a9 ?l9 ?c9 ?k9 ?a10 ?l10 ?c10 ?k10 ?a11 ?l11 ?c11 ?k11 ?a12 ?l12 ?c12 ?k12 ?a13 ?l13 ?c13 ?k13 ?a14 ?l14 ?c14 ?k14 ?a15 ?l15 ?c15 ?k15 ?a16 ?l16 ?c16 ?k16 ?a17 ?l17 ?c17 ?k17 ?a18 ?l18 ?c18 ?k18 ?a19 ?l19 ?c19 ?k19 ?a20 ?l20 ?c20 ?k20 ?q0 ?q1 ?z0 ?z1 ?z2 ?z3 ?z4 ?z5 ?z6 ?z7 ?z8 ?z9 ?z10 ?z11 ?z12 ?z13 ?z14 ?aC ?lI ?cI ?kI ?lA ?cA ?kA ?lE ?cE ?kE ?pgE ?hdE ?poE ?saE ?nK ?nA ?nM ?mkE ?inE ?fnI ?kpC ?sf ?hfA ?fnA ?hfE ?fnE ?icA ?icN ?icT ?icM ?icE ?lCl ?lNs ?skE ?nsE ?cfE ?nsN⟩
    (case hK => rfl)
    (case a0 => k_is)
    (case l0 => k_is)
    (case c0 => k_is)
    (case k0 => k_is)
    (case a1 => k_is)
    (case l1 => k_is)
    (case c1 => k_is)
    (case k1 => k_is)
    (case a2 => k_is)
    (case l2 => k_is)
    (case c2 => k_is)
    (case k2 => k_is)
    (case a3 => k_is)
    (case l3 => k_is)
    (case c3 => k_is)
    (case k3 => k_is)
    (case a4 => k_is)
    (case l4 => k_is)
    (case c4 => k_is)
    (case k4 => k_is)
    (case a5 => k_is)
    (case l5 => k_is)
    (case c5 => k_is)
    (case k5 => k_is)
    (case a6 => k_is)
    (case l6 => k_is)
    (case c6 => k_is)
    (case k6 => k_is)
    (case a7 => k_is)
    (case l7 => k_is)
    (case c7 => k_is)
    (case k7 => k_is)
    (case a8 => k_is)
    (case l8 => k_is)
    (case c8 => k_is)
    (case k8 => k_is)
    (case a9 => k_is)
    (case l9 => k_is)
    (case c9 => k_is)
    (case k9 => k_is)
    (case a10 => k_is)
    (case l10 => k_is)
    (case c10 => k_is)
    (case k10 => k_is)
    (case a11 => k_is)
    (case l11 => k_is)
    (case c11 => k_is)
    (case k11 => k_is)
    (case a12 => k_is)
    (case l12 => k_is)
    (case c12 => k_is)
    (case k12 => k_is)
    (case a13 => k_is)
    (case l13 => k_is)
    (case c13 => k_is)
    (case k13 => k_is)
    (case a14 => k_is)
    (case l14 => k_is)
    (case c14 => k_is)
    (case k14 => k_is)
    (case a15 => k_is)
    (case l15 => k_is)
    (case c15 => k_is)
    (case k15 => k_is)
    (case a16 => k_is)
    (case l16 => k_is)
    (case c16 => k_is)
    (case k16 => k_is)
    (case a17 => k_is)
    (case l17 => k_is)
    (case c17 => k_is)
    (case k17 => k_is)
    (case a18 => k_is)
    (case l18 => k_is)
    (case c18 => k_is)
    (case k18 => k_is)
    (case a19 => k_is)
    (case l19 => k_is)
    (case c19 => k_is)
    (case k19 => k_is)
    (case a20 => k_is)
    (case l20 => k_is)
    (case c20 => k_is)
    (case k20 => k_is)
    (case q0 => k_is)
    (case q1 => k_is)
    (case z0 => k_is)
    (case z1 => k_is)
    (case z2 => k_is)
    (case z3 => k_is)
    (case z4 => k_is)
    (case z5 => k_is)
    (case z6 => k_is)
    (case z7 => k_is)
    (case z8 => k_is)
    (case z9 => k_is)
    (case z10 => k_is)
    (case z11 => k_is)
    (case z12 => k_is)
    (case z13 => k_is)
    (case z14 => k_is)
    (case aC => k_is)
    (case pgE => k_is)
    (case hdE => k_is)
    (case poE => k_is)
    (case saE => k_is)
    (case nK => k_is)
    (case nA => k_is)
    (case nM => k_is)
    (case mkE => k_is)
    (case inE => k_is)
    (case fnI => k_is)
    (case kpC => k_is)
    (case sf => k_is)
    (case hfA => k_is)
    (case fnA => k_is)
    (case hfE => k_is)
    (case fnE => k_is)
    (case icA => k_is)
    (case icN => k_is)
    (case icT => k_is)
    (case icM => k_is)
    (case icE => first | rfl | decide)
    (case lI => k_is)
    (case cI => k_is)
    (case kI => k_is)
    (case lA => k_is)
    (case cA => k_is)
    (case kA => k_is)
    (case lE => k_is)
    (case cE => k_is)
    (case kE => k_is)
    (case lCl => k_is)
    (case lNs => k_is)
    (case skE => rfl)
    (case nsE => rfl)
    (case cfE => rfl)
    (case nsN => rfl)
    (case hcd => exact TP.code_hd KX (by k_is) rfl rfl rfl rfl rfl rfl (by decide))
    all_goals exact PySem.Value.none
