import PyProof.Rows.All
import Wide.All
import OpenK.AllK
import Wide.FinOn
import HandS.ForMost
import HandS.Lambda
import HandS.EndTab
import HandS.IsInst
import HandS.DictComp
import HandS.DeepEq
import HandS.More
import HandS.Wide
import HandS.RaiseMore
import KE.DatumOrd
import HandS.SortKw
import PyProof.ReprRoads
import HandS.OwnEq
import OpenK.KMeth
import KE.KCallOwn
import KE.SortKeyHeap
import HandS.Style
import HandS.ListItems
import HandS.Codes
import PyProof.InstNe
import HandS.ListEq
import HandS.TupAny
import PySem.Challenge.RW_twopatches_k30_rows_that_do_the_same
set_option Elab.async false
set_option linter.all false
set_option maxRecDepth 100000
set_option maxHeartbeats 4000000
namespace TP
open PySem L2
/-! ### what stays -/
def isTbl : HO → Bool
  | .tbl _ => true
  | _ => false
/-- neither a table nor told by a property -/
def isPl : HO → Bool
  | .tbl _ => false
  | .ext _ => false
  | _ => true
/-- which lambdas a code table may hold -/
class TabL where
  R : Addr → Str → Prop
  one : ∀ P q q', R P q → R P q' → q = q'
/-- all that H knows stays; the tables may grow -/
structure Ex [TabL] (H H' : Hp) : Prop where
  go : ∀ a o, H a = some o → isTbl o = false → H' a = some o
  ne : ∀ a, H a ≠ none → H' a ≠ none
  tab : ∀ a q, TabL.R a q → LamX.TabS H a q → LamX.TabS H' a q
/-- no table -/
class NT (o : HO) : Prop where
  h : isTbl o = false
instance {xs} : NT (.lst xs) := ⟨rfl⟩
instance {xs} : NT (.tup xs) := ⟨rfl⟩
instance {kvs} : NT (.dK kvs) := ⟨rfl⟩
instance {C dx fs} : NT (.ins C dx fs) := ⟨rfl⟩
instance {a} : NT (.own a) := ⟨rfl⟩
instance {o u} : NT (.frz o u) := ⟨rfl⟩
instance {φ} : NT (.ext φ) := ⟨rfl⟩
instance {fs} : NT (.xd fs) := ⟨rfl⟩
theorem Ex.at' [TabL] {H H' : Hp} (e : Ex H H') (a : Addr) (o : HO) [z : NT o] (h : H a = some o) : H' a = some o := e.go a o h z.h
instance [TabL] {H H' : Hp} : CoeFun (Ex H H') fun _ => ∀ (a : Addr) (o : HO) [NT o], H a = some o → H' a = some o := ⟨Ex.at'⟩
theorem Ex.refl [TabL] (H : Hp) : Ex H H := ⟨fun _ _ h _ => h, fun _ h => h, fun _ _ _ h => h⟩
theorem Ex.trans [TabL] {H H1 H2 : Hp} (x : Ex H H1) (y : Ex H1 H2) : Ex H H2 := ⟨fun a o h z => y.go a o (x.go a o h z) z, fun a h => y.ne a (x.ne a h), fun a q r h => y.tab a q r (x.tab a q r h)⟩
/-- what is written is no part of a table -/
theorem tab_upd {H : Hp} {P : Addr} {q : Str} {p : Addr} {o : HO} (h : LamX.TabS H P q) (hp : ∀ u, H p = some u → isPl u = true) : LamX.TabS (upd H p o) P q := by
  obtain ⟨ps, h1, h2, h3⟩ := h
  refine ⟨ps, by rw [upd_ne (fun z => by rw [z] at h1; exact nomatch hp _ h1)]; exact h1, h2, fun pos cv hc => ?_⟩
  obtain ⟨c, e1, e2⟩ := h3 pos cv hc
  exact ⟨c, e1, by rw [upd_ne (fun z => by rw [z] at e2; exact nomatch hp _ e2)]; exact e2⟩
theorem Ex.new [TabL] {H : Hp} {p : Addr} {o : HO} (h : H p = none) : Ex H (upd H p o) :=
  ⟨fun a u e _ => by rw [upd_ne (ne_of_none e h)]; exact e, fun a e => by rw [upd_ne (fun z => e (by rw [z]; exact h))]; exact e, fun a q _ t => tab_upd t fun u e => by rw [h] at e; cases e⟩
theorem fresh_back [TabL] {H H' : Hp} {p : Addr} (e : Ex H H') (h : H' p = none) : H p = none := by
  cases z : H p with
  | none => rfl
  | some o => exact absurd h (e.ne p (by rw [z]; exact fun y => nomatch y))
/-- what H does not know may change -/
theorem Ex.mut [TabL] {H H' : Hp} {p : Addr} {o u : HO} (e : Ex H H') (h : H p = none) (hu : H' p = some u) (pl : isPl u = true := by rfl) : Ex H (upd H' p o) :=
  ⟨fun a w ha z => by rw [upd_ne (ne_of_none ha h)]; exact e.go a w ha z, fun a ha => by rw [upd_ne (fun z => ha (by rw [z]; exact h))]; exact e.ne a ha, fun a q r t => tab_upd (e.tab a q r t) fun w hw => by rw [hu] at hw; cases hw; exact pl⟩
theorem ex_rd [TabL] {H H' : Hp} {a : Addr} {u : HO} (e : Ex H H') (h : Rd H a u) (z : isTbl u = false := by rfl) : Rd H' a u := h.imp (fun h => e.go a _ h z) fun ⟨o, h⟩ => ⟨o, e.go a _ h rfl⟩
/-! ### documents, as mathematics -/
inductive D where
  | nil
  | sc (v : V)
  | ls (xs : List V)
  | ob (f : Str → D)
def D.tgt : D → Str → D
  | .ob f => f
  | _ => fun _ => .nil
def D.isNil : D → Bool
  | .nil => true
  | _ => false
def D.isNon : D → Bool
  | .sc .non => true
  | _ => false
/-- the document after a patch -/
def D.app (d : D) : D → D
  | .ob g => .ob fun k => if (g k).isNil then d.tgt k else if (g k).isNon then .nil else D.app (d.tgt k) (g k)
  | p => p
theorem app_ob (d : D) (g : Str → D) : D.app d (.ob g) = .ob fun k => if (g k).isNil then d.tgt k else if (g k).isNon then .nil else D.app (d.tgt k) (g k) := rfl
def D.fup (f : Str → D) (k : Str) (e : D) : Str → D := fun j => if j = k then e else f j

/-- None, an int, a text -/
def isSc : V → Bool
  | .non => true
  | .int _ => true
  | .str _ => true
  | _ => false
abbrev inK (p : Str × V) : Key × V := (Sum.inr p.1, p.2)
abbrev kvsOf (ms : List (Str × V)) : List (Key × V) := ms.map inK

theorem valV_inK (ms : List (Str × V)) (k : Str) : valV (kvsOf ms) (Sum.inr k) = valV ms k := by
  induction ms with
  | nil => rfl
  | cons p r ih =>
    show valV (inK p :: kvsOf r) _ = _
    by_cases e : p.1 = k
    · rw [valV_pos (p := inK p) (show Sum.inr p.1 = Sum.inr k by rw [e]), valV_pos e]
    · rw [valV_neg (p := inK p) (fun z => e (Sum.inr.inj z)), valV_neg e, ih]
theorem putK_inK (ms : List (Str × V)) (k : Str) (v : V) : putK (kvsOf ms) (Sum.inr k) v = kvsOf (putK ms k v) := by
  unfold putK
  have e : ((kvsOf ms).any fun kv => decide (kv.1 = (Sum.inr k : Key))) = (ms.any fun kv => decide (kv.1 = k)) := by
    rw [List.any_map]
    congr 1
    funext p
    by_cases h : p.1 = k
    · simp [h]
    · have h2 : ¬ (Sum.inr p.1 : Key) = Sum.inr k := fun z => h (Sum.inr.inj z)
      simp [h]
  rw [e]
  split
  · show _ = List.map inK (List.map _ ms)
    rw [List.map_map, List.map_map]
    congr 1
    funext p
    by_cases h : p.1 = k
    · simp [h]
    · simp [h]
  · show _ = List.map inK (ms ++ [(k, v)])
    rw [List.map_append]
    rfl
theorem keys_inK (ms : List (Str × V)) : (kvsOf ms).map (fun kv => kV kv.1) = ms.map fun p => V.str p.1 := by
  rw [List.map_map]
  rfl
theorem keys_put (ms : List (Str × V)) (k : Str) (v : V) : ∀ j, j ∈ (putK ms k v).map (·.1) ↔ j = k ∨ j ∈ ms.map (·.1) := by
  intro j
  unfold putK
  split
  · rename_i h
    have e : (ms.map fun kv => if kv.1 = k then (kv.1, v) else kv).map (·.1) = ms.map (·.1) := by
      rw [List.map_map]
      congr 1
      funext p
      by_cases h : p.1 = k <;> simp [h]
    rw [e]
    constructor
    · exact Or.inr
    · rintro (h1 | h1)
      · subst h1
        rw [List.any_eq_true] at h
        obtain ⟨p, hp, hd⟩ := h
        exact List.mem_map.mpr ⟨p, hp, of_decide_eq_true hd⟩
      · exact h1
  · rw [List.map_append]
    simp [or_comm]
theorem nodup_put {ms : List (Str × V)} (k : Str) (v : V) (h : (ms.map (·.1)).Nodup) : ((putK ms k v).map (·.1)).Nodup := by
  unfold putK
  split
  · have e : (ms.map fun kv => if kv.1 = k then (kv.1, v) else kv).map (·.1) = ms.map (·.1) := by
      rw [List.map_map]
      congr 1
      funext p
      by_cases h : p.1 = k <;> simp [h]
    rw [e]
    exact h
  · rename_i hn
    rw [List.map_append, List.nodup_append]
    refine ⟨h, by simp, ?_⟩
    intro a ha b hb e
    simp at hb
    subst hb
    subst e
    apply hn
    obtain ⟨p, hp, hd⟩ := List.mem_map.mp ha
    exact List.any_eq_true.mpr ⟨p, hp, by simp [hd]⟩
theorem valV_mem {ms : List (Str × V)} {k : Str} {u : V} (h : valV ms k = some u) : (k, u) ∈ ms := by
  unfold valV at h
  obtain ⟨p, hp, e⟩ := Option.map_eq_some_iff.mp h
  have h1 := List.mem_of_find?_eq_some hp
  have h2 := List.find?_some hp
  have h3 : p.1 = k := of_decide_eq_true h2
  obtain ⟨a, b⟩ := p
  simp at e h3
  subst e
  subst h3
  exact h1
theorem valV_of_mem {ms : List (Str × V)} {k : Str} {u : V} (nd : (ms.map (·.1)).Nodup) (h : (k, u) ∈ ms) : valV ms k = some u := by
  induction ms with
  | nil => cases h
  | cons p r ih =>
    rw [List.map_cons, List.nodup_cons] at nd
    by_cases e : p.1 = k
    · rw [valV_pos e]
      rcases List.mem_cons.mp h with h | h
      · rw [← h]
      · exact absurd (List.mem_map.mpr ⟨(k, u), h, e.symm⟩) nd.1
    · rw [valV_neg e]
      rcases List.mem_cons.mp h with h | h
      · exact absurd (by rw [← h]) e
      · exact ih nd.2 h
theorem valV_none_of {ms : List (Str × V)} {k : Str} (h : k ∉ ms.map (·.1)) : valV ms k = none := by
  cases e : valV ms k with
  | none => rfl
  | some u => exact absurd (List.mem_map.mpr ⟨(k, u), valV_mem e, rfl⟩) h
theorem valV_some_of {ms : List (Str × V)} {k : Str} (h : k ∈ ms.map (·.1)) : ∃ u, valV ms k = some u := by
  cases e : valV ms k with
  | some u => exact ⟨u, rfl⟩
  | none =>
    obtain ⟨p, hp, e2⟩ := List.mem_map.mp h
    have := valV_any k ms
    rw [e] at this
    simp at this
    exact absurd e2 (this _ _ hp)
theorem sub_len : ∀ {xs ys : List Str}, xs.Nodup → (∀ x ∈ xs, x ∈ ys) → xs.length ≤ ys.length
  | [], _, _, _ => Nat.zero_le _
  | x :: xs, ys, nd, h => by
    rw [List.nodup_cons] at nd
    have hx := h x List.mem_cons_self
    have h2 : ∀ z ∈ xs, z ∈ ys.erase x := fun z hz => (List.mem_erase_of_ne (fun e => nd.1 (by rw [← e]; exact hz))).mpr (h z (List.mem_cons_of_mem _ hz))
    have h3 := sub_len nd.2 h2
    have h4 := List.length_erase_of_mem hx
    have h5 : 0 < ys.length := List.length_pos_of_mem hx
    rw [List.length_cons]
    omega

/-! ### documents in the heap -/
/-- what may stand in a document: its keys, its scalars, how long its lists are -/
structure Gen where
  KS : List Str
  C : V → Bool
  L : Nat
  sc : ∀ v, C v = true → isSc v = true
/-- S: where its objects lie; G: the keys that may stand in it; n: levels -/
def Dc (S : Addr → Prop) (G : Gen) (H : Hp) : Nat → V → D → Prop
  | 0, _, _ => False
  | n + 1, v, d => (G.C v = true ∧ d = .sc v) ∨ (∃ a xs, v = .ref a ∧ S a ∧ H a = some (.lst xs) ∧ (xs.length ≤ G.L ∧ ∀ x ∈ xs, G.C x = true) ∧ d = .ls xs) ∨
    ∃ a ms f, v = .ref a ∧ S a ∧ H a = some (.dK (kvsOf ms)) ∧ (ms.map (·.1)).Nodup ∧ (∀ k ∈ ms.map (·.1), k ∈ G.KS) ∧ d = .ob f ∧ (∀ k, valV ms k = none → f k = .nil) ∧ ∀ k u, valV ms k = some u → Dc S G H n u (f k)
/-- the members ms stand for f -/
structure Mem (S : Addr → Prop) (G : Gen) (H : Hp) (n : Nat) (ms : List (Str × V)) (f : Str → D) : Prop where
  nd : (ms.map (·.1)).Nodup
  ks : ∀ k ∈ ms.map (·.1), k ∈ G.KS
  no : ∀ k, valV ms k = none → f k = .nil
  at' : ∀ k u, valV ms k = some u → Dc S G H n u (f k)
theorem Dc.sc {S G H n v} (h : G.C v = true) : Dc S G H (n + 1) v (.sc v) := .inl ⟨h, rfl⟩
theorem Dc.ls {S : Addr → Prop} {G H n a xs} (hS : S a) (h : H a = some (.lst xs)) (hx : xs.length ≤ G.L ∧ ∀ x ∈ xs, G.C x = true) : Dc S G H (n + 1) (.ref a) (.ls xs) := .inr (.inl ⟨a, xs, rfl, hS, h, hx, rfl⟩)
theorem Dc.ob {S : Addr → Prop} {G H n a ms f} (hS : S a) (h : H a = some (.dK (kvsOf ms))) (m : Mem S G H n ms f) : Dc S G H (n + 1) (.ref a) (.ob f) :=
  .inr (.inr ⟨a, ms, f, rfl, hS, h, m.nd, m.ks, rfl, m.no, m.at'⟩)
/-- the three ways -/
theorem Dc.cases {S G H n v d} {P : Prop} (h : Dc S G H n v d) (h1 : ∀ m, n = m + 1 → G.C v = true → d = .sc v → P)
    (h2 : ∀ m a xs, n = m + 1 → v = .ref a → S a → H a = some (.lst xs) → (xs.length ≤ G.L ∧ ∀ x ∈ xs, G.C x = true) → d = .ls xs → P)
    (h3 : ∀ m a ms f, n = m + 1 → v = .ref a → S a → H a = some (.dK (kvsOf ms)) → Mem S G H m ms f → d = .ob f → P) : P := by
  cases n with
  | zero => exact (show False from h).elim
  | succ m =>
    rcases h with ⟨a, b⟩ | ⟨a, xs, e, s, r, x, d⟩ | ⟨a, ms, f, e, s, r, nd, ks, d, no, at'⟩
    · exact h1 m rfl a b
    · exact h2 m a xs rfl e s r x d
    · exact h3 m a ms f rfl e s r ⟨nd, ks, no, at'⟩ d
theorem Dc.mono {S S' : Addr → Prop} {G : Gen} {H H' : Hp} (hS : ∀ a, S a → S' a) (hH : ∀ a u, S a → isTbl u = false → H a = some u → H' a = some u) : ∀ {n m v d}, n ≤ m → Dc S G H n v d → Dc S' G H' m v d
  | 0, _, _, _, _, h => (show False from h).elim
  | n + 1, 0, _, _, hl, _ => absurd hl (by omega)
  | n + 1, m + 1, v, d, hl, h => by
    rcases h with ⟨a, b⟩ | ⟨a, xs, e, s, r, x, d⟩ | ⟨a, ms, f, e, s, r, nd, ks, d, no, at'⟩
    · exact .inl ⟨a, b⟩
    · exact .inr (.inl ⟨a, xs, e, hS a s, hH a _ s rfl r, x, d⟩)
    · exact .inr (.inr ⟨a, ms, f, e, hS a s, hH a _ s rfl r, nd, ks, d, no, fun k u hu => Dc.mono hS hH (by omega) (at' k u hu)⟩)
theorem Dc.ex [TabL] {S G H H' n v d} (e : Ex H H') (h : Dc S G H n v d) : Dc S G H' n v d := Dc.mono (fun _ s => s) (fun a u _ z r => e.go a u r z) (Nat.le_refl _) h
theorem Dc.lift {S G H n m v d} (hl : n ≤ m) (h : Dc S G H n v d) : Dc S G H m v d := Dc.mono (fun _ s => s) (fun _ _ _ _ r => r) hl h
theorem Dc.imp {S S' : Addr → Prop} {G H n v d} (hS : ∀ a, S a → S' a) (h : Dc S G H n v d) : Dc S' G H n v d := Dc.mono hS (fun _ _ _ _ r => r) (Nat.le_refl _) h
theorem Mem.mono {S S' : Addr → Prop} {G : Gen} {H H' : Hp} {n m ms f} (hS : ∀ a, S a → S' a) (hH : ∀ a u, S a → isTbl u = false → H a = some u → H' a = some u) (hl : n ≤ m) (h : Mem S G H n ms f) : Mem S' G H' m ms f :=
  ⟨h.nd, h.ks, h.no, fun k u z => Dc.mono hS hH hl (h.at' k u z)⟩
theorem Mem.ex [TabL] {S G H H' n ms f} (e : Ex H H') (h : Mem S G H n ms f) : Mem S G H' n ms f := ⟨h.nd, h.ks, h.no, fun k u z => (h.at' k u z).ex e⟩
theorem Mem.imp {S S' : Addr → Prop} {G H n ms f} (hS : ∀ a, S a → S' a) (h : Mem S G H n ms f) : Mem S' G H n ms f := ⟨h.nd, h.ks, h.no, fun k u z => (h.at' k u z).imp hS⟩
theorem Mem.lift {S G H n m ms f} (hl : n ≤ m) (h : Mem S G H n ms f) : Mem S G H m ms f := ⟨h.nd, h.ks, h.no, fun k u z => (h.at' k u z).lift hl⟩
theorem Mem.nil {S G H n} : Mem S G H n [] (fun _ => .nil) := ⟨by simp, fun k z => (nomatch z), fun _ _ => rfl, fun k u z => nomatch z⟩
theorem Mem.len {S G H n ms f} (h : Mem S G H n ms f) : ms.length ≤ G.KS.length := by
  have := sub_len h.nd h.ks
  rwa [List.length_map] at this
theorem Mem.put {S G H n ms f k v e} (h : Mem S G H n ms f) (hk : k ∈ G.KS) (hv : Dc S G H n v e) : Mem S G H n (putK ms k v) (D.fup f k e) := by
  refine ⟨nodup_put k v h.nd, fun j hj => ?_, fun j hj => ?_, fun j u hu => ?_⟩
  · rcases (keys_put ms k v j).mp hj with z | z
    · rw [z]; exact hk
    · exact h.ks j z
  · rw [valV_put] at hj
    unfold D.fup
    by_cases z : j = k
    · rw [if_pos z] at hj; cases hj
    · rw [if_neg z] at hj ⊢
      exact h.no j hj
  · rw [valV_put] at hu
    unfold D.fup
    by_cases z : j = k
    · rw [if_pos z] at hu ⊢
      cases hu
      exact hv
    · rw [if_neg z] at hu ⊢
      exact h.at' j u hu
theorem Dc.ne_nil {S G H n v d} (h : Dc S G H n v d) : d.isNil = false := by
  refine h.cases (fun m _ _ e => ?_) (fun m a xs _ _ _ _ _ e => ?_) (fun m a ms f _ _ _ _ _ e => ?_) <;> subst e <;> rfl
theorem Dc.non {S G H n v d} (h : Dc S G H n v d) : d.isNon = decide (v = .non) := by
  refine h.cases (fun m _ hs e => ?_) (fun m a xs _ ev _ _ _ e => ?_) (fun m a ms f _ ev _ _ _ e => ?_)
  · subst e
    cases v <;> first | rfl | simp [D.isNon]
  · subst e; subst ev
    simp [D.isNon]
  · subst e; subst ev
    simp [D.isNon]
/-- an object of another depth than a's is not in the way of what is read: a may be changed -/
theorem Dc.away {S G H a o} : ∀ {n v d}, Dc S G H n v d → (∀ m e, m ≤ n → ¬ Dc S G H m (.ref a) e) → Dc S G (upd H a o) n v d
  | 0, _, _, h, _ => (show False from h).elim
  | n + 1, v, d, h, hn => by
    have ne : ∀ b, v = .ref b → b ≠ a := fun b e z => hn (n + 1) d (Nat.le_refl _) (by rw [← z, ← e]; exact h)
    have rd : ∀ b u, b ≠ a → H b = some u → (upd H a o) b = some u := fun b u z r => by
      rw [upd_ne z]
      exact r
    rcases h with ⟨x, y⟩ | ⟨b, xs, e, s, r, x, d⟩ | ⟨b, ms, f, e, s, r, nd, ks, d, no, at'⟩
    · exact .inl ⟨x, y⟩
    · exact .inr (.inl ⟨b, xs, e, s, rd b _ (ne b e) r, x, d⟩)
    · exact .inr (.inr ⟨b, ms, f, e, s, rd b _ (ne b e) r, nd, ks, d, no, fun k u hu => Dc.away (at' k u hu) fun m e' hm => hn m e' (by omega)⟩)
/-- the same values stand for the same document -/
theorem Dc.det {S S' G G' H} : ∀ {n m v d e}, Dc S G H n v d → Dc S' G' H m v e → d = e
  | 0, _, _, _, _, h, _ => (show False from h).elim
  | _ + 1, 0, _, _, _, _, h => (show False from h).elim
  | n + 1, m + 1, v, d, e, h, h' => by
    have same : ∀ {a : Addr} {u w : HO}, H a = some u → H a = some w → u = w := fun {a u w} r r' => Option.some.inj (r.symm.trans r')
    rcases h with ⟨x, y⟩ | ⟨b, xs, eb, s, r, x, dd⟩ | ⟨b, ms, f, eb, s, r, nd, ks, dd, no, at'⟩
    · rcases h' with ⟨x', y'⟩ | ⟨b', xs', e', s', r', x', d'⟩ | ⟨b', ms', f', e', s', r', nd', ks', d', no', at''⟩
      · rw [y, y']
      · subst e'; exact nomatch G.sc _ x
      · subst e'; exact nomatch G.sc _ x
    · subst eb
      rcases h' with ⟨x', y'⟩ | ⟨b', xs', e', s', r', x', d'⟩ | ⟨b', ms', f', e', s', r', nd', ks', d', no', at''⟩
      · exact nomatch G'.sc _ x'
      · cases e'
        have z := same r r'
        injection z with z
        rw [dd, d', z]
      · cases e'
        have z := same r r'
        cases z
    · subst eb
      rcases h' with ⟨x', y'⟩ | ⟨b', xs', e', s', r', x', d'⟩ | ⟨b', ms', f', e', s', r', nd', ks', d', no', at''⟩
      · exact nomatch G'.sc _ x'
      · cases e'
        have z := same r r'
        cases z
      · cases e'
        have z := same r r'
        injection z with z
        rw [dd, d']
        congr 1
        funext k
        have ez : valV ms k = valV ms' k := by rw [← valV_inK ms, ← valV_inK ms', z]
        cases hv : valV ms k with
        | none => rw [no k hv, no' k (by rw [← ez]; exact hv)]
        | some u => exact Dc.det (at' k u hv) (at'' k u (by rw [← ez]; exact hv))
/-- the least level at which a value stands for a document -/
theorem Dc.low {S G H v} : ∀ {n d}, Dc S G H n v d → ∃ m, m ≤ n ∧ Dc S G H m v d ∧ ∀ k e, k < m → ¬ Dc S G H k v e
  | 0, _, h => (show False from h).elim
  | n + 1, d, h => by
    by_cases c : ∃ k e, k < n + 1 ∧ Dc S G H k v e
    · obtain ⟨k, e, hk, he⟩ := c
      have := Dc.det h he
      subst this
      obtain ⟨m, h1, h2, h3⟩ := Dc.low (he.lift (by omega : k ≤ n))
      exact ⟨m, by omega, h2, h3⟩
    · exact ⟨n + 1, Nat.le_refl _, h, fun k e hk he => c ⟨k, e, hk, he⟩⟩
/-- the dict at a locked: its members as they stood -/
theorem Mem.lock {S G H n a ms f o} (ha : H a = some (.dK (kvsOf ms))) (hS : S a) (h : Mem S G H n ms f) : Mem S G (upd H a o) n ms f := by
  obtain ⟨m, hm, h2, h3⟩ := (Dc.ob (n := n) hS ha h).low
  refine h2.cases (fun k _ _ e => by cases e) (fun k b xs _ eb _ _ _ e => by cases e) (fun k b ms' f' ek eb _ r' M e => ?_)
  cases eb
  rw [ha] at r'
  have z : kvsOf ms' = kvsOf ms := by injection r' with r'; injection r' with r'; exact r'.symm
  have zz : ∀ j, valV ms' j = valV ms j := fun j => by rw [← valV_inK, ← valV_inK, z]
  injection e with e
  subst e
  exact ⟨h.nd, h.ks, h.no, fun j u hu => ((M.at' j u (by rw [zz]; exact hu)).away fun i e hi he => h3 i e (by omega) he).lift (by omega)⟩
/-- changes elsewhere -/
theorem Dc.off {S G H n v d a o} (h : Dc S G H n v d) (hS : ¬ S a) : Dc S G (upd H a o) n v d := Dc.mono (fun _ z => z) (fun b u s _ r => by rw [upd_ne (fun z => hS (by rw [← z]; exact s))]; exact r) (Nat.le_refl _) h
theorem Mem.off {S G H n ms f a o} (h : Mem S G H n ms f) (hS : ¬ S a) : Mem S G (upd H a o) n ms f := ⟨h.nd, h.ks, h.no, fun k u z => (h.at' k u z).off hS⟩
theorem ex_unlock [TabL] {H H2 : Hp} {a : Addr} {f u : HO} (hu : H a = some u) (e : Ex (upd H a f) H2) (p1 : isPl u = true := by rfl) (p2 : isPl f = true := by rfl) : Ex H (upd H2 a u) := by
  have nt : ∀ {w : HO}, isPl w = true → isTbl w = false := fun {w} h => by cases w <;> first | rfl | exact h | exact nomatch h
  have h2 : H2 a = some f := e.go a f upd_same (nt p2)
  refine ⟨fun b o hb z => ?_, fun b hb => ?_, fun b q r t => ?_⟩
  · by_cases y : b = a
    · subst y
      rw [hu] at hb
      rw [upd_same]
      exact hb
    · rw [upd_ne y]
      exact e.go b o (by rw [upd_ne y]; exact hb) z
  · by_cases y : b = a
    · subst y
      rw [upd_same]
      exact fun z => nomatch z
    · rw [upd_ne y]
      exact e.ne b (by rw [upd_ne y]; exact hb)
  · exact tab_upd (e.tab b q r (tab_upd t fun w hw => by rw [hu] at hw; cases hw; exact p1)) fun w hw => by rw [h2] at hw; cases hw; exact p2
theorem take_keys {ms : List (Str × V)} {i : Nat} {k : Str} {u : V} (h : ms[i]? = some (k, u)) (j : Str) : (j ∈ (ms.take (i + 1)).map (·.1)) ↔ (j ∈ (ms.take i).map (·.1) ∨ j = k) := by
  rw [List.take_add_one, h]
  simp
/-- f at the first i keys, g at the others -/
def mix (ms : List (Str × V)) (i : Nat) (f g : Str → D) : Str → D := fun k => if k ∈ (ms.take i).map (·.1) then f k else g k
theorem mix_zero {ms : List (Str × V)} {f g : Str → D} : mix ms 0 f g = g := by
  funext k
  simp [mix]
theorem mix_succ {ms : List (Str × V)} {i : Nat} {k : Str} {u : V} {f g : Str → D} (h : ms[i]? = some (k, u)) : D.fup (mix ms i f g) k (f k) = mix ms (i + 1) f g := by
  funext j
  unfold D.fup mix
  simp only [take_keys h]
  by_cases z : j = k
  · simp [z]
  · simp [z]
theorem mix_all {ms : List (Str × V)} {f g : Str → D} (h : ∀ k, k ∉ ms.map (·.1) → f k = g k) : mix ms ms.length f g = f := by
  funext j
  unfold mix
  rw [List.take_length]
  by_cases c : j ∈ ms.map (·.1)
  · rw [if_pos c]
  · rw [if_neg c, h j c]
theorem mix_new {ms : List (Str × V)} {i : Nat} {k : Str} {u : V} {f g : Str → D} (nd : (ms.map (·.1)).Nodup) (h : ms[i]? = some (k, u)) : mix ms i f g k = g k := by
  unfold mix
  rw [if_neg]
  intro hk
  have hi : i < ms.length := (List.getElem?_eq_some_iff.mp h).1
  obtain ⟨p, hp, e⟩ := List.mem_map.mp hk
  obtain ⟨j, hj, ej⟩ := List.getElem_of_mem hp
  rw [List.length_take] at hj
  have e2 : (ms.map (·.1))[j]? = some k := by
    rw [List.getElem?_map, List.getElem?_eq_getElem (by omega)]
    rw [List.getElem_take] at ej
    rw [ej, ← e]
    rfl
  have e3 : (ms.map (·.1))[i]? = some k := by
    rw [List.getElem?_map, h]
    rfl
  have := (List.getElem?_inj (by rw [List.length_map]; omega) nd).mp (e2.trans e3.symm)
  omega
theorem Dc.alloc {S G H} : ∀ {n v d}, Dc S G H n v d → Dc (fun x => S x ∧ H x ≠ none) G H n v d
  | 0, _, _, h => h
  | n + 1, v, d, h => by
    have al : ∀ {a : Addr} {o : HO}, H a = some o → H a ≠ none := fun r z => by rw [z] at r; cases r
    rcases h with ⟨x, y⟩ | ⟨b, xs, e, s, r, x, d⟩ | ⟨b, ms, f, e, s, r, nd, ks, d, no, at'⟩
    · exact .inl ⟨x, y⟩
    · exact .inr (.inl ⟨b, xs, e, ⟨s, al r⟩, r, x, d⟩)
    · exact .inr (.inr ⟨b, ms, f, e, ⟨s, al r⟩, r, nd, ks, d, no, fun k u hu => Dc.alloc (at' k u hu)⟩)
theorem Mem.alloc {S G H n ms f} (h : Mem S G H n ms f) : Mem (fun x => S x ∧ H x ≠ none) G H n ms f := ⟨h.nd, h.ks, h.no, fun k u hu => (h.at' k u hu).alloc⟩
theorem app_tgt {d e : D} (h : d.tgt = e.tgt) (p : D) : D.app d p = D.app e p := by
  cases p with
  | ob g =>
    rw [app_ob, app_ob, h]
  | _ => rfl
theorem mix_skip {ms : List (Str × V)} {i : Nat} {k : Str} {u : V} {f g : Str → D} (h : ms[i]? = some (k, u)) (e : f k = g k) : mix ms i f g = mix ms (i + 1) f g := by
  funext j
  unfold mix
  simp only [take_keys h]
  by_cases z : j = k
  · subst z
    simp [e]
  · simp [z]
theorem Ex.both [TabL] {H H' : Hp} {a : Addr} {o u : HO} (e : Ex H H') (hu : H a = some u) (p1 : isPl u = true := by rfl) (p2 : isPl o = true := by rfl) : Ex (upd H a o) (upd H' a o) := by
  have nt : ∀ {w : HO}, isPl w = true → isTbl w = false := fun {w} h => by cases w <;> first | rfl | exact h | exact nomatch h
  have h' : H' a = some u := e.go a u hu (nt p1)
  refine ⟨fun b w h z => ?_, fun b hb => ?_, fun b q r t => ?_⟩
  · by_cases y : b = a
    · subst y
      rw [upd_same] at h ⊢
      exact h
    · rw [upd_ne y] at h ⊢
      exact e.go b w h z
  · by_cases y : b = a
    · subst y
      rw [upd_same]
      exact fun z => nomatch z
    · rw [upd_ne y] at hb ⊢
      exact e.ne b hb
  · have t0 : LamX.TabS H b q := by
      have z := tab_upd (p := a) (o := u) t fun w hw => by rw [upd_same] at hw; cases hw; exact p2
      have e2 : upd (upd H a o) a u = H := by
        rw [upd_upd]
        funext c
        by_cases y : c = a
        · rw [y, upd_same, hu]
        · rw [upd_ne y]
      rwa [e2] at z
    exact tab_upd (e.tab b q r t0) fun w hw => by rw [h'] at hw; cases hw; exact p1
/-- at most p parts -/
def PD : D → Nat → Prop
  | .nil, _ => True
  | .sc _, p => 1 ≤ p
  | .ls _, p => 1 ≤ p
  | .ob f, p => ∃ (ks : List Str) (q : Str → Nat), (∀ k, (f k).isNil = false → k ∈ ks) ∧ (∀ k, PD (f k) (q k)) ∧ 1 + (ks.map q).sum ≤ p
theorem PD.mono : ∀ {d : D} {p q : Nat}, p ≤ q → PD d p → PD d q
  | .nil, _, _, _, _ => trivial
  | .sc _, _, _, h, z => Nat.le_trans z h
  | .ls _, _, _, h, z => Nat.le_trans z h
  | .ob _, _, _, h, ⟨ks, q, a, b, c⟩ => ⟨ks, q, a, b, Nat.le_trans c h⟩
theorem sum_sub (q : Str → Nat) : ∀ {xs ys : List Str}, xs.Nodup → (∀ x ∈ xs, x ∈ ys) → (xs.map q).sum ≤ (ys.map q).sum
  | [], _, _, _ => Nat.zero_le _
  | x :: xs, ys, nd, h => by
    rw [List.nodup_cons] at nd
    have hx := h x List.mem_cons_self
    have h2 : ∀ z ∈ xs, z ∈ ys.erase x := fun z hz => (List.mem_erase_of_ne (fun e => nd.1 (by rw [← e]; exact hz))).mpr (h z (List.mem_cons_of_mem _ hz))
    have h3 := sum_sub q nd.2 h2
    have h4 : (ys.map q).sum = q x + ((ys.erase x).map q).sum := by
      have := (List.perm_cons_erase hx).map q
      rw [this.sum_nat]
      simp
    rw [List.map_cons, List.sum_cons]
    omega
/-- objects nested at most p deep -/
def DD : D → Nat → Prop
  | .ob f, p => 1 ≤ p ∧ ∀ k, DD (f k) (p - 1)
  | _, _ => True
theorem DD.mono : ∀ {d : D} {p q : Nat}, p ≤ q → DD d p → DD d q
  | .nil, _, _, _, _ => trivial
  | .sc _, _, _, _, _ => trivial
  | .ls _, _, _, _, _ => trivial
  | .ob _, _, _, h, ⟨a, b⟩ => ⟨Nat.le_trans a h, fun k => DD.mono (by omega) (b k)⟩
theorem Dc.avoid {S G H a} : ∀ {n v d}, Dc S G H n v d → (∀ m e, m ≤ n → ¬ Dc S G H m (.ref a) e) → Dc (fun x => S x ∧ x ≠ a) G H n v d
  | 0, _, _, h, _ => h
  | n + 1, v, d, h, hn => by
    have ne : ∀ b, v = .ref b → b ≠ a := fun b e z => hn (n + 1) d (Nat.le_refl _) (by rw [← z, ← e]; exact h)
    rcases h with ⟨x, y⟩ | ⟨b, xs, e, s, r, x, d⟩ | ⟨b, ms, f, e, s, r, nd, ks, d, no, at'⟩
    · exact .inl ⟨x, y⟩
    · exact .inr (.inl ⟨b, xs, e, ⟨s, ne b e⟩, r, x, d⟩)
    · exact .inr (.inr ⟨b, ms, f, e, ⟨s, ne b e⟩, r, nd, ks, d, no, fun k u hu => Dc.avoid (at' k u hu) fun m e' hm => hn m e' (by omega)⟩)
theorem Mem.avoid {S G H n a ms f} (ha : H a = some (.dK (kvsOf ms))) (hS : S a) (h : Mem S G H n ms f) : Mem (fun x => S x ∧ x ≠ a) G H n ms f := by
  obtain ⟨m, hm, h2, h3⟩ := (Dc.ob (n := n) hS ha h).low
  refine h2.cases (fun k _ _ e => by cases e) (fun k b xs _ eb _ _ _ e => by cases e) (fun k b ms' f' ek eb _ r' M e => ?_)
  cases eb
  rw [ha] at r'
  have z : kvsOf ms' = kvsOf ms := by injection r' with r'; injection r' with r'; exact r'.symm
  have zz : ∀ j, valV ms' j = valV ms j := fun j => by rw [← valV_inK, ← valV_inK, z]
  injection e with e
  subst e
  exact ⟨h.nd, h.ks, h.no, fun j u hu => ((M.at' j u (by rw [zz]; exact hu)).avoid fun i e hi he => h3 i e (by omega) he).lift (by omega)⟩
theorem not_taken {ms : List (Str × V)} {i : Nat} {k : Str} {u : V} (nd : (ms.map (·.1)).Nodup) (h : ms[i]? = some (k, u)) : k ∉ (ms.take i).map (·.1) := by
  intro hk
  have hi : i < ms.length := (List.getElem?_eq_some_iff.mp h).1
  obtain ⟨p, hp, e⟩ := List.mem_map.mp hk
  obtain ⟨j, hj, ej⟩ := List.getElem_of_mem hp
  rw [List.length_take] at hj
  have e2 : (ms.map (·.1))[j]? = some k := by
    rw [List.getElem?_map, List.getElem?_eq_getElem (by omega)]
    rw [List.getElem_take] at ej
    rw [ej, ← e]
    rfl
  have e3 : (ms.map (·.1))[i]? = some k := by
    rw [List.getElem?_map, h]
    rfl
  have := (List.getElem?_inj (by rw [List.length_map]; omega) nd).mp (e2.trans e3.symm)
  omega
theorem merge_nodup : ∀ (ms pre : List (Str × V)), ((pre ++ ms).map (·.1)).Nodup → mergeK (kvsOf pre) (kvsOf ms) = kvsOf (pre ++ ms)
  | [], pre, _ => by simp [mergeK]
  | p :: ms, pre, h => by
    have h1 : valV pre p.1 = none := valV_none_of fun z => by
      rw [List.map_append, List.nodup_append] at h
      exact h.2.2 _ z _ (by simp) rfl
    have h2 : putK (kvsOf pre) (Sum.inr p.1) p.2 = kvsOf (pre ++ [p]) := by
      rw [putK_inK, putK_new _ h1]
    have h3 := merge_nodup ms (pre ++ [p]) (by simpa using h)
    show mergeK (putK (kvsOf pre) (Sum.inr p.1) p.2) (kvsOf ms) = _
    rw [h2, h3]
    simp
theorem Mem.drop {S G H n ms f} (h : Mem S G H n ms f) (k : Str) : Mem S G H n (ms.filter fun p => decide (p.1 ≠ k)) (D.fup f k .nil) := by
  have sub : ∀ {j : Str} {u : V}, valV (ms.filter fun p => decide (p.1 ≠ k)) j = some u → valV ms j = some u ∧ j ≠ k := fun {j u} z => by
    have hm := valV_mem z
    rw [List.mem_filter] at hm
    exact ⟨valV_of_mem h.nd hm.1, of_decide_eq_true hm.2⟩
  refine ⟨h.nd.sublist (List.filter_sublist.map _), fun j hj => ?_, fun j hj => ?_, fun j u hu => ?_⟩
  · obtain ⟨p, hp, e⟩ := List.mem_map.mp hj
    exact h.ks j (List.mem_map.mpr ⟨p, (List.mem_filter.mp hp).1, e⟩)
  · unfold D.fup
    by_cases z : j = k
    · rw [if_pos z]
    · rw [if_neg z]
      cases e : valV ms j with
      | none => exact h.no j e
      | some u =>
        have : j ∈ (ms.filter fun p => decide (p.1 ≠ k)).map (·.1) := List.mem_map.mpr ⟨(j, u), List.mem_filter.mpr ⟨valV_mem e, decide_eq_true z⟩, rfl⟩
        obtain ⟨w, hw⟩ := valV_some_of this
        rw [hj] at hw
        cases hw
  · obtain ⟨h1, h2⟩ := sub hu
    unfold D.fup
    rw [if_neg h2]
    exact h.at' j u h1
end TP

namespace TP
open PySem PySem.Spec PyProof.Rows L2
/-! ### defs that are only called where no repr is under way -/
structure FnOkG (P : Program) (w : World) (K : PySem.W.Frag) (mg : Str → Option Value) (base : Heap) (CX : CXT) (k : Nat) (f : Addr) (fd : FuncData) (ps : List Str) (sp : Sp) : Prop where
  len : ∀ vs H Q E, sp vs H Q E → vs.length = ps.length
  run : ∀ (A : Around) (outer : List Env) (s : Shared) (H : Hp) (args : Args) (us : List Value) (vs : List V) (Q : VK) (E : XK), A.guards = some [] → Room k A → Env0 P w K mg base A outer s H →
    BindsTo s fd args (ps.zip us) → Vals vs us → sp vs H Q E → codeAny (model P w) A (.call (.ref f) args) (CR CX outer P w H s Q E) s
section
variable {P : Program} {w : World} {K : PySem.W.Frag} {mg : Str → Option Value} {base : Heap} {CX : CXT}
theorem okG {x qual : Str} {st : Stmt} {f : Addr} {fd : FuncData} {N ps : List Str} {k : Nat} {sp : Sp} (F : Fun K x qual st f fd) (S : FnScope N ps (defScope st)) (len : ∀ vs H Q E, sp vs H Q E → vs.length = ps.length)
    (body : ∀ (cdv : Value) (A : Around) (outer : List Env) (s : Shared) (H : Hp) (vs : List V) (Q : VK) (E : XK), A.guards = some [] → Room k (A.deeper (envOfC qual (defScope st) s.heap.objs.size f cdv)) → sp vs H Q E →
      ∃ t, PSs (cxOf CX P w K mg base N qual (defScope st) f cdv A outer s H E).nox (defBody st) t ∧ t { nx := fun _ H' => Q .non H', rt := Q } (start N vs) H) : FnOkG P w K mg base CX (k + 1) f fd ps sp := by
  obtain ⟨oc, od, kV, doc, pm, an, cdv, ct, osl, rfl, lk, hcd⟩ := F.ex
  refine ⟨len, fun A outer s H args us vs Q E hg room e0 hb rel want => ?_⟩
  have hl := len _ _ _ _ want
  have kin : K.In s.heap := e0.mod.kin.keeps fun b o e => (e0.bs b o e).1
  have nol : s.heap.NoLimit := e0.mod.nolimit.keeps fun b o e => (e0.bs b o e).1
  refine codeAny_call_function room.depth (kin _ _ lk) rfl S.co S.gen rfl (PySem.W.codeRec_of kin hcd) (hb _ _ _ _ ?_)
  refine wpAny_newFunctionEnv_cells S.kind (fun ⟨n, v⟩ hy => (S.par n (List.of_mem_zip hy).1).imp id fun q => ⟨q, PySem.W.cellsFrom_some _ _ _ (.inl q)⟩) fun env he s1 x => ?_
  subst he
  refine ⟨nol.keeps x.toInCall.keep, codeAny_func ?_⟩
  obtain ⟨t, ht, hq⟩ := body cdv A outer s H vs Q E hg (room.deeper _) want
  refine wpAny_mono (ht.nox.run [] s1 (start N vs) H _ (inv_start S room.hd e0 hl rel x) hq) (fun fl s' h => ?_) fun _ _ h => h
  cases fl with
  | ret u => exact let ⟨v, _, H', J, rv, q⟩ := h; ⟨v, H', J.os, J.bare, J.base, J.hok, rv, q⟩
  | next => exact let ⟨_, H', J, q⟩ := h; ⟨V.non, H', J.os, J.bare, J.base, J.hok, rfl, q⟩
  | brk => exact let ⟨_, _, _, q⟩ := h; False.elim q
  | cont => exact let ⟨_, _, _, q⟩ := h; False.elim q
/-- a call of such a def -/
theorem pe_callG {X : Cx} {k : Nat} {f : Addr} {fd : FuncData} {ps : List Str} {sp : Sp} {E : XK} {x : Str} {p pos : Pos} {e : Expr} {es : List Expr} {t : TA} (F : FnOkG X.prog X.w X.K X.mg X.base CX k f fd ps sp) (hgd : X.A.guards = some []) (hr : Room k X.A) (hg : Gl X x)
    (hm : X.mg x = some (.ref f)) (hk : PySem.W.keepIn X.K (.ref f) = true) (hb : Binds X.K fd ps []) (hx : Passes CX X E) (ha : PA X (e :: es) t) (hdb : (x == ("__debug__" : Str)) = false := by decide)
    (he : starEach (e :: es) X.env = (false, eval e X.env) :: starEach es X.env := by rfl) (hpl : (backTo pos (starEach es X.env)).any (·.1) = false := by rfl) :
    PE X (.Call (.Name x p) (e :: es) [] pos) (tCall sp [] E t) := by
  refine ⟨fun pins s σ H Q I h => ?_⟩
  refine wpAny_Call_Name_kw (ld_glob I hg hm ?_ hdb)
  refine PySem.W.callWith_K (h₀ := X.base) I.ok.mod.kin hk (thn (ha.run pos pins s σ H _ I h) fun us s1 ⟨vs, H1, I1, r1, q1⟩ => ⟨I1.kIn, ?_⟩) he hpl
  have q1 : sp (vs ++ []) H1 Q E := q1
  rw [List.append_nil] at q1
  have hl : (us ++ []).length = ps.length := by rw [List.append_nil, ← Paired.length r1]; exact F.len _ _ _ _ q1
  have bt := hb s1 us I1.kIn hl
  rw [List.append_nil] at bt
  refine wpAny_call (codeAny_mono (F.run X.A X.stack s1 H1 ⟨us, []⟩ us vs Q E hgd hr I1.env0 bt r1 q1) fun r s' h' => ?_)
  cases r with
  | error er => exact hx pins σ _ _ er s' I1 h'
  | ok fl =>
    cases fl with
    | ret u => exact I1.after h'
    | next => exact False.elim h'
    | brk => exact False.elim h'
    | cont => exact False.elim h'
/-- the script's list as it stands at the entry -/
def ScrAt (K : PySem.W.Frag) (H : Hp) (a : Addr) (xs : List V) : Prop := ∃ its : List Value, Vals xs its ∧ xs.length ≤ 1000 ∧
  (K.lookup a = some { cls := .type "list", data := .seq its.toArray } ∨ H a = some (.frz { cls := .type "list", data := .seq its.toArray } (.lst xs)))
theorem ScrAt.ex [TabL] {K H H' a xs} (e : Ex H H') (h : ScrAt K H a xs) : ScrAt K H' a xs := let ⟨i, r, l, z⟩ := h; ⟨i, r, l, z.imp id fun y => e.go a _ y rfl⟩
/-- the head's end, for a law whose own def asks that no repr is under way -/
theorem walk_G {l : PySem.W.OpenLaw} {n k : Nat} {q : Program} {loose : List Str} {XP : (Str → Option Value) → Heap → Prop} {YP : World → Heap → Prop} {d : DefRec} {K : Params → PySem.W.Frag} {sp : PySem.W.Frag → Sp} {x : Str}
    (hn : l.most = some n) (hn2 : n ≤ 1000) (hdf : d.params.defaults = []) (hr : Room k callerA) (hY : ∀ (w : World) (h : Heap), YP w h → (K w.params).In h)
    (F : ∀ (w : World) (mg : Str → Option Value) (fa : Addr) (h : Heap), (K w.params).In h → h.Ns mainGlobals mg → mg d.name = some (.ref fa) →
      ∃ fd : FuncData, (∀ (s : Shared) (u : Value), BindsTo s fd ⟨[u], []⟩ [(x, u)]) ∧
        ∀ base : Heap, (K w.params).In base → base.Ns mainGlobals mg → FnOkG l.prog w (K w.params) mg base CX0 k fa fd [x] (sp (K w.params)))
    (hsp : ∀ (K : PySem.W.Frag) (H : Hp) (a : Addr) (ns : List Int), ns.length ≤ n → Only H → ScrAt K H a (ns.map V.int) → sp K [.ref a] H (fun v _ => v = .bl true) fun _ _ _ => False) :
    PySem.W.WalkO q loose XP YP l.row.toRowW d [] (fun f vs => PySem.call f vs) := by
  refine Att.attach_call hn hdf fun w s₀ s₁ mg mb fa o pm cd doc a vs ns G Y ho hd hcd hmg hobj hints hlen hg => ?_
  have KX := hY w _ Y
  obtain ⟨fd, hbind, hF⟩ := F w mg fa _ KX G.T.g hmg
  have hl1 : (ns.map V.int).length ≤ 1000 := by rw [List.length_map]; exact Nat.le_trans hlen hn2
  have hl : ns.length ≤ sizeLine := Nat.le_trans (Nat.le_trans hlen hn2) (by decide)
  have rel := vals_ints hints
  -- what may be tracked at the entry: the script's list, if the module does not own it
  have main : ∀ H : Hp, Only H → ScrAt (K w.params) H a (ns.map V.int) → HOk l.prog w H s₁.heap → (∀ b, H b ≠ none → b = a ∧ (K w.params).lookup a = none) →
      codeAny (model l.prog w) callerA (.call (.ref fa) ⟨[.ref a], []⟩) (fun r s' => r = .ok (.ret (.bool true)) ∧ OldK s₁.heap s'.heap ∧ s'.os = s₁.os ∧ AllBare s'.gens) s₁ := fun H hO hS hok only => by
    have free : ∀ {b : Addr} {ob : Obj}, s₁.heap.get? b = some ob → (b = a → ∃ es ep, ob.data = .dict es ep) → H b = none := fun {b ob} e z => by
      cases hb : H b with
      | none => rfl
      | some u =>
        have eb := (only b (by rw [hb]; exact fun y => nomatch y)).1
        obtain ⟨es, ep, dz⟩ := z eb
        rw [eb, hobj] at e
        cases e
        exact nomatch dz
    have ns' : ∀ {b : Addr} {m : Str → Option Value}, s₁.heap.Ns b m → (hidT s₁.heap H).Ns b m := fun {b m} h => by
      obtain ⟨ob, es, ep, e1, e2, e3⟩ := h
      exact ⟨ob, es, ep, hidT_get e1 (free e1 fun _ => ⟨es, ep, e2⟩), e2, e3⟩
    have kin : (K w.params).In (hidT s₁.heap H) := fun b ob e => hidT_get (KX b ob e) (by
      cases hb : H b with
      | none => rfl
      | some u =>
        obtain ⟨eb, e0⟩ := only b (by rw [hb]; exact fun y => nomatch y)
        rw [eb, e0] at e
        cases e)
    have env : Env0 l.prog w (K w.params) mg (hidT s₁.heap H) callerA [] s₁ H :=
      ⟨rfl, ⟨kin, ns' G.T.g, ⟨mb, ns' G.T.b, G.T.builtins⟩, G.T.nolimit.imp fun _ h => ⟨ns' h.1, h.2⟩⟩, fun _ _ e => of_hidT e, Nat.le_of_eq (hidT_size _ _), trivial, fun _ hb => absurd hb (by simp [frs]), hok, .of_eq hg⟩
    refine codeAny_mono ((hF _ kin (ns' G.T.g)).run callerA [] s₁ H ⟨[.ref a], []⟩ [.ref a] [.ref a] _ _ rfl hr env (hbind s₁ (.ref a)) (.cons rfl .nil) (hsp _ H a ns hlen hO hS)) fun r s' h => ?_
    match r, h with
    | .ok (.ret u), h =>
      obtain ⟨v, H', os, bare, un, hok', rv, qv⟩ := h
      have qv : v = .bl true := qv
      subst qv
      obtain rfl : u = Value.bool true := rv
      refine ⟨rfl, OldK.of_keep fun b ob e => ?_, os, bare⟩
      rcases hO b with z | ⟨ob', xs, z⟩
      · exact un.keep b ob e z (by simp [frs]) (by simp)
      · have h1 := (hok b _ z).1
        have h2 := (hok' b _ (un.frzs b ob' _ z)).1
        rw [e] at h1
        cases h1
        exact h2
    | .error _, h => exact h.elim
    | .ok .next, h => exact h.elim
    | .ok .brk, h => exact h.elim
    | .ok .cont, h => exact h.elim
  have lenV := hints.length
  cases hk : (K w.params).lookup a with
  | some ob =>
    have e := KX a ob hk
    rw [hobj] at e
    cases e
    exact main (fun _ => none) (fun _ => .inl rfl) ⟨vs, rel, hl1, .inl hk⟩ (fun _ _ z => nomatch z) fun _ z => absurd rfl z
  | none =>
    have one : ∀ {b : Addr} {u : HO}, (if b = a then some (HO.frz { cls := .type "list", data := .seq vs.toArray } (.lst (ns.map V.int))) else none) = some u → b = a ∧ u = .frz { cls := .type "list", data := .seq vs.toArray } (.lst (ns.map V.int)) := fun {b u} z => by
      by_cases hb : b = a
      · rw [if_pos hb] at z
        exact ⟨hb, (Option.some.inj z).symm⟩
      · rw [if_neg hb] at z
        cases z
    refine main (fun b => if b = a then some (.frz { cls := .type "list", data := .seq vs.toArray } (.lst (ns.map V.int))) else none) (fun b => ?_) ⟨vs, rel, hl1, .inr (if_pos rfl)⟩ (fun b u z => ?_) fun b z => ?_
    · by_cases hb : b = a
      · exact .inr ⟨_, _, if_pos hb⟩
      · exact .inl (if_neg hb)
    · obtain ⟨rfl, rfl⟩ := one z
      exact ⟨hobj, by rw [List.length_map]; exact hl, vs, _, rel, hobj⟩
    · obtain ⟨u, hu⟩ := Option.ne_none_iff_exists'.mp z
      exact ⟨(one hu).1, hk⟩
end
end TP

namespace TP
open PySem PySem.Spec PyProof.Rows L2
theorem tabs0 {H : Hp} {P : Addr} {q : Str} (h : H P = some (.tbl #[])) : LamX.TabS H P q := LamX.TabS.nil h
/-- a code object's head, from what is told of it -/
theorem code_hd {K : PySem.W.Frag} {h : Heap} {c P : Addr} {od : Option Addr} {vs : Array Value} {sl : Array (Option Value)} {file : Str} {tf : Tok} {flags : Int} {tg : Tok} {inF : Bool} {text : Int} {tt : Tok} (X : K.In h) (l : K.lookup c = some ⟨.type "code", od, .fields vs, sl⟩) (h0 : vs[11]? = some (.ref P)) (h1 : vs.getD 11 .none = .ref P) (h2 : vs.getD 18 .none = .str file tf) (h3 : vs.getD 7 .none = .int flags tg) (h4 : vs.getD 9 .none = .bool inF) (h5 : vs.getD 10 .none = .int text tt) (ne : c ≠ P) : PySem.W.CodeHd h c P :=
  ⟨_, vs, file, tf, flags, tg, inF, text, tt, X c _ l, rfl, rfl, h0, h1, h2, h3, h4, h5, ne⟩
/-- what is tracked at the entry: the script's list, and one code table -/
def OnlyT (Pt : Addr) (H : Hp) : Prop := ∀ b, H b = none ∨ (b = Pt ∧ H b = some (.tbl #[])) ∨ ∃ o xs, H b = some (.frz o (.lst xs))
/-- the head's end, for a law whose own def asks that no repr is under way, and a code table -/
theorem walk_GT {l : PySem.W.OpenLaw} {n k : Nat} {q : Program} {loose : List Str} {XP : (Str → Option Value) → Heap → Prop} {YP : World → Heap → Prop} {d : DefRec} {K : Params → PySem.W.Frag} {sp : PySem.W.Frag → Addr → Sp} {x : Str}
    (hn : l.most = some n) (hn2 : n ≤ 1000) (hdf : d.params.defaults = []) (hr : Room k callerA) (hY : ∀ (w : World) (h : Heap), YP w h → (K w.params).In h)
    (F : ∀ (w : World) (mg : Str → Option Value) (fa : Addr) (h : Heap), YP w h → (K w.params).In h → h.Ns mainGlobals mg → mg d.name = some (.ref fa) →
      ∃ (c Pt : Addr), h.get? Pt = some (PySem.W.tabObj #[]) ∧ (K w.params).lookup Pt = none ∧ PySem.W.CodeHd h c Pt ∧ ∃ fd : FuncData, (∀ (s : Shared) (u : Value), BindsTo s fd ⟨[u], []⟩ [(x, u)]) ∧
        ∀ base : Heap, (K w.params).In base → base.Ns mainGlobals mg → LamX.TabB base mg c Pt → FnOkG l.prog w (K w.params) mg base CX0 k fa fd [x] (sp (K w.params) Pt))
    (hsp : ∀ (K : PySem.W.Frag) (H : Hp) (a Pt : Addr) (ns : List Int), ns.length ≤ n → H Pt = some (.tbl #[]) → ScrAt K H a (ns.map V.int) → sp K Pt [.ref a] H (fun v _ => v = .bl true) fun _ _ _ => False) :
    PySem.W.WalkO q loose XP YP l.row.toRowW d [] (fun f vs => PySem.call f vs) := by
  refine Att.attach_call hn hdf fun w s₀ s₁ mg mb fa o pm cd doc a vs ns G Y ho hd hcd hmg hobj hints hlen hg => ?_
  have KX := hY w _ Y
  obtain ⟨c, Pt, hPt, hKP, hcode, fd, hbind, hF⟩ := F w mg fa _ Y KX G.T.g hmg
  have hl1 : (ns.map V.int).length ≤ 1000 := by rw [List.length_map]; exact Nat.le_trans hlen hn2
  have hl : ns.length ≤ sizeLine := Nat.le_trans (Nat.le_trans hlen hn2) (by decide)
  have rel := vals_ints hints
  have naP : a ≠ Pt := fun z => by
    rw [z, hPt] at hobj
    cases hobj
  have main : ∀ H : Hp, OnlyT Pt H → H Pt = some (.tbl #[]) → ScrAt (K w.params) H a (ns.map V.int) → HOk l.prog w H s₁.heap → (∀ b, H b ≠ none → b = Pt ∨ (b = a ∧ (K w.params).lookup a = none)) →
      codeAny (model l.prog w) callerA (.call (.ref fa) ⟨[.ref a], []⟩) (fun r s' => r = .ok (.ret (.bool true)) ∧ OldK s₁.heap s'.heap ∧ s'.os = s₁.os ∧ AllBare s'.gens) s₁ := fun H hO hT hS hok only => by
    have free : ∀ {b : Addr} {ob : Obj}, s₁.heap.get? b = some ob → (b = a ∨ b = Pt → False) → H b = none := fun {b ob} e z => by
      cases hb : H b with
      | none => rfl
      | some u => exact ((only b (by rw [hb]; exact fun y => nomatch y)).elim (fun y => z (.inr y)) fun y => z (.inl y.1)).elim
    have ns' : ∀ {b : Addr} {m : Str → Option Value}, s₁.heap.Ns b m → (hidT s₁.heap H).Ns b m := fun {b m} h => by
      obtain ⟨ob, es, ep, e1, e2, e3⟩ := h
      exact ⟨ob, es, ep, hidT_get e1 (free e1 fun z => by
        rcases z with z | z
        · rw [z, hobj] at e1; cases e1; cases e2
        · rw [z, hPt] at e1; cases e1; cases e2), e2, e3⟩
    have kin : (K w.params).In (hidT s₁.heap H) := fun b ob e => hidT_get (KX b ob e) (by
      cases hb : H b with
      | none => rfl
      | some u =>
        rcases only b (by rw [hb]; exact fun y => nomatch y) with z | ⟨z, z0⟩
        · rw [z, hKP] at e; cases e
        · rw [z, z0] at e; cases e)
    have obs : ∀ {b : Addr} {ob : Obj}, s₁.heap.get? b = some ob → ob.cls ≠ .type "list" → ob.cls ≠ .none → (hidT s₁.heap H).get? b = some ob := fun {b ob} e n1 n2 => hidT_get e (free e fun z => by
        rcases z with z | z
        · rw [z, hobj] at e; cases e; exact n1 rfl
        · rw [z, hPt] at e; cases e; exact n2 rfl)
    have tb : LamX.TabB (hidT s₁.heap H) mg c Pt := by
      obtain ⟨og, es, ep, g1, g2, _⟩ := G.T.g
      obtain ⟨bm, ob, b1, b2, b3, b4, b5, b6⟩ := G.T.bmain
      obtain ⟨oc, vs', r1, r2, r3, r4, r5, r6, r7, e1, e2, e3⟩ := hcode
      refine ⟨⟨oc, vs', r1, r2, r3, r4, r5, r6, r7, obs e1 (by rw [e2]; exact fun z => nomatch z) (by rw [e2]; exact fun z => nomatch z), e2, e3⟩, ⟨bm, ob, b1, b2, ?_, ?_, obs b3 (by rw [b4]; exact fun z => by injection z with z; exact absurd z (by decide)) (by rw [b4]; exact fun z => nomatch z), b4, b5, b6⟩, ?_⟩
      · intro z; rw [z, g1] at b3; cases b3; rw [g2] at b6; cases b6
      · intro z; rw [z, hPt] at b3; cases b3; cases b6
      · intro z; rw [z, hPt] at g1; cases g1; cases g2
    have env : Env0 l.prog w (K w.params) mg (hidT s₁.heap H) callerA [] s₁ H :=
      ⟨rfl, ⟨kin, ns' G.T.g, ⟨mb, ns' G.T.b, G.T.builtins⟩, G.T.nolimit.imp fun _ h => ⟨ns' h.1, h.2⟩⟩, fun _ _ e => of_hidT e, Nat.le_of_eq (hidT_size _ _), trivial, fun _ hb => absurd hb (by simp [frs]), hok, .of_eq hg⟩
    refine codeAny_mono ((hF _ kin (ns' G.T.g) tb).run callerA [] s₁ H ⟨[.ref a], []⟩ [.ref a] [.ref a] _ _ rfl hr env (hbind s₁ (.ref a)) (.cons rfl .nil) (hsp _ H a Pt ns hlen hT hS)) fun r s' h => ?_
    match r, h with
    | .ok (.ret u), h =>
      obtain ⟨v, H', os, bare, un, hok', rv, qv⟩ := h
      have qv : v = .bl true := qv
      subst qv
      obtain rfl : u = Value.bool true := rv
      refine ⟨rfl, ⟨fun b ob e => ?_, fun b ob e => un.there b ob e (by simp)⟩, os, bare⟩
      rcases hO b with z | ⟨z, _⟩ | ⟨ob', xs, z⟩
      · exact .inl (un.keep b ob e z (by simp [frs]) (by simp))
      · subst z
        obtain ⟨more, hm⟩ := un.tbls b _ hT
        have h2 := hok' b _ hm
        rw [hPt] at e
        cases e
        exact .inr (.inl ⟨let ⟨o, vs, _, _, _, _, _, _, _, e1, e2, e3, e4, _⟩ := hcode; ⟨c, o, vs, e1, e2, e3, e4⟩, rfl, #[], more, rfl, h2⟩)
      · have h1 := (hok b _ z).1
        have h2 := (hok' b _ (un.frzs b ob' _ z)).1
        rw [e] at h1
        cases h1
        exact .inl h2
    | .error _, h => exact h.elim
    | .ok .next, h => exact h.elim
    | .ok .brk, h => exact h.elim
    | .ok .cont, h => exact h.elim
  have lenV := hints.length
  cases hk : (K w.params).lookup a with
  | some ob =>
    have e := KX a ob hk
    rw [hobj] at e
    cases e
    refine main (fun b => if b = Pt then some (.tbl #[]) else none) (fun b => ?_) (if_pos rfl) ⟨vs, rel, hl1, .inl hk⟩ (fun b u z => ?_) fun b z => ?_
    all_goals try dsimp only at z
    · by_cases hb : b = Pt
      · exact .inr (.inl ⟨hb, if_pos hb⟩)
      · exact .inl (if_neg hb)
    · by_cases hb : b = Pt
      · rw [if_pos hb] at z
        cases z
        rw [hb]
        exact hPt
      · rw [if_neg hb] at z; cases z
    · by_cases hb : b = Pt
      · exact .inl hb
      · rw [if_neg hb] at z; exact absurd rfl z
  | none =>
    refine main (fun b => if b = Pt then some (.tbl #[]) else if b = a then some (.frz { cls := .type "list", data := .seq vs.toArray } (.lst (ns.map V.int))) else none) (fun b => ?_) (if_pos rfl) ⟨vs, rel, hl1, .inr (show (if a = Pt then some (HO.tbl #[]) else if a = a then _ else none) = _ by rw [if_neg naP, if_pos rfl])⟩ (fun b u z => ?_) fun b z => ?_
    all_goals try dsimp only at z
    · by_cases hb : b = Pt
      · exact .inr (.inl ⟨hb, if_pos hb⟩)
      · by_cases hb2 : b = a
        · exact .inr (.inr ⟨_, _, by dsimp only; rw [if_neg hb, if_pos hb2]⟩)
        · exact .inl (by dsimp only; rw [if_neg hb, if_neg hb2])
    · by_cases hb : b = Pt
      · rw [if_pos hb] at z
        cases z
        rw [hb]
        exact hPt
      · rw [if_neg hb] at z
        by_cases hb2 : b = a
        · rw [if_pos hb2] at z
          cases z
          subst hb2
          exact ⟨hobj, by rw [List.length_map]; exact hl, vs, _, rel, hobj⟩
        · rw [if_neg hb2] at z; cases z
    · by_cases hb : b = Pt
      · exact .inl hb
      · rw [if_neg hb] at z
        by_cases hb2 : b = a
        · exact .inr ⟨hb2, hk⟩
        · rw [if_neg hb2] at z; exact absurd rfl z
end TP

namespace TP
open PySem PySem.Spec PyProof.Rows L2
/-- what holds of every heap: nothing that is tracked lies where sys.modules lies -/
def tSys (t : TE) : TE := fun σ H Q => t σ H fun v H' => (∀ a o, H' a = some o → a ≠ sysModules) → Q v H'
theorem pe_sys {X : Cx} {e : Expr} {t : TE} (hS : ∃ o, X.base.get? sysModules = some o) (h : PE X e t) : PE X e (tSys t) := by
  refine ⟨fun pins s σ H Q I hw => thn (h.run pins s σ H _ I hw) fun u s1 ⟨v, H', I', rv, q⟩ => ⟨v, H', I', rv, q fun a o e z => ?_⟩⟩
  obtain ⟨o1, h1⟩ := hS
  have := (I'.bs _ _ h1).2
  rw [← z, e] at this
  cases this
/-- as walk_GT, and sys.modules stands in the base: the head's end, for a law whose own def asks that no repr is under way, and a code table -/
theorem walk_GTS {l : PySem.W.OpenLaw} {n k : Nat} {q : Program} {loose : List Str} {XP : (Str → Option Value) → Heap → Prop} {YP : World → Heap → Prop} {d : DefRec} {K : Params → PySem.W.Frag} {sp : PySem.W.Frag → Addr → Sp} {x : Str}
    (himp : importsNone q = true) (hn : l.most = some n) (hn2 : n ≤ 1000) (hdf : d.params.defaults = []) (hr : Room k callerA) (hY : ∀ (w : World) (h : Heap), YP w h → (K w.params).In h)
    (F : ∀ (w : World) (mg : Str → Option Value) (fa : Addr) (h : Heap), YP w h → (K w.params).In h → h.Ns mainGlobals mg → mg d.name = some (.ref fa) →
      ∃ (c Pt : Addr), h.get? Pt = some (PySem.W.tabObj #[]) ∧ (K w.params).lookup Pt = none ∧ PySem.W.CodeHd h c Pt ∧ ∃ fd : FuncData, (∀ (s : Shared) (u : Value), BindsTo s fd ⟨[u], []⟩ [(x, u)]) ∧
        ∀ base : Heap, (K w.params).In base → base.Ns mainGlobals mg → LamX.TabB base mg c Pt → (∃ o, base.get? sysModules = some o) → FnOkG l.prog w (K w.params) mg base CX0 k fa fd [x] (sp (K w.params) Pt))
    (hsp : ∀ (K : PySem.W.Frag) (H : Hp) (a Pt : Addr) (ns : List Int), ns.length ≤ n → H Pt = some (.tbl #[]) → ScrAt K H a (ns.map V.int) → sp K Pt [.ref a] H (fun v _ => v = .bl true) fun _ _ _ => False) :
    PySem.W.WalkO q loose XP YP l.row.toRowW d [] (fun f vs => PySem.call f vs) := by
  refine Att.attach_call hn hdf fun w s₀ s₁ mg mb fa o pm cd doc a vs ns G Y ho hd hcd hmg hobj hints hlen hg => ?_
  have KX := hY w _ Y
  obtain ⟨c, Pt, hPt, hKP, hcode, fd, hbind, hF⟩ := F w mg fa _ Y KX G.T.g hmg
  have hl1 : (ns.map V.int).length ≤ 1000 := by rw [List.length_map]; exact Nat.le_trans hlen hn2
  have hl : ns.length ≤ sizeLine := Nat.le_trans (Nat.le_trans hlen hn2) (by decide)
  have rel := vals_ints hints
  have naP : a ≠ Pt := fun z => by
    rw [z, hPt] at hobj
    cases hobj
  have main : ∀ H : Hp, OnlyT Pt H → H Pt = some (.tbl #[]) → ScrAt (K w.params) H a (ns.map V.int) → HOk l.prog w H s₁.heap → (∀ b, H b ≠ none → b = Pt ∨ (b = a ∧ (K w.params).lookup a = none)) →
      codeAny (model l.prog w) callerA (.call (.ref fa) ⟨[.ref a], []⟩) (fun r s' => r = .ok (.ret (.bool true)) ∧ OldK s₁.heap s'.heap ∧ s'.os = s₁.os ∧ AllBare s'.gens) s₁ := fun H hO hT hS hok only => by
    have free : ∀ {b : Addr} {ob : Obj}, s₁.heap.get? b = some ob → (b = a ∨ b = Pt → False) → H b = none := fun {b ob} e z => by
      cases hb : H b with
      | none => rfl
      | some u => exact ((only b (by rw [hb]; exact fun y => nomatch y)).elim (fun y => z (.inr y)) fun y => z (.inl y.1)).elim
    have ns' : ∀ {b : Addr} {m : Str → Option Value}, s₁.heap.Ns b m → (hidT s₁.heap H).Ns b m := fun {b m} h => by
      obtain ⟨ob, es, ep, e1, e2, e3⟩ := h
      exact ⟨ob, es, ep, hidT_get e1 (free e1 fun z => by
        rcases z with z | z
        · rw [z, hobj] at e1; cases e1; cases e2
        · rw [z, hPt] at e1; cases e1; cases e2), e2, e3⟩
    have kin : (K w.params).In (hidT s₁.heap H) := fun b ob e => hidT_get (KX b ob e) (by
      cases hb : H b with
      | none => rfl
      | some u =>
        rcases only b (by rw [hb]; exact fun y => nomatch y) with z | ⟨z, z0⟩
        · rw [z, hKP] at e; cases e
        · rw [z, z0] at e; cases e)
    have obs : ∀ {b : Addr} {ob : Obj}, s₁.heap.get? b = some ob → ob.cls ≠ .type "list" → ob.cls ≠ .none → (hidT s₁.heap H).get? b = some ob := fun {b ob} e n1 n2 => hidT_get e (free e fun z => by
        rcases z with z | z
        · rw [z, hobj] at e; cases e; exact n1 rfl
        · rw [z, hPt] at e; cases e; exact n2 rfl)
    have tb : LamX.TabB (hidT s₁.heap H) mg c Pt := by
      obtain ⟨og, es, ep, g1, g2, _⟩ := G.T.g
      obtain ⟨bm, ob, b1, b2, b3, b4, b5, b6⟩ := G.T.bmain
      obtain ⟨oc, vs', r1, r2, r3, r4, r5, r6, r7, e1, e2, e3⟩ := hcode
      refine ⟨⟨oc, vs', r1, r2, r3, r4, r5, r6, r7, obs e1 (by rw [e2]; exact fun z => nomatch z) (by rw [e2]; exact fun z => nomatch z), e2, e3⟩, ⟨bm, ob, b1, b2, ?_, ?_, obs b3 (by rw [b4]; exact fun z => by injection z with z; exact absurd z (by decide)) (by rw [b4]; exact fun z => nomatch z), b4, b5, b6⟩, ?_⟩
      · intro z; rw [z, g1] at b3; cases b3; rw [g2] at b6; cases b6
      · intro z; rw [z, hPt] at b3; cases b3; cases b6
      · intro z; rw [z, hPt] at g1; cases g1; cases g2
    have sys : ∃ o, (hidT s₁.heap H).get? sysModules = some o := by
      obtain ⟨mm, hm, _⟩ := (G.T.seer himp).mods
      obtain ⟨o, _, _, e, _⟩ := ns' hm
      exact ⟨o, e⟩
    have env : Env0 l.prog w (K w.params) mg (hidT s₁.heap H) callerA [] s₁ H :=
      ⟨rfl, ⟨kin, ns' G.T.g, ⟨mb, ns' G.T.b, G.T.builtins⟩, G.T.nolimit.imp fun _ h => ⟨ns' h.1, h.2⟩⟩, fun _ _ e => of_hidT e, Nat.le_of_eq (hidT_size _ _), trivial, fun _ hb => absurd hb (by simp [frs]), hok, .of_eq hg⟩
    refine codeAny_mono ((hF _ kin (ns' G.T.g) tb sys).run callerA [] s₁ H ⟨[.ref a], []⟩ [.ref a] [.ref a] _ _ rfl hr env (hbind s₁ (.ref a)) (.cons rfl .nil) (hsp _ H a Pt ns hlen hT hS)) fun r s' h => ?_
    match r, h with
    | .ok (.ret u), h =>
      obtain ⟨v, H', os, bare, un, hok', rv, qv⟩ := h
      have qv : v = .bl true := qv
      subst qv
      obtain rfl : u = Value.bool true := rv
      refine ⟨rfl, ⟨fun b ob e => ?_, fun b ob e => un.there b ob e (by simp)⟩, os, bare⟩
      rcases hO b with z | ⟨z, _⟩ | ⟨ob', xs, z⟩
      · exact .inl (un.keep b ob e z (by simp [frs]) (by simp))
      · subst z
        obtain ⟨more, hm⟩ := un.tbls b _ hT
        have h2 := hok' b _ hm
        rw [hPt] at e
        cases e
        exact .inr (.inl ⟨let ⟨o, vs, _, _, _, _, _, _, _, e1, e2, e3, e4, _⟩ := hcode; ⟨c, o, vs, e1, e2, e3, e4⟩, rfl, #[], more, rfl, h2⟩)
      · have h1 := (hok b _ z).1
        have h2 := (hok' b _ (un.frzs b ob' _ z)).1
        rw [e] at h1
        cases h1
        exact .inl h2
    | .error _, h => exact h.elim
    | .ok .next, h => exact h.elim
    | .ok .brk, h => exact h.elim
    | .ok .cont, h => exact h.elim
  have lenV := hints.length
  cases hk : (K w.params).lookup a with
  | some ob =>
    have e := KX a ob hk
    rw [hobj] at e
    cases e
    refine main (fun b => if b = Pt then some (.tbl #[]) else none) (fun b => ?_) (if_pos rfl) ⟨vs, rel, hl1, .inl hk⟩ (fun b u z => ?_) fun b z => ?_
    all_goals try dsimp only at z
    · by_cases hb : b = Pt
      · exact .inr (.inl ⟨hb, if_pos hb⟩)
      · exact .inl (if_neg hb)
    · by_cases hb : b = Pt
      · rw [if_pos hb] at z
        cases z
        rw [hb]
        exact hPt
      · rw [if_neg hb] at z; cases z
    · by_cases hb : b = Pt
      · exact .inl hb
      · rw [if_neg hb] at z; exact absurd rfl z
  | none =>
    refine main (fun b => if b = Pt then some (.tbl #[]) else if b = a then some (.frz { cls := .type "list", data := .seq vs.toArray } (.lst (ns.map V.int))) else none) (fun b => ?_) (if_pos rfl) ⟨vs, rel, hl1, .inr (show (if a = Pt then some (HO.tbl #[]) else if a = a then _ else none) = _ by rw [if_neg naP, if_pos rfl])⟩ (fun b u z => ?_) fun b z => ?_
    all_goals try dsimp only at z
    · by_cases hb : b = Pt
      · exact .inr (.inl ⟨hb, if_pos hb⟩)
      · by_cases hb2 : b = a
        · exact .inr (.inr ⟨_, _, by dsimp only; rw [if_neg hb, if_pos hb2]⟩)
        · exact .inl (by dsimp only; rw [if_neg hb, if_neg hb2])
    · by_cases hb : b = Pt
      · rw [if_pos hb] at z
        cases z
        rw [hb]
        exact hPt
      · rw [if_neg hb] at z
        by_cases hb2 : b = a
        · rw [if_pos hb2] at z
          cases z
          subst hb2
          exact ⟨hobj, by rw [List.length_map]; exact hl, vs, _, rel, hobj⟩
        · rw [if_neg hb2] at z; cases z
    · by_cases hb : b = Pt
      · exact .inl hb
      · rw [if_neg hb] at z
        by_cases hb2 : b = a
        · exact .inr ⟨hb2, hk⟩
        · rw [if_neg hb2] at z; exact absurd rfl z
end TP

namespace TP
open PySem PySem.Spec PyProof.Rows L2
/-! ### new lists away from one address -/
section
variable {X : Cx} {es : List Expr} {t : TA} {pos : Pos}
def tLstS (t : TA) : TE := fun σ H Q => t σ H fun xs H1 => xs.length ≤ sizeLine ∧ ∀ p, H1 p = none → p ≠ sysModules → Q (.ref p) (upd H1 p (.lst xs))
theorem pe_lstS (h : PA X es t) : PE X (.List es pos) (tLstS t) := by
  refine ⟨fun pins s σ H Q I hq => wpAny_List_spliced (thn (h.run pos pins s σ H _ I hq) fun us s1 ⟨xs, H1, I1, r, z, q⟩ => ⟨by rw [← r.length]; exact z, ?_⟩)⟩
  exact ⟨.ref s1.heap.objs.size, upd H1 s1.heap.objs.size (.lst xs), I1.laid (t' := s1.toks) (fun b u e => Heap.get?_push_of_some _ e) (Nat.le_refl _) ⟨z, us, 0, r, Heap.get?_push_size _ rfl⟩, rfl, q _ (I1.hok.fresh (Nat.le_refl _)) (Nat.ne_of_gt I1.big)⟩
end
/-! ### data, dicts among it, as the heap holds it -/
mutual
inductive Pd (H : Hp) : V → PyData → Prop
  | non : Pd H .non .none
  | int (i : Int) : Pd H (.int i) (.int i)
  | str (x : Str) : Pd H (.str x) (.str x)
  | lst {a : Addr} {xs : List V} {ds : List PyData} : a ≠ sysModules → Rd H a (.lst xs) → PdAll H xs ds → Pd H (.ref a) (.list ds)
  | tup {a : Addr} {xs : List V} {ds : List PyData} : Rd H a (.tup xs) → PdAll H xs ds → Pd H (.ref a) (.tuple ds)
  | dct {a : Addr} {ms : List (Str × V)} {ds : List PyData} : Rd H a (.dK (kvsOf ms)) → PdAll H (ms.map (·.2)) ds → Pd H (.ref a) (.dict ((ms.map fun p => PyData.str p.1).zip ds))
inductive PdAll (H : Hp) : List V → List PyData → Prop
  | nil : PdAll H [] []
  | cons {v : V} {vs : List V} {d : PyData} {ds : List PyData} : Pd H v d → PdAll H vs ds → PdAll H (v :: vs) (d :: ds)
end
theorem PdAll.length {H : Hp} : ∀ {vs : List V} {ds : List PyData}, PdAll H vs ds → vs.length = ds.length
  | _, _, .nil => rfl
  | _, _, .cons _ h => congrArg Nat.succ h.length
mutual
theorem Pd.ex [TabL] {H H' : Hp} (e : Ex H H') : ∀ {v : V} {d : PyData}, Pd H v d → Pd H' v d
  | _, _, .non => .non
  | _, _, .int i => .int i
  | _, _, .str x => .str x
  | _, _, .lst n r h => .lst n (ex_rd e r) (PdAll.ex e h)
  | _, _, .tup r h => .tup (ex_rd e r) (PdAll.ex e h)
  | _, _, .dct r h => .dct (ex_rd e r) (PdAll.ex e h)
theorem PdAll.ex [TabL] {H H' : Hp} (e : Ex H H') : ∀ {vs : List V} {ds : List PyData}, PdAll H vs ds → PdAll H' vs ds
  | _, _, .nil => .nil
  | _, _, .cons h k => .cons (Pd.ex e h) (PdAll.ex e k)
end
theorem reads_keys {P : Program} {w : World} {h : Heap} : ∀ {es : List DictEntry} {ms : List (Str × V)} {vs : List (Key × Value)}, Pairs (mixKind P w) es vs → KV (kvsOf ms) vs →
    ReadsAll h (es.map (·.key)) (ms.map fun p => PyData.str p.1) [] ∧ Vals (ms.map (·.2)) (es.map (·.val))
  | _, [], _, p, k => by
    cases k
    cases p
    exact ⟨.nil, .nil⟩
  | _, m :: ms, _, p, k => by
    cases k with
    | @cons _ q _ qs hk ht =>
      cases p with
      | @cons e _ es _ h1 h2 h3 =>
        obtain ⟨r1, r2⟩ := reads_keys (h := h) h3 ht
        obtain ⟨e1, e2⟩ := hk
        have h1' : keyIs (Sum.inr m.1) e.key = true := by rw [← e1] at h1; exact h1
        rcases keyIs_shape h1' with ⟨i, t, z, _⟩ | ⟨x, t, z, ek⟩
        · cases z
        · have z' : m.1 = x := Sum.inr.inj z
          refine ⟨?_, .cons (by show L2.RelV m.2 e.val; rw [h2]; exact e2) r2⟩
          show ReadsAll h (e.key :: _) (PyData.str m.1 :: _) ([] ++ [])
          rw [ek, z']
          exact .cons (.str _ _) r1
mutual
theorem Pd.reads {X : Cx} {pins : List (Addr × Obj)} {σ : L2.St} {H : Hp} {s : Shared} (I : Inv X pins σ H s) : ∀ {v : V} {d : PyData} {u : Value}, Pd H v d → RelV v u → ∃ as, Reads s.heap u d as ∧ sysModules ∉ as
  | _, _, _, .non, r => by cases (show _ = Value.none from r); exact ⟨_, .none, by simp⟩
  | _, _, _, .int i, r => by obtain ⟨t, e⟩ := (show ∃ t, _ = Value.int i t from r); cases e; exact ⟨_, .int i t, by simp⟩
  | _, _, _, .str x, r => by obtain ⟨t, e⟩ := (show ∃ t, _ = Value.str x t from r); cases e; exact ⟨_, .str x t, by simp⟩
  | _, _, _, @Pd.lst _ a xs ds n rd h, r => by
    cases (show _ = Value.ref a from r)
    obtain ⟨_, its, m, rv, e⟩ := (show ObjOk X.prog X.w H s.heap a (.lst xs) from rd.ok I.hok)
    obtain ⟨as, q, ns⟩ := PdAll.reads I h rv
    exact ⟨_, Reads.list (vs := its.toArray) e rfl rfl (by simpa using q), by simp [ns, n.symm]⟩
  | _, _, _, @Pd.tup _ a xs ds rd h, r => by
    cases (show _ = Value.ref a from r)
    obtain ⟨_, its, rv, o, e1, e2, m, e3⟩ := (show ObjOk X.prog X.w H s.heap a (.tup xs) from rd.ok I.hok)
    obtain ⟨as, q, ns⟩ := PdAll.reads I h rv
    exact ⟨_, Reads.tuple (vs := its.toArray) e1 e2 e3 (by simpa using q), ns⟩
  | _, _, _, @Pd.dct _ a ms ds rd h, r => by
    cases (show _ = Value.ref a from r)
    obtain ⟨_, hs, vs, kv, o, es, ep, e1, e2, e3, _, pr, _⟩ := (show ObjOk X.prog X.w H s.heap a (.dK (kvsOf ms)) from rd.ok I.hok)
    obtain ⟨r1, rv⟩ := reads_keys (h := s.heap) pr kv
    obtain ⟨as, q, ns⟩ := PdAll.reads I h rv
    have hl := h.length
    have k1 : ((ms.map fun p => PyData.str p.1).zip ds).map (·.1) = ms.map fun p => PyData.str p.1 := by
      rw [List.map_fst_zip]
      rw [List.length_map] at hl
      rw [List.length_map]; omega
    have k2 : ((ms.map fun p => PyData.str p.1).zip ds).map (·.2) = ds := by
      rw [List.map_snd_zip]
      rw [List.length_map] at hl
      rw [List.length_map]; omega
    have hne : sysModules ≠ a := fun z => by rw [← z] at hs; simp at hs
    exact ⟨_, Reads.dict (as := []) (bs := as) e1 e2.1 e3 (by rw [k1]; exact r1) (by rw [k2]; exact q), by simp [ns, hne]⟩
theorem PdAll.reads {X : Cx} {pins : List (Addr × Obj)} {σ : L2.St} {H : Hp} {s : Shared} (I : Inv X pins σ H s) : ∀ {vs : List V} {ds : List PyData} {us : List Value}, PdAll H vs ds → Vals vs us → ∃ as, ReadsAll s.heap us ds as ∧ sysModules ∉ as
  | _, _, _, .nil, r => by cases r; exact ⟨_, .nil, by simp⟩
  | _, _, _, .cons h k, r => by
    cases r with
    | cons r1 r2 =>
      obtain ⟨as, q1, n1⟩ := Pd.reads I h r1
      obtain ⟨bs, q2, n2⟩ := PdAll.reads I k r2
      exact ⟨_, .cons q1 q2, by simp [n1, n2]⟩
end
/-- repr(x) -/
def rRepr : List V → Hp → VK → Prop := fun xs H Q => ∃ x d, xs = [x] ∧ Pd H x d ∧ d.showable = true ∧ d.shown.length ≤ sizeLine ∧ d.depth ≤ 40 ∧ Q (.str d.shown) H
section
variable {X : Cx}
theorem call_reprD (hg : X.A.guards = some []) (hu : X.A.units + 64 < cLine) : CallR X (.builtin "repr") rRepr := by
  intro pins s σ H xs us Q I r h
  obtain ⟨x, d, rfl, hp, hs, hz, hd, q⟩ := h
  obtain ⟨u, rfl, r1⟩ := vals1 r
  obtain ⟨as, rd, ns⟩ := hp.reads I r1
  cases hp with
  | non =>
    cases (show _ = Value.none from r1)
    exact PySem.P.repr_of_none ⟨.str _, H, I.tok _, ⟨_, rfl⟩, by simpa only [PyData.shown] using q⟩
  | int i =>
    obtain ⟨t, e⟩ := (show ∃ t, _ = Value.int i t from r1)
    cases e
    exact PySem.P.repr_of_int (by simpa [PyData.showable] using hs) ⟨.str _, H, I.tok _, ⟨_, rfl⟩, by simpa only [PyData.shown] using q⟩
  | str y =>
    obtain ⟨t, e⟩ := (show ∃ t, _ = Value.str y t from r1)
    cases e
    exact PySem.P.repr_of_str ⟨.str _, H, I.tok _, ⟨_, rfl⟩, by simpa only [PyData.shown] using q⟩ (by simpa only [PyData.shown] using hz)
  | lst n rdd al =>
    cases (show _ = Value.ref _ from r1)
    exact repr_of_reads' rd hs (fun _ => ns) hg (by omega) (fun _ _ e => e) (fun h' u tk hk => ⟨.str _, H, I.kept (t' := tk) hk, ⟨_, rfl⟩, q⟩) hz
  | tup rdd al =>
    cases (show _ = Value.ref _ from r1)
    exact repr_of_reads' rd hs (fun _ => ns) hg (by omega) (fun _ _ e => e) (fun h' u tk hk => ⟨.str _, H, I.kept (t' := tk) hk, ⟨_, rfl⟩, q⟩) hz
  | dct rdd al =>
    cases (show _ = Value.ref _ from r1)
    exact repr_of_reads' rd hs (fun _ => ns) hg (by omega) (fun _ _ e => e) (fun h' u tk hk => ⟨.str _, H, I.kept (t' := tk) hk, ⟨_, rfl⟩, q⟩) hz
end
/-! ### documents compared -/
theorem flat_sc {v : V} (z : isSc v = true) : flatB v = true := by cases v <;> first | rfl | cases z
theorem scal_sc {v : V} (z : isSc v = true) : scal v v = true := by cases v <;> first | rfl | cases z
theorem ob_keys {S S' : Addr → Prop} {G G' : Gen} {H : Hp} {n m : Nat} {ms ms' : List (Str × V)} {f : Str → D} (h : Mem S G H n ms f) (h' : Mem S' G' H m ms' f) : ms.length = ms'.length ∧ ∀ p ∈ kvsOf ms, ∃ u, valV (kvsOf ms') p.1 = some u ∧ ∃ d, Dc S G H n p.2 d ∧ Dc S' G' H m u d := by
  have look : ∀ k ∈ ms.map (·.1), ∃ u w, valV ms k = some u ∧ valV ms' k = some w := fun k hk => by
    obtain ⟨u, hu⟩ := valV_some_of hk
    cases hv : valV ms' k with
    | some w => exact ⟨u, w, hu, rfl⟩
    | none =>
      have z := (h.at' k u hu).ne_nil
      rw [h'.no k hv] at z
      cases z
  have look' : ∀ k ∈ ms'.map (·.1), k ∈ ms.map (·.1) := fun k hk => by
    obtain ⟨u, hu⟩ := valV_some_of hk
    cases hv : valV ms k with
    | some w => exact List.mem_map.mpr ⟨_, valV_mem hv, rfl⟩
    | none =>
      have z := (h'.at' k u hu).ne_nil
      rw [h.no k hv] at z
      cases z
  have l1 := sub_len h.nd fun k hk => by
    obtain ⟨_, w, _, hw⟩ := look k hk
    exact (List.mem_map.mpr ⟨_, valV_mem hw, rfl⟩ : k ∈ ms'.map (·.1))
  have l2 := sub_len h'.nd look'
  rw [List.length_map, List.length_map] at l1 l2
  refine ⟨by omega, fun p hp => ?_⟩
  obtain ⟨⟨k, u⟩, hq, e⟩ := List.mem_map.mp hp
  subst e
  obtain ⟨u', w, hu, hw⟩ := look k (List.mem_map.mpr ⟨_, hq, rfl⟩)
  rw [valV_of_mem h.nd hq] at hu
  cases hu
  exact ⟨w, by rw [valV_inK]; exact hw, _, h.at' k u (valV_of_mem h.nd hq), h'.at' k w hw⟩
theorem items_at {C : V → Bool} (sc : ∀ v, C v = true → isSc v = true) {A : Around} {s : Shared} : ∀ {zs : List V} {us ws : List Value}, (∀ z ∈ zs, C z = true) → Vals zs us → Vals zs ws → ∀ j (h1 : j < us.length) (h2 : j < ws.length), SeqAt.EqAt A s us[j] ws[j] true
  | [], _, _, _, r, _, j, h1, _ => by cases r; exact absurd h1 (Nat.not_lt_zero j)
  | z :: zs, _, _, hz, .cons r rs, .cons r' rs', 0, _, _ => eqAt_same r r' (flat_sc (sc z (hz z List.mem_cons_self)))
  | z :: zs, _, _, hz, .cons r rs, .cons r' rs', j + 1, h1, h2 => items_at sc (fun w hw => hz w (List.mem_cons_of_mem _ hw)) rs rs' j (Nat.lt_of_succ_lt_succ h1) (Nat.lt_of_succ_lt_succ h2)
section
variable {X : Cx} {pins : List (Addr × Obj)} {σ : L2.St} {H : Hp} {s : Shared}
theorem items_same (I : Inv X pins σ H s) {C : V → Bool} (sc : ∀ v, C v = true → isSc v = true) {A : Around} : ∀ {zs : List V} {us ws : List Value}, (∀ z ∈ zs, C z = true) → Vals zs us → Vals zs ws → ∀ j (h1 : j < us.length) (h2 : j < ws.length), SeqAt.EqP X.prog X.w A s us[j] ws[j] true
  | [], _, _, _, r, _, j, h1, _ => by cases r; exact absurd h1 (Nat.not_lt_zero j)
  | z :: zs, _, _, hz, .cons r rs, .cons r' rs', 0, _, _ => (eqAt_same r r' (flat_sc (sc z (hz z List.mem_cons_self)))).eqP
  | z :: zs, _, _, hz, .cons r rs, .cons r' rs', j + 1, h1, h2 => items_same I sc (fun w hw => hz w (List.mem_cons_of_mem _ hw)) rs rs' j (Nat.lt_of_succ_lt_succ h1) (Nat.lt_of_succ_lt_succ h2)
/-- two objects that stand for one document -/
theorem docs_rc (I : Inv X pins σ H s) {S S' : Addr → Prop} {G G' : Gen} {n m : Nat} {a b : Addr} {d : D} (ih : ∀ (A : Around) (x y : V) (e : D) (v u : Value), A.units + n < cLine → Dc S G H n x e → Dc S' G' H m y e → RelV x v → RelV y u → SeqAt.EqP X.prog X.w A s v u true)
    {A : Around} (hu : A.units + (n + 1) < cLine) (h : Dc S G H (n + 1) (.ref a) d) (h' : Dc S' G' H (m + 1) (.ref b) d) (E Q : Value → Shared → Prop) (q : Q (.bool true) s) : wpAny (model X.prog X.w) A (richCompare .Eq (.ref a) (.ref b)) Q E s := by
  rcases h with ⟨hx, rfl⟩ | ⟨a', xs, e1, s1, r, hx, rfl⟩ | ⟨a', ms, f, e1, s1, r, nd, ks, rfl, no, at'⟩
  · exact nomatch G.sc _ hx
  · cases e1
    rcases h' with ⟨hy, e⟩ | ⟨b', ys, e2, s', r', hy, e⟩ | ⟨b', ms', f', e2, s', r', nd', ks', e, no', at''⟩
    · cases e
    · cases e2
      injection e with e
      subst e
      obtain ⟨us, r1, p1, _⟩ := I.list (.inl (.inl r))
      obtain ⟨ws, r2, p2, _⟩ := I.list (.inl (.inl r'))
      refine SeqAt.rcP_lists (e := fun _ => true) p1.isList p2.isList (by rw [List.size_toArray, List.size_toArray, ← r1.length, ← r2.length]) (by omega) (fun j h1 h2 => ?_) E Q ?_
      · simpa using items_same I G.sc (A := A.in1) hx.2 r1 r2 j (by simpa using h1) (by simpa using h2)
      · rw [show ((List.range us.toArray.size).all fun _ => true) = true from List.all_eq_true.mpr fun _ _ => rfl]
        exact q
    · cases e
  · cases e1
    rcases h' with ⟨hy, e⟩ | ⟨b', ys, e2, s', r', hy, e⟩ | ⟨b', ms', f', e2, s', r', nd', ks', e, no', at''⟩
    · cases e
    · cases e
    · cases e2
      injection e with e
      subst e
      obtain ⟨_, ya, va, ra, da⟩ := dk_rd I.hok (.inl r)
      obtain ⟨_, yb, vb, rb, db⟩ := dk_rd I.hok (.inl r')
      obtain ⟨hl, hp⟩ := ob_keys (Mem.mk nd ks no at') (Mem.mk nd' ks' no' at'')
      refine PySem.W.rcP_dicts (knd := mixKind X.prog X.w) (r := true) ya yb da db (by omega) (fun _ => hits_run (F := fun x y => ∃ e, Dc S G H n x e ∧ Dc S' G' H m y e) (fun x y v u z rx ry => ?_) rb ra hp) E Q ?_
      · obtain ⟨e, z1, z2⟩ := z
        exact ih _ _ _ _ _ _ (show A.units + 1 + n < cLine by omega) z1 z2 rx ry
      · have e : va.length = vb.length := by rw [← ra.length, ← rb.length, List.length_map, List.length_map]; exact hl
        rw [show (va.length == vb.length && true) = true from by rw [e]; simp]
        exact q
theorem docs_eq (I : Inv X pins σ H s) {S S' : Addr → Prop} {G G' : Gen} : ∀ (n m : Nat) (A : Around) (x y : V) (d : D) (v u : Value), A.units + n < cLine → Dc S G H n x d → Dc S' G' H m y d → RelV x v → RelV y u → SeqAt.EqP X.prog X.w A s v u true
  | 0, _, _, _, _, _, _, _, _, h, _, _, _ => (show False from h).elim
  | _ + 1, 0, _, _, _, _, _, _, _, _, h, _, _ => (show False from h).elim
  | n + 1, m + 1, A, x, y, d, v, u, hu, h, h', rx, ry => by
    by_cases hs : ∃ z, d = .sc z
    · obtain ⟨z, rfl⟩ := hs
      have hx : G.C x = true ∧ x = z := by
        rcases h with ⟨hx, e⟩ | ⟨a, xs, _, _, _, _, e⟩ | ⟨a, ms, f, _, _, _, _, _, e, _⟩
        · injection e with e; exact ⟨hx, e.symm⟩
        · cases e
        · cases e
      have hy : y = z := by
        rcases h' with ⟨_, e⟩ | ⟨a, xs, _, _, _, _, e⟩ | ⟨a, ms, f, _, _, _, _, _, e, _⟩
        · injection e with e; exact e.symm
        · cases e
        · cases e
      rw [hy, ← hx.2] at ry
      exact (eqAt_same rx ry (flat_sc (G.sc _ hx.1))).eqP
    · have ref : ∀ {S : Addr → Prop} {G : Gen} {k : Nat} {x : V}, Dc S G H k x d → ∃ a, x = .ref a := fun {S G k x} z => by
        refine z.cases (fun _ _ _ e => absurd ⟨_, e⟩ hs) (fun _ a _ _ e _ _ _ _ => ⟨a, e⟩) (fun _ a _ _ _ e _ _ _ _ => ⟨a, e⟩)
      obtain ⟨a, rfl⟩ := ref h
      obtain ⟨b, rfl⟩ := ref h'
      cases (show v = Value.ref a from rx)
      cases (show u = Value.ref b from ry)
      by_cases e : a = b
      · subst e
        exact (SeqAt.EqAt.same _).eqP
      · exact SeqAt.eqP_refs e (docs_rc I (fun A x y e v u hu => docs_eq I n m A x y e v u hu) hu h h')
/-- != of two documents that are equal -/
def rNeDoc : R2 := fun x y H Q => ∃ (S S' : Addr → Prop) (G G' : Gen) (n m : Nat) (d : D), n ≤ 40 ∧ Dc S G H n x d ∧ Dc S' G' H m y d ∧ Q (.bl false) H
theorem op_neDoc (hu : X.A.units + 64 < cLine) : OpR X (compareOp .NotEq) rNeDoc := by
  intro pins s σ H x y v u Q I rx ry h
  obtain ⟨S, S', G, G', n, m, d, hn, h, h', q⟩ := h
  cases n with
  | zero => exact (show False from h).elim
  | succ n =>
  cases m with
  | zero => exact (show False from h').elim
  | succ m =>
    rcases id h with ⟨hx, rfl⟩ | ⟨a, xs, rfl, s1, r, hx, rfl⟩ | ⟨a, ms, f, rfl, s1, r, nd, ks, rfl, no, at'⟩
    · rcases h' with ⟨hy, e⟩ | ⟨b, ys, rfl, s', r', hy, e⟩ | ⟨b, ms', f', rfl, s', r', nd', ks', e, no', at''⟩
      · injection e with e
        subst e
        exact op_ne pins s σ H x x v u Q I rx ry ⟨scal_sc (G.sc _ hx), by simpa using q⟩
      · cases e
      · cases e
    · rcases h' with ⟨hy, e⟩ | ⟨b, ys, rfl, s', r', hy, e⟩ | ⟨b, ms', f', rfl, s', r', nd', ks', e, no', at''⟩
      · cases e
      · injection e with e
        subst e
        cases (show v = Value.ref a from rx)
        cases (show u = Value.ref b from ry)
        obtain ⟨us, r1, p1, _⟩ := I.list (.inl (.inl r))
        obtain ⟨ws, r2, p2, _⟩ := I.list (.inl (.inl r'))
        refine SeqAt.RcNeAt.lists (e := fun _ => true) p1.isList p2.isList (by rw [List.size_toArray, List.size_toArray, ← r1.length, ← r2.length]) (by omega) (fun j h1 h2 => ?_) _ _ _ _ ?_
        · simpa using items_at G.sc (A := X.A.in1) (s := s) hx.2 r1 r2 j (by simpa using h1) (by simpa using h2)
        · rw [show ((List.range us.toArray.size).all fun _ => true) = true from List.all_eq_true.mpr fun _ _ => rfl]
          exact ⟨.bl false, H, I, rfl, q⟩
      · cases e
    · rcases h' with ⟨hy, e⟩ | ⟨b, ys, rfl, s', r', hy, e⟩ | ⟨b, ms', f', rfl, s', r', nd', ks', e, no', at''⟩
      · cases e
      · cases e
      · injection e with e
        subst e
        cases (show v = Value.ref a from rx)
        cases (show u = Value.ref b from ry)
        obtain ⟨_, ya, va, ra, da⟩ := dk_rd I.hok (.inl r)
        obtain ⟨_, yb, vb, rb, db⟩ := dk_rd I.hok (.inl r')
        obtain ⟨hl, hp⟩ := ob_keys (Mem.mk nd ks no at') (Mem.mk nd' ks' no' at'')
        have e : va.length = vb.length := by rw [← ra.length, ← rb.length, List.length_map, List.length_map]; exact hl
        refine wpAny_richCompare_same_room (op := .NotEq) da.typeIs db.typeIs PySem.F.slot_dict_ne (wpAny_call_entry PySem.F.slot_dict_ne da.typeIs PySem.F.entry_dict_ne ?_ (PySem.F.args_dict_ne_2 _ _)) (by omega)
        refine wpAny_bind ?_
        unfold Builtin.Dict.dictSlotArgs
        refine wpAny_bind (wpAny_notOrdered_dict da.typeIs (wpAny_pure (wpAny_bind (wpAny_isInstance (T := "dict") db.typeIs PySem.F.sub_dict_dict ?_))))
        simp only [Bool.not_true, Bool.false_eq_true, if_false]
        refine wpAny_bind (wpAny_pure (wpAny_bind (wpAny_pure (wpAny_bind (PySem.W.samePairsP (r := true) ya yb da db (fun _ => hits_run (F := fun x y => ∃ e, Dc S G H n x e ∧ Dc S' G' H m y e) (fun x y v u z rx ry => ?_) rb ra hp) ?_)))))
        · obtain ⟨e, z1, z2⟩ := z
          exact docs_eq I n m _ _ _ _ _ _ (show X.A.units + 1 + n < cLine by omega) z1 z2 rx ry
        · refine wpAny_pure ⟨_, rfl, (fun x => nomatch x), ?_⟩
          exact ⟨.bl false, H, I, by rw [e]; simp [L2.RelV], q⟩
end
/-! ### max(xs, default=d) of whole numbers -/
section
variable {X : Cx}
def rMaxDef (K : PySem.W.Frag) : List V → List V → Hp → VK → Prop := fun vs zs H Q => ∃ (a : Addr) (ns : List Int) (d : Int), vs = [V.ref a] ∧ zs = [.int d] ∧ SqL K H a (ns.map V.int) ∧
  (ns = [] → Q (.int d) H) ∧ ∀ z ∈ ns, (∀ y ∈ ns, y ≤ z) → Q (.int z) H
theorem int_holds {h : Heap} : ∀ {ns : List Int} {us : List Value}, Vals (ns.map V.int) us → PySem.W.HoldAll h us ns
  | [], _, r => by cases r; exact .nil
  | n :: ns, _, r => by
    cases r with
    | cons r rs =>
      obtain ⟨t, e⟩ := (show ∃ t, _ = Value.int n t from r)
      subst e
      exact .cons ⟨_, .int n t⟩ (int_holds rs)
theorem maxOf_spec : ∀ (ns : List Int) (n : Int), PySem.W.maxOf n ns ∈ n :: ns ∧ ∀ y ∈ n :: ns, y ≤ PySem.W.maxOf n ns
  | [], n => ⟨List.mem_cons_self, fun y hy => by rw [List.mem_singleton.mp hy]; exact Int.le_refl _⟩
  | m :: ns, n => by
    show (PySem.W.maxOf (if PySem.W.DatumOrd.lt n m = true then m else n) ns) ∈ _ ∧ ∀ y ∈ _, y ≤ PySem.W.maxOf (if PySem.W.DatumOrd.lt n m = true then m else n) ns
    have e : (PySem.W.DatumOrd.lt n m = true) ↔ n < m := by
      show decide (n < m) = true ↔ n < m
      exact decide_eq_true_iff
    obtain ⟨h1, h2⟩ := maxOf_spec ns (if PySem.W.DatumOrd.lt n m = true then m else n)
    by_cases c : PySem.W.DatumOrd.lt n m = true
    · rw [if_pos c] at h1 h2 ⊢
      refine ⟨List.mem_cons_of_mem _ h1, fun y hy => ?_⟩
      rcases List.mem_cons.mp hy with rfl | hy
      · exact Int.le_trans (Int.le_of_lt (e.mp c)) (h2 m List.mem_cons_self)
      · exact h2 y hy
    · rw [if_neg c] at h1 h2 ⊢
      refine ⟨(List.mem_cons.mp h1).elim (fun z => by rw [z]; exact List.mem_cons_self) fun z => List.mem_cons_of_mem _ (List.mem_cons_of_mem _ z), fun y hy => ?_⟩
      rcases List.mem_cons.mp hy with rfl | hy
      · exact h2 _ List.mem_cons_self
      · rcases List.mem_cons.mp hy with rfl | hy
        · have := h2 n List.mem_cons_self
          have c' : ¬ n < y := fun z => c (e.mpr z)
          omega
        · exact h2 y (List.mem_cons_of_mem _ hy)
theorem cr_maxDef (hu : X.A.units + 64 < cLine) (hh : X.A.handled = none) : CallRK X (.builtin "max") [Str.ofString "default"] (rMaxDef X.K) := by
  intro pins s σ H vs zs us ws Q I r rz h
  obtain ⟨a, ns, d, rfl, rfl, hs, h0, hq⟩ := h
  obtain rfl := Vals.ref1 r
  obtain ⟨w1, rfl, t, rfl⟩ := vals1 rz
  obtain ⟨its, rv, hl, hz⟩ := I.list hs
  refine PySem.W.max_list_datum_default (xs := ns) hh hl.isList (by simpa using int_holds rv) (show X.A.units + 1 + 0 < cLine by omega) (fun e h' tk hk => ⟨.int d, H, I.kept (t' := tk) hk, ⟨t, rfl⟩, h0 e⟩) fun y ys i v h' tk e hi hv hk => ?_
  obtain ⟨as, rd⟩ := hv
  obtain ⟨m1, m2⟩ := maxOf_spec ys y
  refine ⟨.int (PySem.W.maxOf y ys), H, I.kept (t' := tk) hk, ?_, hq _ (by rw [e]; exact m1) (by rw [e]; exact m2)⟩
  cases rd with
  | int i t => exact ⟨t, rfl⟩
end
/-! ### the script -/
def rCatScr (K : PySem.W.Frag) : R2 := fun x y H Q => ∃ l b xs zs, x = .ref l ∧ y = .ref b ∧ ScrAt K H l xs ∧ H b = some (.lst zs) ∧ zs.length ≤ 1000 ∧ ∀ p, H p = none → Q (.ref p) (upd H p (.lst (xs ++ zs)))
theorem op_catScr {X : Cx} : OpR X (binaryOp .Add) (rCatScr X.K) := by
  intro pins s σ H x y v u Q I rx ry h
  obtain ⟨l, b, xs, zs, rfl, rfl, ⟨its, r, lx, hH⟩, hB, lz, q⟩ := h
  cases (show v = Value.ref l from rx)
  cases (show u = Value.ref b from ry)
  obtain ⟨z2, its2, n2, r2, hl2, e2⟩ := I.lstM hB
  have e : s.heap.get? l = some { cls := .type "list", data := .seq its.toArray } := by
    rcases hH with hH | hH
    · exact I.kIn l _ hH
    · exact (I.hok l _ hH).1
  have hz : xs.length + zs.length ≤ sizeLine := Nat.le_trans (show _ ≤ 2000 by omega) (by decide)
  have l1 := r.length
  refine PySem.P.add_list e e2 ?_ (by rw [List.size_toArray, List.size_toArray]; omega)
  rw [show its.toArray ++ its2.toArray = (its ++ its2).toArray by simp]
  exact ⟨.ref _, _, I.lnew (t' := s.toks) (r.append r2) (by rw [List.length_append]; omega), rfl, q _ I.fresh⟩
/-! ### walks over a locked dict with text keys -/
section
variable {d D : Addr} {o : Obj} {ms : List (Str × V)} {g : TG} {tt : TT} {te tk tv : TE} {vs : List Nat} {σ : L2.St} {H1 : Hp} {Qd : Hp → Prop}
theorem keyAt {i : Nat} {k : Key} {v : V} (h : (kvsOf ms)[i]? = some (k, v)) : ∃ x, ms[i]? = some (x, v) ∧ k = Sum.inr x := by
  rw [List.getElem?_map] at h
  cases e : ms[i]? with
  | none => rw [e] at h; cases h
  | some p =>
    rw [e] at h
    obtain ⟨x, w⟩ := p
    cases h
    exact ⟨x, rfl, rfl⟩
theorem dc_keys (Pv : Nat → Hp → Prop) (h0 : Pv 0 (upd H1 D (.dK []))) (hl : ∀ i H, i ≤ ms.length → Pv i H → H d = some (.frz o (.dK (kvsOf ms))))
    (hs : ∀ i k u H, ms[i]? = some (k, u) → Pv i H → g (.str k) (wipe σ vs) H fun σ2 H2 => wipe σ2 vs = wipe σ vs ∧ tt σ2 H2 fun b H3 =>
      if b = true then tk σ2 H3 fun y H4 => tv σ2 H4 fun z H5 => ∃ kvs k, y = kV k ∧ H5 D = some (.dK kvs) ∧ kvs.length < sizeLine ∧ Pv (i + 1) (upd H5 D (.dK (putK kvs k z))) else Pv (i + 1) H3)
    (hd : ∀ H, Pv ms.length H → Qd H) :
    ∃ W : Nat → Nat → Hp → Prop, (∃ m, W 0 m (upd H1 D (.dK []))) ∧ ∀ i m H, W i m H →
      ((Itk d o (kvsOf ms)).stop i H ∧ Qd H) ∨ ((Itk d o (kvsOf ms)).go i H ∧ ∃ Nx : Hp → Prop, (∀ H', Nx H' → ∃ m', m' < m ∧ W (i + 1) m' H') ∧ ∀ x H', (Itk d o (kvsOf ms)).yld i H x H' → g x (wipe σ vs) H' fun σ2 H2 => wipe σ2 vs = wipe σ vs ∧ tt σ2 H2 fun b H3 =>
        if b = true then tk σ2 H3 fun y H4 => tv σ2 H4 fun z H5 => ∃ kvs k, y = kV k ∧ H5 D = some (.dK kvs) ∧ kvs.length < sizeLine ∧ Nx (upd H5 D (.dK (putK kvs k z))) else Nx H3) := by
  refine ⟨fun i m H => m + i = ms.length ∧ Pv i H, ⟨ms.length, rfl, h0⟩, ?_⟩
  rintro i m H ⟨e, p⟩
  have q := hl i H (by omega) p
  have len : (kvsOf ms).length = ms.length := List.length_map ..
  cases m with
  | zero =>
    have e' : i = ms.length := by omega
    subst e'
    exact .inl ⟨⟨q, by omega⟩, hd H p⟩
  | succ m =>
    refine .inr ⟨⟨q, by omega⟩, Pv (i + 1), fun H' p' => ⟨m, by omega, by omega, p'⟩, fun x H' y => ?_⟩
    obtain ⟨rfl, k, v, h1, rfl⟩ := y
    obtain ⟨z, h2, rfl⟩ := keyAt h1
    exact hs i z v _ h2 p
theorem lc_keys (Pv : Nat → Hp → Prop) (h0 : Pv 0 (upd H1 D (.lst []))) (hl : ∀ i H, i ≤ ms.length → Pv i H → H d = some (.frz o (.dK (kvsOf ms))))
    (hs : ∀ i k u H, ms[i]? = some (k, u) → Pv i H → g (.str k) (wipe σ vs) H fun σ2 H2 => wipe σ2 vs = wipe σ vs ∧ tt σ2 H2 fun b H3 =>
      if b = true then te σ2 H3 fun y H4 => ∃ acc, H4 D = some (.lst acc) ∧ acc.length < sizeLine ∧ Pv (i + 1) (upd H4 D (.lst (acc ++ [y]))) else Pv (i + 1) H3)
    (hd : ∀ H, Pv ms.length H → Qd H) :
    ∃ W : Nat → Nat → Hp → Prop, (∃ m, W 0 m (upd H1 D (.lst []))) ∧ ∀ i m H, W i m H →
      ((Itk d o (kvsOf ms)).stop i H ∧ Qd H) ∨ ((Itk d o (kvsOf ms)).go i H ∧ ∃ Nx : Hp → Prop, (∀ H', Nx H' → ∃ m', m' < m ∧ W (i + 1) m' H') ∧ ∀ x H', (Itk d o (kvsOf ms)).yld i H x H' → g x (wipe σ vs) H' fun σ2 H2 => wipe σ2 vs = wipe σ vs ∧ tt σ2 H2 fun b H3 =>
        if b = true then te σ2 H3 fun y H4 => ∃ acc, H4 D = some (.lst acc) ∧ acc.length < sizeLine ∧ Nx (upd H4 D (.lst (acc ++ [y]))) else Nx H3) := by
  refine ⟨fun i m H => m + i = ms.length ∧ Pv i H, ⟨ms.length, rfl, h0⟩, ?_⟩
  rintro i m H ⟨e, p⟩
  have q := hl i H (by omega) p
  have len : (kvsOf ms).length = ms.length := List.length_map ..
  cases m with
  | zero =>
    have e' : i = ms.length := by omega
    subst e'
    exact .inl ⟨⟨q, by omega⟩, hd H p⟩
  | succ m =>
    refine .inr ⟨⟨q, by omega⟩, Pv (i + 1), fun H' p' => ⟨m, by omega, by omega, p'⟩, fun x H' y => ?_⟩
    obtain ⟨rfl, k, v, h1, rfl⟩ := y
    obtain ⟨z, h2, rfl⟩ := keyAt h1
    exact hs i z v _ h2 p
theorem for_keys {tb : TS} {E : Ends} {H : Hp} (Pv : Nat → L2.St → Hp → Prop) (h0 : Pv 0 σ H) (hl : ∀ i σ H, i ≤ ms.length → Pv i σ H → H d = some (.frz o (.dK (kvsOf ms))))
    (hs : ∀ i k u σ H, ms[i]? = some (k, u) → Pv i σ H → g (.str k) σ H fun σ2 H2 => tb { E with nx := Pv (i + 1), ct := Pv (i + 1), bk := E.nx } σ2 H2) (hd : ∀ σ H, Pv ms.length σ H → E.nx σ H) :
    ∃ W : Nat → Nat → L2.St → Hp → Prop, (∃ m, W 0 m σ H) ∧ ∀ i m σ H, W i m σ H →
      ((Itk d o (kvsOf ms)).stop i H ∧ E.nx σ H) ∨ ((Itk d o (kvsOf ms)).go i H ∧ ∃ N : L2.St → Hp → Prop, (∀ σ' H', N σ' H' → ∃ m', m' < m ∧ W (i + 1) m' σ' H') ∧ ∀ x H', (Itk d o (kvsOf ms)).yld i H x H' → g x σ H' fun σ2 H2 => tb { E with nx := N, ct := N, bk := E.nx } σ2 H2) := by
  refine ⟨fun i m σ H => m + i = ms.length ∧ Pv i σ H, ⟨ms.length, rfl, h0⟩, ?_⟩
  rintro i m σ H ⟨e, p⟩
  have q := hl i σ H (by omega) p
  have len : (kvsOf ms).length = ms.length := List.length_map ..
  cases m with
  | zero =>
    have e' : i = ms.length := by omega
    subst e'
    exact .inl ⟨⟨q, by omega⟩, hd σ H p⟩
  | succ m =>
    refine .inr ⟨⟨q, by omega⟩, Pv (i + 1), fun σ' H' p' => ⟨m, by omega, by omega, p'⟩, fun x H' y => ?_⟩
    obtain ⟨rfl, k, v, h1, rfl⟩ := y
    obtain ⟨z, h2, rfl⟩ := keyAt h1
    exact hs i z v σ _ h2 p
end
/-! ### name = {k: v for ..} on one line -/
section
variable {X : Cx}
theorem sw_dc {kx vx : Expr} {gs : List Comprehension} {scope : Scope} {pos py : Pos} {y : Str} {l : Nat} {env : Env} (hk : env.scope.kind = .function) (hy : env.scope.names.lookup y = some .local) (hl : (py.line == pos.line) = true)
    (ha : (scope.names.any fun (n, k) => n == y && (k == .local || k == .cell)) = false) : swapsWith (.DictComp kx vx gs scope pos) (some (.Name y py)) l env = pure true := by
  have k1 : env.kindOf y = some .local := hy
  have k2 : env.blockKind = .function := by
    unfold Env.blockKind
    rw [hk]
    rfl
  unfold swapsWith
  simp only [k2, k1, ha, Expr.pos, hl]
  rfl
theorem ps_setDc {i : Nat} {y : Str} {py : Pos} {kx vx tg iter : Expr} {ifs : List Expr} {scope : Scope} {own : List (Str × Nat)} {pos spos : Pos} {wi : TI} {g : TG} {tt : TT} {tk tv : TE} (hc : X.calm = true) (hN : X.N.Nodup) (hy : X.N[i]? = some y) (hyl : X.env.scope.names.lookup y = some .local)
    (hsw : swapsWith (.DictComp kx vx [⟨tg, iter, ifs, 0⟩] scope pos) (some (.Name y py)) spos.line X.env = pure true) (hi : PI X tg iter wi) (ok : BlkOk X.N X.env.scope scope own)
    (hg : ∀ (s : Shared) (H : Hp) (C : Addr) (cl : List (Str × Addr)) (fp : List Addr), PG (X.blk s H scope (compEnvC scope cl C X.env) fp) tg g)
    (ht : ∀ (s : Shared) (H : Hp) (C : Addr) (cl : List (Str × Addr)) (fp : List Addr), PTs (X.blk s H scope (compEnvC scope cl C X.env) fp) ifs tt)
    (hk : ∀ (s : Shared) (H : Hp) (C : Addr) (cl : List (Str × Addr)) (fp : List Addr), PE (X.blk s H scope (compEnvC scope cl C X.env) fp) kx tk)
    (he : ∀ (s : Shared) (H : Hp) (C : Addr) (cl : List (Str × Addr)) (fp : List Addr), PE (X.blk s H scope (compEnvC scope cl C X.env) fp) vx tv) (hs : ∀ x, foldedSetIterable iter X.env x = pure x := by intro _; rfl) :
    PS X (.Assign [.Name y py] (.DictComp kx vx [⟨tg, iter, ifs, 0⟩] scope pos) spos) (tAsg (tDc wi g tt tk tv (own.map (·.2))) (gName i)) := by
  refine ⟨fun pins s σ H E I h => ?_⟩
  rw [exec_Assign_Name_used _ _ _ _ hsw]
  refine wpAny_bind (wpAny_standAt (wpAny_bind ?_))
  refine wpAny_bind (thn (dc_core (use := some (assign (.Name y py) X.env)) (Qf := fun _ s' => SP X pins E .next s') hc hN I hi ok hg ht hk he hs (show tDc wi g tt tk tv (own.map (·.2)) σ H (fun x H1 => gName i x σ H1 E.nx) from h) fun L C s' m H' I' q hn f => ?_) fun _ s' hq => wpAny_pure (wpAny_pure hq))
  refine wpAny_assign_Name (store_ok2 (v := V.ref L) I' hN hy (.inl hyl) rfl (fun s2 I2 ⟨a, sb, ha⟩ => ?_) (.inr hyl))
  obtain ⟨f0, f1, f2, f3, f4, f5⟩ := f
  have ne : C ≠ a := ha.elim (fun z => by rw [z]; exact f1) fun z e => f4 y a z e.symm
  exact ⟨m, hn.sameBut sb ne, fun h3 sb3 => ⟨_, H', I2.turned (t' := s2.toks) (fun b o hb e => (sb3.2 b hb).trans e) f0 f1 f3 f4 f5, q⟩⟩
end
/-! ### isinstance of what stands for a document -/
theorem tyx_dk {K : PySem.W.Frag} {H : Hp} {a : Addr} {kvs : List (Key × V)} (r : Rd H a (.dK kvs)) : TyX K H (.ref a) (.type "dict") := by
  rcases r with r | ⟨o, r⟩
  · exact .base (.dK r)
  · exact .fDict r
theorem tyx_ls {K : PySem.W.Frag} {H : Hp} {a : Addr} {xs : List V} (r : Rd H a (.lst xs)) : TyX K H (.ref a) (.type "list") := by
  rcases r with r | ⟨o, r⟩
  · exact .base (.lst r)
  · exact .base (.frz r)
theorem tyx_sc {K : PySem.W.Frag} {H : Hp} {v : V} (h : isSc v = true) : ∃ t, (t = "NoneType" ∨ t = "int" ∨ t = "str") ∧ TyX K H v (.type t) := by
  cases v <;> first | cases h | skip
  · exact ⟨_, .inl rfl, .base .non⟩
  · exact ⟨_, .inr (.inl rfl), .base (.int _)⟩
  · exact ⟨_, .inr (.inr rfl), .base (.str _)⟩
def D.isOb : D → Bool
  | .ob _ => true
  | _ => false
def D.isLs : D → Bool
  | .ls _ => true
  | _ => false
theorem isiD {S : Addr → Prop} {G : Gen} {H : Hp} {n : Nat} {v : V} {d : D} (K : PySem.W.Frag) (h : Dc S G H n v d) : ∃ t, TyX K H v t ∧ PySem.W.kitOne K t (.type "dict") = some d.isOb := by
  refine h.cases (fun m _ hs e => ?_) (fun m a xs _ e _ r _ e' => ?_) (fun m a ms f _ e _ r _ e' => ?_)
  · subst e
    obtain ⟨t, ht, ty⟩ := tyx_sc (K := K) (H := H) (G.sc _ hs)
    refine ⟨_, ty, kit_ty (r := false) ?_⟩
    rcases ht with rfl | rfl | rfl <;> decide +kernel
  · subst e; subst e'
    exact ⟨_, tyx_ls (.inl r), kit_ty (r := false) (by decide +kernel)⟩
  · subst e; subst e'
    exact ⟨_, tyx_dk (.inl r), kit_ty (r := true) (by decide +kernel)⟩
theorem isiL {S : Addr → Prop} {G : Gen} {H : Hp} {n : Nat} {v : V} {d : D} (K : PySem.W.Frag) (h : Dc S G H n v d) : ∃ t, TyX K H v t ∧ PySem.W.kitOne K t (.type "list") = some d.isLs := by
  refine h.cases (fun m _ hs e => ?_) (fun m a xs _ e _ r _ e' => ?_) (fun m a ms f _ e _ r _ e' => ?_)
  · subst e
    obtain ⟨t, ht, ty⟩ := tyx_sc (K := K) (H := H) (G.sc _ hs)
    refine ⟨_, ty, kit_ty (r := false) ?_⟩
    rcases ht with rfl | rfl | rfl <;> decide +kernel
  · subst e; subst e'
    exact ⟨_, tyx_ls (.inl r), kit_ty (r := true) (by decide +kernel)⟩
  · subst e; subst e'
    exact ⟨_, tyx_dk (.inl r), kit_ty (r := false) (by decide +kernel)⟩
theorem t_yes {σ : L2.St} {H : Hp} {A B : Hp → Prop} (h : A H) : tYes σ H (fun b H3 => if b = true then A H3 else B H3) := by
  show (if true = true then A H else B H)
  rw [if_pos rfl]
  exact h
/-- d if isinstance(d, dict) else {} -/
theorem t_dictor [TabL] {K : PySem.W.Frag} {S : Addr → Prop} {G : Gen} {H : Hp} {n : Nat} {v : V} {d : D} {i : Nat} {σ : L2.St} {Q : VK} (hσ : σ[i]? = some (some v)) (hv : Dc S G H (n + 1) v d)
    (h : ∀ a1 ms1 St H1, Ex H H1 → H1 a1 = some (.dK (kvsOf ms1)) → St a1 → Mem St G H1 n ms1 d.tgt → (∀ x, St x → (S x ∧ H x ≠ none) ∨ H x = none) → (∀ x, St x → H1 x ≠ none) → Q (.ref a1) H1) :
    tIf (tB (tCB (rIsi K) (tCons (tVar i) (tCons (tC (.ty "dict")) tNil)))) (tVar i) tDNewK σ H Q := by
  obtain ⟨t1, ty1, kit1⟩ := isiD K hv
  refine ⟨v, hσ, v, .ty "dict", t1, _, _, rfl, .ty _, ty1, kit1, _, rfl, ?_⟩
  have none_way : d.isOb = false → d.tgt = (fun _ => .nil) → (if d.isOb = true then tVar i σ H Q else tDNewK σ H Q) := fun e e2 => by
    rw [e]
    refine iteF fun p hp => ?_
    exact h p [] (fun x => x = p) _ (Ex.new hp) upd_same rfl (by rw [e2]; exact Mem.nil) (fun x hx => .inr (by rw [hx]; exact hp)) fun x hx => by rw [hx, upd_same]; exact fun z => nomatch z
  refine hv.cases (fun m _ _ e => ?_) (fun m a xs _ _ _ _ _ e => ?_) (fun m a ms f em ev hS r M e => ?_)
  · exact none_way (by rw [e]; rfl) (by rw [e]; rfl)
  · exact none_way (by rw [e]; rfl) (by rw [e]; rfl)
  · subst e; subst ev; cases em
    refine iteT ⟨_, hσ, ?_⟩
    exact h a ms (fun x => S x ∧ H x ≠ none) H (Ex.refl H) r ⟨hS, by rw [r]; exact fun z => nomatch z⟩ ⟨M.nd, M.ks, M.no, fun k u hu => (M.at' k u hu).alloc⟩ (fun x hx => .inl hx) fun x hx => hx.2
theorem ifT {c : Bool} {A B : Prop} (hc : c = true) (h : A) : if c = true then A else B := by
  rw [if_pos hc]
  exact h
theorem ifF {c : Bool} {A B : Prop} (hc : c = false) (h : B) : if c = true then A else B := by
  rw [hc, if_neg Bool.false_ne_true]
  exact h
/-- what every heap knows of its dicts -/
def tKnow (t : TE) : TE := fun σ H Q => t σ H fun v H' => (∀ a kvs, H' a = some (.dK kvs) → a ≠ sysModules) → Q v H'
theorem pe_know {X : Cx} {e : Expr} {t : TE} (h : PE X e t) : PE X e (tKnow t) := by
  refine ⟨fun pins s σ H Q I hw => thn (h.run pins s σ H _ I hw) fun u s1 ⟨v, H', I', rv, q⟩ => ⟨v, H', I', rv, q fun a kvs e z => ?_⟩⟩
  obtain ⟨_, z', _⟩ := (show ObjOk X.prog X.w H' s1.heap a (.dK kvs) from I'.hok a _ e)
  rw [z] at z'
  simp at z'
theorem pairs_map {α β : Type} {F G : α → β → Prop} : ∀ {xs : List α} {ys : List β}, Paired F xs ys → (∀ a b, a ∈ xs → F a b → G a b) → Paired G xs ys
  | _, _, .nil, _ => .nil
  | _, _, .cons h t, f => .cons (f _ _ List.mem_cons_self h) (pairs_map t fun a b ha => f a b (List.mem_cons_of_mem _ ha))
theorem pairs_at {α β : Type} {F : α → β → Prop} {x : α} : ∀ {xs : List α} {ys : List β}, Paired F xs ys → x ∈ xs → ∃ y, F x y
  | _, _, .nil, h => nomatch h
  | _, _, .cons h t, hx => (List.mem_cons.mp hx).elim (fun e => ⟨_, by rw [e]; exact h⟩) fun hx => pairs_at t hx
end TP

namespace TP
open PySem PySem.Spec PyProof.Rows L2
/-! ### operators that a class of the program defines -/
def rAddOwn (C : Addr) (sp : Sp) (E : XK) : R2 := fun x y H Q => ∃ a dx fs b dy gs, x = .ref a ∧ y = .ref b ∧ H a = some (.ins C dx fs) ∧ H b = some (.ins C dy gs) ∧ sp [x, y] H (fun v H' => (∃ r, v = .ref r) ∧ Q v H') E
theorem inst_at {X : Cx} {pins : List (Addr × Obj)} {σ : L2.St} {H : Hp} {s : Shared} {a C dx : Addr} {fs : List (Str × V)} (I : Inv X pins σ H s) (h : H a = some (.ins C dx fs)) : ∃ od, PySem.W.InstAt s.heap a (PySem.W.instObj C dx) C (some od) := by
  have o := I.hok a _ h
  simp only [ObjOk] at o
  obtain ⟨_, _, _, o1, mA, o2, _⟩ := o
  obtain ⟨od, ho⟩ : ∃ od, s.heap.get? dx = some od := by
    obtain ⟨y, hy⟩ := I.hok dx _ (by assumption)
    exact ⟨y, hy⟩
  exact ⟨od, ⟨o1, rfl, rfl, ho⟩⟩
theorem op_addOwn {X : Cx} {CX : CXT} {k : Nat} {f C : Addr} {fd : FuncData} {sp : Sp} {E : XK} {ps : List Str}
    (G : FnOk X.prog X.w X.K X.mg X.base CX k f fd ps sp) (hr : Room k X.A) (b : Binds X.K fd ps []) (px : Passes CX X E)
    (sf : PySem.W.selfFirst X.K C = true) (hf : PySem.W.findIn X.K (.ref C) (PySem.dunder "add") = some (some (.ref f))) (fn : PySem.W.isFn X.K (.ref f) = true) :
    OpR X (binaryOp .Add) (rAddOwn C sp E) := by
  intro pins s σ H x y v u Q I rx ry h
  obtain ⟨a, dx, fs, b', dy, gs, rfl, rfl, ha, hb, hs⟩ := h
  cases (show v = Value.ref a from rx)
  cases (show u = Value.ref b' from ry)
  obtain ⟨m, fr⟩ := I.fr
  obtain ⟨oa, ia⟩ := inst_at I ha
  obtain ⟨ob, ib⟩ := inst_at I hb
  refine PySem.W.binop_K fr I.ok.mod.1 ia ib.type sf hf fn ?_
  refine PySem.wpAny_mono (run_fn (vs := [.ref a, .ref b']) (dvs := []) (ds := []) G hr b .nil px I (.cons rx (.cons ry .nil)) (by simpa using hs)) ?_ (fun _ _ z => z)
  rintro v s1 ⟨v', H', I', rv, ⟨r, rfl⟩, q⟩
  cases (show v = Value.ref r from rv)
  exact ⟨_, _, I', rv, q⟩
/-! ### lambda pair: pair[0] -/
abbrev lamPs (p : Pos) : Arguments := { posonlyargs := [], args := [{ arg := "pair", annotation := none, pos := p : PySem.Arg }], vararg := none, kwonlyargs := [], kw_defaults := [], kwarg := none, defaults := [] : PySem.Arguments }
abbrev lamB (p q r : Pos) : Expr := .Subscript (.Name "pair" p) (.Constant (.int 0) 0 q) r
abbrev lamSc : Scope := { kind := PySem.ScopeKind.function, names := [(PySem.Str.ofString "pair", PySem.NameKind.local)], isGenerator := false, isCoroutine := false, more := [] : PySem.Scope }
theorem lam_first {prog : Program} {w : World} {A : Around} {h : Heap} {g : Array GenState} {dr : Drawn} {tk : Nat} {os : OsState} {f p c' : Addr} {nm qual k : Str} {t : Tok} {us : List Value} {pm ctv : Value} {p0 p1 p2 p3 : Pos}
    (hd : A.depth < recursionLimit) (hf : h.get? f = some (PySem.W.kla_obj nm qual (lamPs p0) (lamB p1 p2 p3) lamSc [] pm c' ctv)) (hc : h.CodeRec (.ref c') qual) (nl : h.NoLimit) (ht : IsTup h p (Value.str k t :: us).toArray) :
    wpAny (model prog w) A (call (.ref f) [.ref p]) (PySem.W.KeyPure (.str k) ⟨h, g, dr, tk, os⟩) (fun _ _ => False) ⟨h, g, dr, tk, os⟩ := by
  refine PySem.wpAny_call (PySem.W.kla_callFunE hd hf rfl rfl rfl rfl hc ?_)
  have hb : bindArgs (PySem.W.kla_fn nm qual (lamPs p0) (lamB p1 p2 p3) lamSc [] pm (Value.ref c') ctv) { pos := [.ref p] } = pure [(("pair" : Str), Value.ref p)] := by
    rfl
  rw [hb]
  refine PySem.wpAny_pure (PySem.wpAny_newFunctionEnv ?_ ?_ fun h' ns sb => ⟨nl.fresh _ sb, ?_⟩)
  · intro x hx
    simp at hx
    subst hx
    exact fun z => nomatch z
  · intro x hx
    simp at hx
    subst hx
    rfl
  have keep : ∀ (b : Addr) (o : Obj), h.get? b = some o → h'.get? b = some o := fun b o hb => by
    have lt := PySem.Heap.lt_size hb
    rw [sb.2 b (Nat.ne_of_lt lt)]
    exact PySem.Heap.get?_push_of_some _ hb
  refine PySem.W.kla_codeExpr (PyProof.Rows.Subscript_ (PyProof.Rows.ldG (v := .ref p) ns rfl (PySem.wpAny_Constant_int ?_)))
  obtain ⟨o, ho, oc, n, od⟩ := ht
  refine PyProof.Rows.item_tupleL (l := Value.str k t :: us) (j := 0) ⟨o, keep p o ho, oc, n, od⟩ (by decide) (by decide) (by simp [seqIndex?]) rfl ?_
  refine ⟨h', _, rfl, keep, ?_⟩
  exact .str _ _
/-- the lambda is made: a code object more in the table at P, at the first time -/
theorem lam_make3 [TabL] {X : Cx} {pins : List (Addr × Obj)} {σ : L2.St} {H : Hp} {s : Shared} {c P : Addr} {p0 p1 p2 p3 pos : Pos} {E Q : Value → Shared → Prop}
    (I : Inv X pins σ H s) (TB : LamX.TabB X.base X.mg c P) (hc : X.env.code = .ref c) (hR : TabL.R P (X.env.qual ++ Str.ofString "<lambda>")) (tb : LamX.TabS H P (X.env.qual ++ Str.ofString "<lambda>"))
    (k : ∀ f c' pm ctv H1 s', Inv X pins σ H1 s' → Ex H H1 → s'.heap.get? f = some (PySem.W.kla_obj "<lambda>" (X.env.qual ++ Str.ofString "<lambda>") (lamPs p0) (lamB p1 p2 p3) lamSc [] pm c' ctv) → s'.heap.CodeRec (.ref c') (X.env.qual ++ Str.ofString "<lambda>") → Q (.ref f) s') :
    wpAny (model X.prog X.w) X.A (eval (.Lambda (lamPs p0) (lamB p1 p2 p3) lamSc pos) X.env) Q E s := by
  obtain ⟨ps, hP, tri, hq⟩ := tb
  have oP := I.hok P _ hP
  simp only [ObjOk] at oP
  have keep := I.bk
  have hcl : closureFor lamSc X.env = pure [] := by rfl
  refine PySem.W.kla_eval rfl ?_
  have hd := TB.code.keeps keep
  have bm := TB.bm.keeps keep
  have ns : s.heap.Ns mainGlobals X.mg := I.ok.mod.glob.keeps keep
  cases e : codeAmong pos ps.toList with
  | none =>
    refine PySem.W.kla_makeFunction hcl I.ok.glob ns hc hd oP tri e TB.gP bm fun c' ctv h' tk eb lc lc2 cr hP' => ?_
    have Pne : P ≠ c' := fun z => by
      have := PySem.Heap.lt_size oP
      rw [z] at this
      exact Nat.lt_irrefl _ (Nat.lt_of_lt_of_le this lc)
    have new : ∀ b, s.heap.objs.size ≤ b → H b = none := fun b hb => by
      cases z : H b with
      | none => rfl
      | some o => exact absurd ((I.hok b _ z).lt) (Nat.not_lt.mpr hb)
    obtain ⟨c2, oc, vs, t, ce, g1, g2, g3⟩ := cr
    cases ce
    have I2 := LamX.inv_table (t' := tk) (q := X.env.qual ++ Str.ofString "<lambda>") (h' := h'.push (PySem.W.kla_obj "<lambda>" (X.env.qual ++ Str.ofString "<lambda>") (lamPs p0) (lamB p1 p2 p3) lamSc [] ((X.mg (Str.ofString "__name__")).getD Value.none) c' ctv)) I hP (fun b o n h => PySem.Heap.get?_push_of_some _ (eb b o n h)) (PySem.Heap.get?_push_of_some _ hP') lc ⟨oc, vs, t, PySem.Heap.get?_push_of_some _ g1, g2, g3⟩
    refine k _ c' _ ctv _ _ I2 ⟨fun b o hb z => ?_, fun b hb => ?_, fun b q r t => ?_⟩ (PySem.Heap.get?_push_size _ rfl) ⟨c', oc, vs, t, rfl, PySem.Heap.get?_push_of_some _ g1, g2, g3⟩
    · rw [upd_ne (ne_of_none hb (new c' lc)), upd_ne (fun y => by rw [y, hP] at hb; cases hb; cases z)]
      exact hb
    · by_cases y : b = c'
      · rw [y, upd_same]
        exact fun z => nomatch z
      · rw [upd_ne y]
        by_cases y2 : b = P
        · rw [y2, upd_same]
          exact fun z => nomatch z
        · rw [upd_ne y2]
          exact hb
    · obtain ⟨ps', t1, t2, t3⟩ := t
      by_cases y : b = P
      · subst y
        rw [hP] at t1
        cases t1
        have hqq := TabL.one _ _ _ r hR
        subst hqq
        refine ⟨ps ++ #[rawInt ↑pos.line, rawInt ↑pos.col, Value.ref c'], by rw [upd_ne Pne, upd_same], ?_, fun pos' cv hcv => ?_⟩
        · rw [Array.toList_append]
          exact PySem.TriplesOk_snoc _ _ _ _ t2
        · rw [Array.toList_append] at hcv
          rcases LamX.among_app _ t2 hcv with h | h
          · obtain ⟨d, e1, e2⟩ := t3 pos' cv h
            refine ⟨d, e1, ?_⟩
            rw [upd_ne (ne_of_none e2 (new c' lc)), upd_ne (fun z => by rw [z, hP] at e2; cases e2)]
            exact e2
          · exact ⟨c', h, upd_same⟩
      · refine ⟨ps', by rw [upd_ne (ne_of_none t1 (new c' lc)), upd_ne y]; exact t1, t2, fun pos' cv h => ?_⟩
        obtain ⟨d, e1, e2⟩ := t3 pos' cv h
        refine ⟨d, e1, ?_⟩
        rw [upd_ne (ne_of_none e2 (new c' lc)), upd_ne (fun z => by rw [z, hP] at e2; cases e2)]
        exact e2
  | some cv =>
    obtain ⟨c', rfl, hc'⟩ := hq pos cv e
    refine PySem.W.kla_makeFunctionHit hcl I.ok.glob ns hc hd oP tri e bm fun ctv h' tk ex sz => ?_
    have ex2 : ∀ (b : Addr) (o : Obj), s.heap.get? b = some o → (h'.push (PySem.W.kla_obj "<lambda>" (X.env.qual ++ Str.ofString "<lambda>") (lamPs p0) (lamB p1 p2 p3) lamSc [] ((X.mg (Str.ofString "__name__")).getD Value.none) c' ctv)).get? b = some o := fun b o h => PySem.Heap.get?_push_of_some _ (ex b o h)
    refine k _ c' _ ctv H _ (I.kept ex2) (Ex.refl H) (PySem.Heap.get?_push_size _ rfl) ?_
    have oc := I.hok c' _ hc'
    simp only [LamX.CodeO, ObjOk] at oc
    obtain ⟨⟨o1, vs, t, g1, g2, g3⟩, _⟩ := oc
    exact ⟨c', o1, vs, t, rfl, ex2 _ _ g1, g2, g3⟩
/-- sorted(e, key=lambda pair: pair[0]), of a list of pairs that begin with a text -/
abbrev Bs : Type := Addr × Str × V
abbrev bkey : Bs → PyData := fun b => .str b.2.1
def sortB (bs : List Bs) : List Bs := bs.mergeSort (PySem.W.dataLe false bkey)
def tSortL [TabL] (P : Addr) (q : Str) (t : TA) : TE := fun σ H Q => t σ H fun xs H1 => ∃ (a : Addr) (bs : List Bs), xs = [.ref a] ∧ H1 a = some (.lst (bs.map fun b => V.ref b.1)) ∧ (∀ b ∈ bs, H1 b.1 = some (.tup [.str b.2.1, b.2.2])) ∧ LamX.TabS H1 P q ∧
  ∀ H2 D, Ex H1 H2 → H2 D = none → Q (.ref D) (upd H2 D (.lst ((sortB bs).map fun b => V.ref b.1)))
theorem each_of {H : Hp} {bs : List Bs} {its : List Value} {R : Value → Bs → Prop} (h : Vals (bs.map fun b => V.ref b.1) its) (r : ∀ b ∈ bs, R (.ref b.1) b) : PySem.W.EachIs R its bs := by
  induction bs generalizing its with
  | nil => cases h; exact .nil
  | cons b bs ih =>
    cases h with
    | cons a c =>
      cases (show _ = Value.ref b.1 from a)
      exact .cons (r b List.mem_cons_self) (ih c fun x hx => r x (List.mem_cons_of_mem _ hx))
theorem vals_of {bs : List Bs} {its : List Value} {R : Value → Bs → Prop} (h : PySem.W.EachIs R its bs) (r : ∀ v b, R v b → v = .ref b.1) : Vals (bs.map fun b => V.ref b.1) its := by
  induction h with
  | nil => exact .nil
  | cons a _ ih => exact .cons (r _ _ a) ih
theorem pe_sortL [TabL] {X : Cx} {c P : Addr} {e : Expr} {t : TA} {p0 p1 p2 p3 p4 p5 p6 p7 : Pos}
    (he : PA X [e] t) (hg : Gl X "sorted") (hm : X.mg "sorted" = none) (hb : PySem.bootBuiltins "sorted" = some (.builtin "sorted"))
    (TB : LamX.TabB X.base X.mg c P) (hc : X.env.code = .ref c) (hR : TabL.R P (X.env.qual ++ Str.ofString "<lambda>")) (hr : Room 1 X.A)
    (a1 : backTo p7 (starEach [e] X.env) = (false, eval e X.env) :: backTo p7 (starEach [] X.env) := by rfl)
    (a2 : ((backTo p7 (starEach [e] X.env)).any fun x => x.1) = false := by rfl) :
    PE X (.Call (.Name "sorted" p0) [e] [{ arg := some "key", value := .Lambda (lamPs p1) (lamB p2 p3 p4) lamSc p5, pos := p6 }] p7) (tSortL P (X.env.qual ++ Str.ofString "<lambda>") t) := by
  refine ⟨fun pins s σ H Q I h => ?_⟩
  refine PySem.wpAny_Call_ofName (ld_blt I hg hm hb ?_)
  refine PyProof.Rows.callWith_kw (PySem.wpAny_mono (he.run p7 pins s σ H _ I h) ?_ fun _ _ z => z) a1 a2 rfl rfl
  rintro us s1 ⟨vs, H1, I1, rv, a, bs, rfl, ha, hbs, tb, k⟩
  cases rv with
  | cons ra rn =>
  cases rn
  cases (show _ = Value.ref a from ra)
  refine PyProof.Rows.kws_cons (lam_make3 I1 TB hc hR tb fun f c' pm ctv H2 s2 I2 ex hf cr => PyProof.Rows.kws_nil ?_)
  obtain ⟨its, rits, ⟨o, n, ho, oc, _, od⟩, hl⟩ := I2.list (.inl (.inl (ex a _ ha)))
  show wpAny _ _ (call (Value.builtin "sorted") [Value.ref a] [("key", Value.ref f)]) _ _ _
  refine PySem.W.sorted_key_data (bs := bs) (vs := its) (R := fun v b => v = .ref b.1 ∧ ∃ k t us, k = b.2.1 ∧ IsTup s2.heap b.1 (Value.str k t :: us).toArray) (b := false) bkey ⟨o, ho, oc, n, od⟩ (each_of (H := H2) rits fun b hb => ⟨rfl, ?_⟩) ?_ ?_ (by simpa using hl) ?_ (PyProof.Rows.ksk_s1 _ _) (fun x => PyProof.Rows.ksk_l1 _ _) (fun x => PyProof.Rows.ksk_t1 _ _) ?_ ?_
  · obtain ⟨jts, rj, tj, _⟩ := I2.tuple (.inl (.inl (ex b.1 _ (hbs b hb))))
    cases rj with
    | cons r1 r2 =>
    obtain ⟨t, rfl⟩ := (show ∃ t, _ = Value.str b.2.1 t from r1)
    exact ⟨_, t, _, rfl, tj⟩
  · intro d hd d' hd'
    obtain ⟨b, _, rfl⟩ := List.mem_map.mp hd
    obtain ⟨b', _, rfl⟩ := List.mem_map.mp hd'
    rfl
  · refine .inr fun d hd => ?_
    obtain ⟨b, _, rfl⟩ := List.mem_map.mp hd
    exact ⟨(fun z => nomatch z), fun xs z => nomatch z⟩
  · intro b hb
    have := hr.un
    show X.A.units + 2 + 0 < cLine
    omega
  · rintro v b ⟨rfl, k, t, us, rfl, ht⟩ hb h tk hx
    refine lam_first (t := t) (us := us) ?_ (hx _ _ hf) (cr.keeps hx) (I2.nolimit.at fun o z => hx _ o z) ?_
    · have := hr.dp
      show X.A.depth < recursionLimit
      omega
    · obtain ⟨o, h1, h2⟩ := ht
      exact ⟨o, hx _ _ h1, h2⟩
  · intro out c2 h' tk hx hn hl' hlen he'
    refine ⟨.ref _, _, I2.laid (a := s2.heap.objs.size + 1) (o := .lst ((sortB bs).map fun b => V.ref b.1)) hx (Nat.le_succ _) ?_, rfl, ?_⟩
    · simp only [ObjOk]
      refine ⟨?_, out, c2, vals_of he' fun v b z => z.1, hl'⟩
      unfold sortB
      rw [List.length_map, List.length_mergeSort]
      simpa using hl
    · refine k H2 _ ex ?_
      cases z : H2 (s2.heap.objs.size + 1) with
      | none => rfl
      | some o => exact absurd (I2.hok _ _ z).lt (Nat.not_lt.mpr (Nat.le_succ _))
end TP

namespace TP
open PySem PySem.Spec PyProof.Rows L2
/-! ### an object is called -/
def tInst (C : Addr) (sp : Sp) (E : XK) (t : TE) (i : Nat) : TE := fun σ H Q => t σ H fun y H1 => ∃ a dx fs v, y = .ref a ∧ H1 a = some (.ins C dx fs) ∧ σ[i]? = some (some v) ∧ sp [y, v] H1 Q E
theorem pe_inst {X : Cx} {CX : CXT} {k i : Nat} {f C : Addr} {fd : FuncData} {sp : Sp} {E : XK} {ps : List Str} {fe : Expr} {x : Str} {p pos : Pos} {t : TE}
    (hf : PE X fe t) (G : FnOk X.prog X.w X.K X.mg X.base CX k f fd ps sp) (hr : Room k X.A) (b : Binds X.K fd ps []) (px : Passes CX X E)
    (fc : PySem.W.findIn X.K (.ref C) "__call__" = some (some (.ref f))) (fn : PySem.W.isFn X.K (.ref f) = true) (fi : PySem.W.fnIn X.K f = true)
    (hx : X.N[i]? = some x) (hk : List.lookup x X.env.scope.names = some .local) (hv : Vis X.env.scope x)
    (nd : (x == Str.ofString "__debug__") = false := by rfl)
    (ev : eval (.Call fe [.Name x p] [] pos) X.env = (do
          let f ← eval fe X.env
          callWith pos f [] (backTo pos (starEach [.Name x p] X.env)) (backToKw pos (keywordEach [] X.env))) := by rfl) :
    PE X (.Call fe [.Name x p] [] pos) (tInst C sp E t i) := by
  refine ⟨fun pins s σ H Q I h => PyProof.Rows.Call_ (PySem.wpAny_mono (hf.run pins s σ H _ I h) ?_ fun _ _ z => z) ev⟩
  rintro u s1 ⟨y, H1, I1, ry, a, dx, fs, v, rfl, ha, hσ, hs⟩
  cases (show u = Value.ref a from ry)
  obtain ⟨oa, ia⟩ := inst_at I1 ha
  obtain ⟨m, ns, hm⟩ := I1.loc
  obtain ⟨w, rw', lk⟩ := hm i x v hx hσ hv
  have hmx : m x = some w := by
    rcases lk with ⟨_, z⟩ | ⟨z, _⟩
    · exact z
    · rw [show X.env.kindOf x = some .local from hk] at z
      rcases z with z | z <;> cases z
  refine PySem.W.kco_callWith I1.kIn ia rfl fc (PyProof.Rows.spliced_more (PyProof.Rows.ldG ns hmx (PyProof.Rows.spliced_none ⟨⟨I1.kIn, ia⟩, ?_⟩) I1.ok.kind hk nd))
  refine PySem.wpAny_call (PySem.W.kco_code I1.kIn ia rfl fc fn fi (PySem.codeAny_mono (G.run X.A X.stack s1 H1 ⟨[.ref a, w], []⟩ [.ref a, w] [.ref a, v] Q E hr I1.env0 ?_ (.cons ry (.cons rw' .nil)) hs) ?_))
  · have := G.len _ _ _ _ hs
    exact b s1 [.ref a, w] I1.kIn (by simpa using this)
  · rintro r s2 h
    match r, h with
    | .ok (.ret u), ⟨v2, H2, os, bare, un, hok, rv, q⟩ =>
      refine ⟨v2, H2, ?_, rv, q⟩
      have := I1.call (t' := s2.toks) (d' := s2.drawn) un hok bare fun b hb => nomatch hb
      rw [← os] at this
      exact this
    | .error e, h => exact px pins σ H1 s1 e s2 I1 h
end TP

namespace TP
open PySem PySem.Spec PyProof.Rows L2
def topS (i : Nat) : Stmt := PySem.Challenge.pw_twopatches_k30_rows_that_do_the_same.main.body.getD i (.Pass ⟨0, 0, 0, 0⟩)
abbrev sCopied : Stmt := topS 10
/-- a def of the text, as the top has left it -/
structure Df (K : PySem.W.Frag) (mg : Str → Option Value) (x : Str) (st : Stmt) (ps : List Str) (f : Addr) (fd : FuncData) : Prop where
  F : Fun K x x st f fd
  m : mg x = some (.ref f)
  b : Binds K fd ps []
/-- the built-in names are the built-in things -/
def Bi (mg : Str → Option Value) : Prop := ∀ x ∈ (["isinstance", "dict", "list", "int", "str", "bool", "sorted", "sum", "max", "all", "len", "range", "abs", "repr", "tuple"] : List Str), mg x = none
theorem Bi.of {mg : Str → Option Value} (h : Bi mg) (x : Str) (hx : x ∈ (["isinstance", "dict", "list", "int", "str", "bool", "sorted", "sum", "max", "all", "len", "range", "abs", "repr", "tuple"] : List Str) := by decide +kernel) : mg x = none := h x hx
/-- new since H -/
abbrev Nw (H : Hp) : Addr → Prop := fun a => H a = none
theorem Nw.ex [TabL] {H H' : Hp} (e : Ex H H') {a : Addr} (h : Nw H' a) : Nw H a := fresh_back e h
section
variable [TabL] {P : Program} {w : World} {K : PySem.W.Frag} {mg : Str → Option Value} {base : Heap}
theorem fn_zero {k : Nat} {f : Addr} {fd : FuncData} {ps : List Str} {sp : Sp} (h : ∀ vs H Q E, ¬ sp vs H Q E) : FnOk P w K mg base CX0 k f fd ps sp :=
  ⟨fun vs H Q E z => (h _ _ _ _ z).elim, fun _ _ _ _ _ _ _ _ _ _ _ _ _ z => (h _ _ _ _ z).elim⟩
/-! ### copied -/
def spPatched (G : Gen) (n : Nat) : Sp := fun vs H Q _ => ∃ (S1 S2 : Addr → Prop) (v1 v2 : V) (d p : D), vs = [v1, v2] ∧ Dc S1 G H n v1 d ∧ Dc S2 G H n v2 p ∧ (∀ x, S1 x → S2 x → False) ∧ ∀ r H', Ex H H' → Dc (Nw H) G H' n r (d.app p) → Q r H'
def spCopied (G : Gen) (n : Nat) : Sp := fun vs H Q _ => ∃ (S : Addr → Prop) (v : V) (d : D), vs = [v] ∧ Dc S G H n v d ∧ ∀ r H', Ex H H' → Dc (Nw H) G H' n r d → Q r H'
theorem scCopied : FnScope ["document", "key"] ["document"] (defScope sCopied) := ⟨rfl, rfl, rfl, by decide +kernel, rfl, by decide +kernel, by decide +kernel⟩
theorem sizeK {G : Gen} (h : G.KS.length ≤ 5000) {S H n ms f} (m : Mem S G H n ms f) : (kvsOf ms).length < sizeLine := by
  have := m.len
  rw [List.length_map]
  exact Nat.lt_of_le_of_lt (show _ ≤ 5000 by omega) (by decide)
theorem ok_copied {f : Addr} {fd : FuncData} (Dd : Df K mg "copied" sCopied ["document"] f fd) (T : Bi mg) {G : Gen} (hG : G.KS.length ≤ 5000) : ∀ n, FnOk P w K mg base CX0 n f fd ["document"] (spCopied G n)
  | 0 => fn_zero fun vs H Q E ⟨_, _, _, _, h, _⟩ => h
  | n + 1 => by
    have ih := ok_copied Dd T hG n
    refine Dd.F.ok scCopied (fun vs H Q E h => ?_) (fun cdv A outer s H vs Q E hr h => ?_)
    · obtain ⟨_, v, d, rfl, _⟩ := h
      rfl
    obtain ⟨S, v, d, rfl, hv, k⟩ := h
    have hu := hu_of hr
    refine ⟨_, pss_cons (ps_if (pt_val (pe_callB call_isi (by rfl) (T.of "isinstance") (by decide +kernel) (pa_cons (pv 0) (pa_cons (pe_bltn (v := .ty "dict") (by rfl) (T.of "dict") (by decide +kernel) rfl) pa_nil))))
        (pss_one (ps_ret (pe_lock (pe_dc (own := [("key", 1)]) (g := gName 1) (tt := tYes) rfl scCopied.nd (pi_keys (pv 0)) (blkOk_by (N := ["document", "key"]) (sc := defScope sCopied) (by decide +kernel)) (fun _ _ _ _ _ => pg_name (i := 1) scCopied.nd rfl (Or.inl rfl)) (fun _ _ _ _ _ => pts_nil)
          (fun _ _ _ _ _ => pv 1) (fun _ _ _ _ _ => pe_call ih hr rfl Dd.m Dd.F.kp Dd.b .nil pass0 (pa_cons (pe_dget hu (pv 0) (pv 1) (fun _ _ => rfl)) pa_nil)))))) pss_nil)
      (pss_cons (ps_if (pt_val (pe_callB call_isi (by rfl) (T.of "isinstance") (by decide +kernel) (pa_cons (pv 0) (pa_cons (pe_bltn (v := .ty "list") (by rfl) (T.of "list") (by decide +kernel) rfl) pa_nil))))
        (pss_one (ps_ret (pe_callTy call_list_of (by rfl) (T.of "list") (by decide +kernel) (pa_cons (pv 0) pa_nil)))) pss_nil)
      (pss_one (ps_ret (pv 0)))), ?_⟩
    obtain ⟨t1, ty1, kit1⟩ := isiD K hv
    obtain ⟨t2, ty2, kit2⟩ := isiL K hv
    refine ⟨v, rfl, v, .ty "dict", t1, _, _, rfl, .ty _, ty1, kit1, _, rfl, ?_⟩
    refine hv.cases (fun m e hs ed => ?_) (fun m a xs e ev hS r hx ed => ?_) (fun m a ms f e ev hS r M ed => ?_)
    · subst ed
      refine iteF ⟨v, rfl, v, .ty "list", t2, _, _, rfl, .ty _, ty2, kit2, _, rfl, iteF ⟨v, rfl, ?_⟩⟩
      exact k v H (Ex.refl H) (by cases e; exact Dc.sc hs)
    · subst ed; subst ev
      refine iteF ⟨_, rfl, .ref a, .ty "list", t2, _, _, rfl, .ty _, ty2, kit2, _, rfl, iteT ⟨_, rfl, a, xs, rfl, .inl (.inl (.inl r)), fun l hl => ?_⟩⟩
      exact k _ _ (Ex.new hl) (by cases e; exact Dc.ls hl upd_same hx)
    · subst ed; subst ev
      cases e
      refine iteT ⟨a, _, r, trivial, fun od => ?_⟩
      have M' := M.lock r hS (o := .frz od (.dK (kvsOf ms)))
      refine ⟨_, rfl, a, od, rfl, .inl ⟨_, upd_same, fun Da hD => ?_⟩⟩
      have hDa : Da ≠ a := fun z => by rw [z, upd_same] at hD; cases hD
      have hDH : H Da = none := by rw [upd_ne hDa] at hD; exact hD
      refine dc_keys (o := od) (d := a) (ms := ms) (fun i H2 => Ex (upd H a (.frz od (.dK (kvsOf ms)))) H2 ∧ ∃ ms2 f2, H2 Da = some (.dK (kvsOf ms2)) ∧ Mem (fun b => H b = none ∧ b ≠ Da) G H2 n ms2 f2 ∧ f2 = mix ms i f (fun _ => .nil)) ?_ ?_ ?_ ?_
      · exact ⟨Ex.new hD, [], fun _ => .nil, upd_same, Mem.nil, mix_zero.symm⟩
      · exact fun i H2 _ p => p.1 a _ upd_same
      · intro i key u H2 hi p
        obtain ⟨ex, ms2, f2, h2, M2, hf⟩ := p
        have hku : valV ms key = some u := valV_of_mem M.nd (List.mem_of_getElem? hi)
        refine ⟨rfl, ?_⟩
        refine t_yes ?_
        refine ⟨.str key, rfl, .ref a, rfl, .str key, rfl, a, u, rfl, .inl ⟨_, Sum.inr key, .inr ⟨od, ex a _ upd_same⟩, rfl, by rw [valV_inK]; exact hku.symm⟩, ?_⟩
        refine ⟨S, u, f key, rfl, (M'.at' key u hku).ex ex, fun z H5 ex5 hz => ?_⟩
        have h5 := ex5 Da _ h2
        have M5 := M2.ex ex5
        have nz : Dc (fun b => H b = none ∧ b ≠ Da) G H5 n z (f key) := hz.imp fun b hb => by
          have q := fresh_back ex hb
          by_cases zz : b = a
          · rw [zz, upd_same] at q; cases q
          · rw [upd_ne zz] at q
            exact ⟨q, (ne_of_none h2 hb).symm⟩
        refine ⟨kvsOf ms2, Sum.inr key, rfl, h5, sizeK hG M5, ?_, putK ms2 key z, D.fup f2 key (f key), by rw [upd_same, putK_inK], ?_, ?_⟩
        · exact Ex.mut (ex.trans ex5) hD h5
        · exact (M5.put (M.ks key (List.mem_map.mpr ⟨_, List.mem_of_getElem? hi, rfl⟩)) nz).off fun z => z.2 rfl
        · rw [hf]; exact mix_succ hi
      · intro H2 p
        obtain ⟨ex, ms2, f2, h2, M2, hf⟩ := p
        refine ⟨ex a _ upd_same, ?_⟩
        refine k _ _ (ex_unlock r ex) (Dc.ob hDH (by rw [upd_ne hDa]; exact h2) ?_)
        have e : f2 = f := by
          rw [hf]
          exact mix_all fun k hk => M.no k (valV_none_of hk)
        rw [← e]
        exact (M2.imp fun b hb => hb.1).off (fun z => by rw [show H a = none from z] at r; cases r)
end
end TP

namespace TP
open PySem PySem.Spec PyProof.Rows L2
abbrev sCheck : Stmt := topS 8
-- no sApplied
abbrev sDepth : Stmt := topS 11
abbrev sParts : Stmt := topS 12
abbrev sWrong : Stmt := topS 13
abbrev sIsAtom : Stmt := topS 14
abbrev sIsElem : Stmt := topS 15
section
variable [TabL] {P : Program} {w : World} {K : PySem.W.Frag} {mg : Str → Option Value} {base : Heap}
/-! ### is_element -/
def spElem : Sp := fun vs H Q _ => ∃ v, vs = [v] ∧ isSc v = true ∧ ∀ H', Ex H H' → Q (.bl true) H'
theorem scElem : FnScope ["value"] ["value"] (defScope sIsElem) := ⟨rfl, rfl, rfl, by decide +kernel, rfl, by decide +kernel, by decide +kernel⟩
theorem ok_elem {f : Addr} {fd : FuncData} (Dd : Df K mg "is_element" sIsElem ["value"] f fd) (T : Bi mg) : FnOk P w K mg base CX0 1 f fd ["value"] spElem := by
  refine Dd.F.ok scElem (fun vs H Q E h => ?_) (fun cdv A outer s H vs Q E hr h => ?_)
  · obtain ⟨v, rfl, _⟩ := h
    rfl
  obtain ⟨v, rfl, hv, k⟩ := h
  refine ⟨_, pss_one (ps_ret (pe_or (pe_cmpR op_isN (pv 0) pe_non (nomark _)) (pe_one (pe_and (pe_callB call_isiT (by rfl) (T.of "isinstance") (by decide +kernel) (pa_cons (pv 0) (pa_cons (pe_tup (pa_cons (pe_bltn (v := .ty "int") (by rfl) (T.of "int") (by decide +kernel) rfl) (pa_cons (pe_bltn (v := .ty "str") (by rfl) (T.of "str") (by decide +kernel) rfl) pa_nil))) pa_nil)))
    (pe_one (pe_not (pe_callB call_isi (by rfl) (T.of "isinstance") (by decide +kernel) (pa_cons (pv 0) (pa_cons (pe_bltn (v := .ty "bool") (by rfl) (T.of "bool") (by decide +kernel) rfl) pa_nil))))))))), ?_⟩
  refine ⟨v, rfl, rfl, _, rfl, ?_⟩
  have way : ∀ t : String, (∀ H', TyX K H' v (.type t)) → v ≠ .non → PySem.W.kitAny K (.type t) [.type "int", .type "str"] = some true → PySem.W.kitOne K (.type t) (.type "bool") = some false →
      tAndV (tCB (rIsiT K) (tCons (tVar 0) (tCons (tTup (tCons (tC (.ty "int")) (tCons (tC (.ty "str")) tNil))) tNil))) (tNotV (tCB (rIsi K) (tCons (tVar 0) (tCons (tC (.ty "bool")) tNil)))) (start ["value"] [v]) H Q := fun t ty _ ka kb =>
    ⟨v, rfl, (by show 2 ≤ sizeLine; decide), fun p hp => ⟨v, p, [.ty "int", .ty "str"], _, _, _, rfl, upd_same, .cons (.ty _) (.cons (.ty _) .nil), ty _, ka, _, rfl, iteT ⟨v, rfl, v, .ty "bool", _, _, _, rfl, .ty _, ty _, kb, _, rfl, k _ (Ex.new hp)⟩⟩⟩
  cases v <;> first | cases hv | skip
  · exact iteT (k H (Ex.refl H))
  · exact ifF rfl (way "int" (fun _ => .base (.int _)) (fun z => nomatch z) (kitAny_cons (b := true) (kit_ty (by decide +kernel)) (fun z => nomatch z) fun _ => rfl) (kit_ty (r := false) (by decide +kernel)))
  · exact ifF rfl (way "str" (fun _ => .base (.str _)) (fun z => nomatch z) (kitAny_cons (b := false) (kit_ty (by decide +kernel)) (fun _ => kitAny_cons (b := true) (kit_ty (by decide +kernel)) (fun z => nomatch z) fun _ => rfl) fun z => nomatch z) (kit_ty (r := false) (by decide +kernel)))
/-! ### is_atom -/
def spAtom (G : Gen) : Sp := fun vs H Q _ => ∃ (S : Addr → Prop) (n : Nat) (v : V) (d : D), vs = [v] ∧ Dc S G H n v d ∧ d.isOb = false ∧ ∀ H', Ex H H' → Q (.bl true) H'
theorem scAtom : FnScope ["value", "element"] ["value"] (defScope sIsAtom) := ⟨rfl, rfl, rfl, by decide +kernel, rfl, by decide +kernel, by decide +kernel⟩
theorem ok_atom {f fe : Addr} {fd fde : FuncData} (Dd : Df K mg "is_atom" sIsAtom ["value"] f fd) (De : Df K mg "is_element" sIsElem ["value"] fe fde) (T : Bi mg) {G : Gen} (hL : G.L ≤ 5000) : FnOk P w K mg base CX0 2 f fd ["value"] (spAtom G) := by
  have ge : FnOk P w K mg base CX0 1 fe fde ["value"] spElem := ok_elem De T
  refine Dd.F.ok scAtom (fun vs H Q E h => ?_) (fun cdv A outer s H vs Q E hr h => ?_)
  · obtain ⟨_, _, v, _, rfl, _⟩ := h
    rfl
  obtain ⟨S, n, v, d, rfl, hv, ho, k⟩ := h
  refine ⟨_, pss_cons (ps_if (pt_val (pe_callB call_isi (by rfl) (T.of "isinstance") (by decide +kernel) (pa_cons (pv 0) (pa_cons (pe_bltn (v := .ty "list") (by rfl) (T.of "list") (by decide +kernel) rfl) pa_nil))))
      (pss_one (ps_ret (pe_callB (cr_all rfl) (by rfl) (T.of "all") (by decide +kernel) (pa_cons (pe_lc (own := [("element", 1)]) (g := gName 1) (tt := tYes) rfl scAtom.nd (pi_list (pv 0)) (blkOk_by (N := ["value", "element"]) (sc := defScope sIsAtom) (by decide +kernel))
        (fun _ _ _ _ _ => pg_name (i := 1) scAtom.nd rfl (Or.inl rfl)) (fun _ _ _ _ _ => pts_nil) (fun _ _ _ _ _ => pe_call ge hr rfl De.m De.F.kp De.b .nil pass0 (pa_cons (pv 1) pa_nil))) pa_nil)))) pss_nil)
    (pss_one (ps_ret (pe_call ge hr rfl De.m De.F.kp De.b .nil pass0 (pa_cons (pv 0) pa_nil)))), ?_⟩
  obtain ⟨t1, ty1, kit1⟩ := isiL K hv
  refine ⟨v, rfl, v, .ty "list", t1, _, _, rfl, .ty _, ty1, kit1, _, rfl, ?_⟩
  refine hv.cases (fun m _ hs e => ?_) (fun m a xs _ ev hS r hx e => ?_) (fun m a ms g _ _ _ _ _ e => ?_)
  · subst e
    exact iteF ⟨v, rfl, v, rfl, G.sc _ hs, fun H' ex => k H' ex⟩
  · subst e; subst ev
    refine iteT ⟨_, rfl, a, rfl, ⟨_, .inl (.inl r)⟩, fun Da hD => ?_⟩
    refine lc_list (K := K) (a := a) (xs := xs) (fun i H2 => Ex H H2 ∧ H2 Da = some (.lst (List.replicate i (.bl true)))) ⟨Ex.new hD, upd_same⟩ (fun i H2 _ q => .inl (.inl (q.1 a _ r))) ?_ ?_
    · intro i x H2 hi q
      refine ⟨rfl, t_yes ?_⟩
      refine ⟨x, rfl, x, rfl, G.sc _ (hx.2 x (List.mem_of_getElem? hi)), fun H5 ex5 => ⟨_, ex5 Da _ q.2, ?_, Ex.mut (q.1.trans ex5) hD (ex5 Da _ q.2), ?_⟩⟩
      · have := (List.getElem?_eq_some_iff.mp hi).1
        rw [List.length_replicate]
        exact Nat.lt_of_le_of_lt (show i ≤ 5000 by omega) (by decide)
      · rw [upd_same, List.replicate_succ']
    · intro H2 q
      refine ⟨Da, List.replicate xs.length true, rfl, .inl (.inl (by rw [q.2, List.map_replicate])), ?_⟩
      rw [show (List.replicate xs.length true).all id = true by simp]
      exact k H2 q.1
  · subst e
    cases ho
/-! ### wrong_path -/
def spWrong (G : Gen) (n : Nat) : Sp := fun vs H Q _ => ∃ (S : Addr → Prop) (v : V) (d : D), vs = [v] ∧ Dc S G H n v d ∧ ∀ H', Ex H H' → Q .non H'
abbrev nWrong : List Str := ["value", "key", "path"]
theorem scWrong : FnScope nWrong ["value"] (defScope sWrong) := ⟨rfl, rfl, rfl, by decide +kernel, rfl, by decide +kernel, by decide +kernel⟩
theorem ok_wrong {f fa fe : Addr} {fd fda fde : FuncData} (Dd : Df K mg "wrong_path" sWrong ["value"] f fd) (Da' : Df K mg "is_atom" sIsAtom ["value"] fa fda) (De : Df K mg "is_element" sIsElem ["value"] fe fde) (T : Bi mg) {G : Gen} (hL : G.L ≤ 5000) (hG : G.KS.length < 64) :
    ∀ n, FnOk P w K mg base CX0 (n + 2) f fd ["value"] (spWrong G n)
  | 0 => fn_zero fun vs H Q E ⟨_, _, _, _, h, _⟩ => h
  | n + 1 => by
    have ih := ok_wrong Dd Da' De T hL hG n
    have ga : FnOk P w K mg base CX0 (n + 2) fa fda ["value"] (spAtom G) := (ok_atom Da' De T hL).mono (by omega)
    refine Dd.F.ok scWrong (fun vs H Q E h => ?_) (fun cdv A outer s H vs Q E hr h => ?_)
    · obtain ⟨_, v, _, rfl, _⟩ := h
      rfl
    obtain ⟨S, v, d, rfl, hv, k⟩ := h
    have hu := hu_of hr
    refine ⟨_, pss_cons (ps_if (pt_not (pt_val (pe_callB call_isi (by rfl) (T.of "isinstance") (by decide +kernel) (pa_cons (pv 0) (pa_cons (pe_bltn (v := .ty "dict") (by rfl) (T.of "dict") (by decide +kernel) rfl) pa_nil)))))
        (pss_one (ps_ret (pe_ifExp (pt_val (pe_call ga hr rfl Da'.m Da'.F.kp Da'.b .nil pass0 (pa_cons (pv 0) pa_nil))) pe_non (pe_tup pa_nil)))) pss_nil)
      (pss_cons (ps_if (pt_not (pt_val (pe_callB (cr_all rfl) (by rfl) (T.of "all") (by decide +kernel) (pa_cons (pe_lock (pe_lc (own := [("key", 1)]) (g := gName 1) (tt := tYes) rfl scWrong.nd (pi_keys (pv 0)) (blkOk_by (N := nWrong) (sc := defScope sWrong) (by decide +kernel))
          (fun _ _ _ _ _ => pg_name (i := 1) scWrong.nd rfl (Or.inl rfl)) (fun _ _ _ _ _ => pts_nil) (fun _ _ _ _ _ => pe_callB (id := "isinstance") (r := rIsi K) call_isi (by rfl) (T.of "isinstance") (by decide +kernel) (pa_cons (pv 1) (pa_cons (pe_bltn (v := .ty "str") (by rfl) (T.of "str") (by decide +kernel) rfl) pa_nil))))) pa_nil))))
          (pss_one ps_never) pss_nil)
      (pss_cons (ps_for PassesOwn.never rfl (pi_list (pe_callB (call_sortedD rfl) (by rfl) (T.of "sorted") (by decide +kernel) (pa_cons (pv 0) pa_nil))) (pg_name (i := 1) scWrong.nd rfl (Or.inl rfl))
        (pss_cons (ps_set (i := 2) scWrong.nd rfl (Or.inl rfl) (pe_call ih hr rfl Dd.m Dd.F.kp Dd.b .nil pass0 (pa_cons (pe_dget hu (pv 0) (pv 1) (fun _ _ => rfl)) pa_nil)))
        (pss_one (ps_if (pt_cmpR op_notN (pv 2) pe_non (nomark _)) (pss_one ps_never) pss_nil))))
      (pss_one (ps_ret pe_non)))), ?_⟩
    obtain ⟨t1, ty1, kit1⟩ := isiD K hv
    refine ⟨v, rfl, v, .ty "dict", t1, _, _, rfl, .ty _, ty1, kit1, _, rfl, ?_⟩
    refine hv.cases (fun m _ hs e => ?_) (fun m a xs _ ev hS r hx e => ?_) (fun m a ms g em ev hS r M e => ?_)
    · subst e
      exact iteT ⟨v, rfl, S, _, v, _, rfl, hv, rfl, fun H' ex => ⟨_, rfl, iteT (k H' ex)⟩⟩
    · subst e
      exact iteT ⟨v, rfl, S, _, v, _, rfl, hv, rfl, fun H' ex => ⟨_, rfl, iteT (k H' ex)⟩⟩
    subst e; subst ev; cases em
    refine iteF ⟨a, _, r, trivial, fun od => ⟨_, rfl, a, od, rfl, .inl ⟨_, upd_same, fun Da hD => ?_⟩⟩⟩
    have hDa : Da ≠ a := fun z => by rw [z, upd_same] at hD; cases hD
    have hml := M.len
    refine lc_keys (o := od) (d := a) (ms := ms) (fun i H2 => Ex (upd H a (.frz od (.dK (kvsOf ms)))) H2 ∧ H2 Da = some (.lst (List.replicate i (.bl true)))) ⟨Ex.new hD, upd_same⟩ (fun i H2 _ q => q.1 a _ upd_same) ?_ ?_
    · intro i key u H2 hi q
      refine ⟨rfl, t_yes ?_⟩
      refine ⟨.str key, rfl, .str key, .ty "str", _, _, _, rfl, .ty _, .base (.str key), kit_ty (r := true) (by decide +kernel), _, q.2, ?_, Ex.mut q.1 hD q.2, ?_⟩
      · have := (List.getElem?_eq_some_iff.mp hi).1
        rw [List.length_replicate]
        exact Nat.lt_of_le_of_lt (show i ≤ 5000 by omega) (by decide)
      · rw [upd_same, List.replicate_succ']
    intro H2 q
    refine ⟨q.1 a _ upd_same, ?_⟩
    refine ⟨Da, List.replicate ms.length true, rfl, .inl (.inl (by rw [upd_ne hDa, q.2, List.map_replicate])), ?_⟩
    have ex : Ex H (upd H2 a (.dK (kvsOf ms))) := ex_unlock r q.1
    generalize upd H2 a (.dK (kvsOf ms)) = H3 at ex
    rw [show (List.replicate ms.length true).all id = true by simp]
    refine ⟨_, rfl, iteF ?_⟩
    refine ⟨_, rfl, a, kvsOf ms, ms.map (·.1), rfl, .inl (ex a _ r), by rw [List.map_map, List.map_map]; rfl, by rw [List.length_map]; omega, fun ys p hp _ nw => ?_⟩
    refine ⟨p, rfl, ⟨_, .inl (.inl upd_same)⟩, for_list (K := K) (a := p) (xs := ys.map V.str) (fun i σ H4 => (∃ x y, σ = [some (.ref a), x, y]) ∧ Ex H H4 ∧ H4 p = some (.lst (ys.map V.str))) ⟨⟨_, _, rfl⟩, ex.trans (Ex.new nw), upd_same⟩ (fun i σ H4 _ q => .inl (.inl q.2.2)) ?_ ?_⟩
    · rintro i x σ H4 hi ⟨⟨x1, y1, rfl⟩, e4, hp4⟩
      obtain ⟨key, hk, rfl⟩ : ∃ key, key ∈ ys ∧ x = .str key := by
        obtain ⟨key, h1, h2⟩ := List.mem_map.mp (List.mem_of_getElem? hi)
        exact ⟨key, h1, h2.symm⟩
      obtain ⟨u, hku⟩ := valV_some_of ((hp.mem_iff).mp hk)
      refine ⟨.ref a, rfl, .str key, rfl, a, u, rfl, .inl ⟨_, Sum.inr key, .inl (e4 a _ r), rfl, by rw [valV_inK]; exact hku.symm⟩, S, u, g key, rfl, (M.at' key u hku).ex e4, fun H5 e5 => ?_⟩
      exact ⟨_, rfl, rfl, _, rfl, iteF ⟨⟨_, _, rfl⟩, e4.trans e5, e5 p _ hp4⟩⟩
    · rintro σ H4 ⟨_, e4, _⟩
      exact k H4 e4
end
end TP

namespace TP
open PySem PySem.Spec PyProof.Rows L2
section
variable [TabL] {P : Program} {w : World} {K : PySem.W.Frag} {mg : Str → Option Value} {base : Heap}
/-! ### depth -/
def spDepth (G : Gen) (n : Nat) : Sp := fun vs H Q _ => ∃ (S : Addr → Prop) (v : V) (d : D) (b : Nat), vs = [v] ∧ Dc S G H n v d ∧ DD d b ∧ ∀ (j : Int) H', Ex H H' → 0 ≤ j → j ≤ b → Q (.int j) H'
theorem scDepth : FnScope ["document", "key"] ["document"] (defScope sDepth) := ⟨rfl, rfl, rfl, by decide +kernel, rfl, by decide +kernel, by decide +kernel⟩
theorem ok_depth {f : Addr} {fd : FuncData} (Dd : Df K mg "depth" sDepth ["document"] f fd) (T : Bi mg) {G : Gen} (hG : G.KS.length ≤ 5000) : ∀ n, FnOk P w K mg base CX0 n f fd ["document"] (spDepth G n)
  | 0 => fn_zero fun vs H Q E ⟨_, _, _, _, _, h, _⟩ => h
  | n + 1 => by
    have ih := ok_depth Dd T hG n
    refine Dd.F.ok scDepth (fun vs H Q E h => ?_) (fun cdv A outer s H vs Q E hr h => ?_)
    · obtain ⟨_, v, d, _, rfl, _⟩ := h
      rfl
    obtain ⟨S, v, d, b, rfl, hv, hd, k⟩ := h
    have hu := hu_of hr
    refine ⟨_, pss_cons (ps_if (pt_not (pt_val (pe_callB call_isi (by rfl) (T.of "isinstance") (by decide +kernel) (pa_cons (pv 0) (pa_cons (pe_bltn (v := .ty "dict") (by rfl) (T.of "dict") (by decide +kernel) rfl) pa_nil)))))
        (pss_one (ps_ret pe_int)) pss_nil)
      (pss_one (ps_ret (pe_op op_add pe_int (pe_callBK (cr_maxDef hr.units hr.hd) (by rfl) (T.of "max") (by decide +kernel) (pa_cons (pe_lock (pe_lc (own := [("key", 1)]) (g := gName 1) (tt := tYes) rfl scDepth.nd (pi_keys (pv 0)) (blkOk_by (N := ["document", "key"]) (sc := defScope sDepth) (by decide +kernel))
          (fun _ _ _ _ _ => pg_name (i := 1) scDepth.nd rfl (Or.inl rfl)) (fun _ _ _ _ _ => pts_nil) (fun _ _ _ _ _ => pe_call ih hr rfl Dd.m Dd.F.kp Dd.b .nil pass0 (pa_cons (pe_dget hu (pv 0) (pv 1) (fun _ _ => rfl)) pa_nil)))) pa_nil) (pk_cons pe_int pk_nil))))), ?_⟩
    obtain ⟨t1, ty1, kit1⟩ := isiD K hv
    refine ⟨v, rfl, v, .ty "dict", t1, _, _, rfl, .ty _, ty1, kit1, _, rfl, ?_⟩
    refine hv.cases (fun m _ hs e => ?_) (fun m a xs _ ev hS r hx e => ?_) (fun m a ms g em ev hS r M e => ?_)
    · subst e
      exact iteT (k 0 H (Ex.refl H) (Int.le_refl _) (by omega))
    · subst e
      exact iteT (k 0 H (Ex.refl H) (Int.le_refl _) (by omega))
    subst e; subst ev; cases em
    refine iteF ⟨a, _, r, trivial, fun od => ⟨_, rfl, a, od, rfl, .inl ⟨_, upd_same, fun Da hD => ?_⟩⟩⟩
    have hDa : Da ≠ a := fun z => by rw [z, upd_same] at hD; cases hD
    have hml := M.len
    have M' := M.lock r hS (o := .frz od (.dK (kvsOf ms)))
    refine lc_keys (o := od) (d := a) (ms := ms) (fun i H2 => Ex (upd H a (.frz od (.dK (kvsOf ms)))) H2 ∧ ∃ ns : List Int, H2 Da = some (.lst (ns.map V.int)) ∧ ns.length = i ∧ ∀ x ∈ ns, 0 ≤ x ∧ x ≤ ((b - 1 : Nat) : Int)) ⟨Ex.new hD, [], upd_same, rfl, fun x hx => nomatch hx⟩ (fun i H2 _ q => q.1 a _ upd_same) ?_ ?_
    · rintro i key u H2 hi ⟨ex, ns, h2, hl, hb⟩
      have hku : valV ms key = some u := valV_of_mem M.nd (List.mem_of_getElem? hi)
      refine ⟨rfl, t_yes ?_⟩
      refine ⟨.ref a, rfl, .str key, rfl, a, u, rfl, .inl ⟨_, Sum.inr key, .inr ⟨od, ex a _ upd_same⟩, rfl, by rw [valV_inK]; exact hku.symm⟩, S, u, g key, b - 1, rfl, (M'.at' key u hku).ex ex, hd.2 key, fun j H5 e5 j0 j1 => ?_⟩
      refine ⟨_, e5 Da _ h2, ?_, Ex.mut (ex.trans e5) hD (e5 Da _ h2), ns ++ [j], ?_, ?_, ?_⟩
      · have := (List.getElem?_eq_some_iff.mp hi).1
        rw [List.length_map, hl]
        exact Nat.lt_of_le_of_lt (show i ≤ 5000 by omega) (by decide)
      · rw [upd_same, List.map_append]; rfl
      · rw [List.length_append, hl]; rfl
      · intro x hx
        rcases List.mem_append.mp hx with hx | hx
        · exact hb x hx
        · rw [List.mem_singleton.mp hx]; exact ⟨j0, j1⟩
    rintro H2 ⟨ex, ns, h2, hl, hb⟩
    refine ⟨ex a _ upd_same, ?_⟩
    have ex' : Ex H (upd H2 a (.dK (kvsOf ms))) := ex_unlock r ex
    have hd1 := hd.1
    refine ⟨Da, ns, 0, rfl, rfl, .inl (.inl (by rw [upd_ne hDa]; exact h2)), fun _ => ?_, fun z hz _ => ?_⟩
    · exact ⟨_, _, rfl, rfl, k _ _ ex' (by omega) (by omega)⟩
    · have := hb z hz
      exact ⟨_, _, rfl, rfl, k _ _ ex' (by omega) (by omega)⟩
/-! ### parts -/
def spParts (G : Gen) (n : Nat) : Sp := fun vs H Q _ => ∃ (S : Addr → Prop) (v : V) (d : D) (p : Nat), vs = [v] ∧ Dc S G H n v d ∧ PD d p ∧ ∀ (j : Int) H', Ex H H' → 1 ≤ j → j ≤ p → Q (.int j) H'
theorem scParts : FnScope ["document", "key"] ["document"] (defScope sParts) := ⟨rfl, rfl, rfl, by decide +kernel, rfl, by decide +kernel, by decide +kernel⟩
theorem ok_parts {f : Addr} {fd : FuncData} (Dd : Df K mg "parts" sParts ["document"] f fd) (T : Bi mg) {G : Gen} (hG : G.KS.length ≤ 5000) : ∀ n, FnOk P w K mg base CX0 n f fd ["document"] (spParts G n)
  | 0 => fn_zero fun vs H Q E ⟨_, _, _, _, _, h, _⟩ => h
  | n + 1 => by
    have ih := ok_parts Dd T hG n
    refine Dd.F.ok scParts (fun vs H Q E h => ?_) (fun cdv A outer s H vs Q E hr h => ?_)
    · obtain ⟨_, v, d, _, rfl, _⟩ := h
      rfl
    obtain ⟨S, v, d, p, rfl, hv, hp, k⟩ := h
    have hu := hu_of hr
    refine ⟨_, pss_cons (ps_if (pt_not (pt_val (pe_callB call_isi (by rfl) (T.of "isinstance") (by decide +kernel) (pa_cons (pv 0) (pa_cons (pe_bltn (v := .ty "dict") (by rfl) (T.of "dict") (by decide +kernel) rfl) pa_nil)))))
        (pss_one (ps_ret pe_int)) pss_nil)
      (pss_one (ps_ret (pe_op op_add pe_int (pe_callB (cr_sum rfl) (by rfl) (T.of "sum") (by decide +kernel) (pa_cons (pe_lock (pe_lc (own := [("key", 1)]) (g := gName 1) (tt := tYes) rfl scParts.nd (pi_keys (pv 0)) (blkOk_by (N := ["document", "key"]) (sc := defScope sParts) (by decide +kernel))
          (fun _ _ _ _ _ => pg_name (i := 1) scParts.nd rfl (Or.inl rfl)) (fun _ _ _ _ _ => pts_nil) (fun _ _ _ _ _ => pe_call ih hr rfl Dd.m Dd.F.kp Dd.b .nil pass0 (pa_cons (pe_dget hu (pv 0) (pv 1) (fun _ _ => rfl)) pa_nil)))) pa_nil))))), ?_⟩
    obtain ⟨t1, ty1, kit1⟩ := isiD K hv
    refine ⟨v, rfl, v, .ty "dict", t1, _, _, rfl, .ty _, ty1, kit1, _, rfl, ?_⟩
    refine hv.cases (fun m _ hs e => ?_) (fun m a xs _ ev hS r hx e => ?_) (fun m a ms g em ev hS r M e => ?_)
    · subst e
      have hp : 1 ≤ p := hp
      exact iteT (k 1 H (Ex.refl H) (Int.le_refl _) (by omega))
    · subst e
      have hp : 1 ≤ p := hp
      exact iteT (k 1 H (Ex.refl H) (Int.le_refl _) (by omega))
    subst e; subst ev; cases em
    obtain ⟨ks, q, hks, hq, hsum⟩ := hp
    refine iteF ⟨a, _, r, trivial, fun od => ⟨_, rfl, a, od, rfl, .inl ⟨_, upd_same, fun Da hD => ?_⟩⟩⟩
    have hDa : Da ≠ a := fun z => by rw [z, upd_same] at hD; cases hD
    have hml := M.len
    have M' := M.lock r hS (o := .frz od (.dK (kvsOf ms)))
    refine lc_keys (o := od) (d := a) (ms := ms) (fun i H2 => Ex (upd H a (.frz od (.dK (kvsOf ms)))) H2 ∧ ∃ ns : List Int, H2 Da = some (.lst (ns.map V.int)) ∧ ns.length = i ∧ 0 ≤ ns.sum ∧ ns.sum ≤ ((((ms.take i).map (·.1)).map q).sum : Nat)) ⟨Ex.new hD, [], upd_same, rfl, by simp, by simp⟩ (fun i H2 _ q => q.1 a _ upd_same) ?_ ?_
    · rintro i key u H2 hi ⟨ex, ns, h2, hl, hb0, hb1⟩
      have hku : valV ms key = some u := valV_of_mem M.nd (List.mem_of_getElem? hi)
      refine ⟨rfl, t_yes ?_⟩
      refine ⟨.ref a, rfl, .str key, rfl, a, u, rfl, .inl ⟨_, Sum.inr key, .inr ⟨od, ex a _ upd_same⟩, rfl, by rw [valV_inK]; exact hku.symm⟩, S, u, g key, q key, rfl, (M'.at' key u hku).ex ex, hq key, fun j H5 e5 j0 j1 => ?_⟩
      refine ⟨_, e5 Da _ h2, ?_, Ex.mut (ex.trans e5) hD (e5 Da _ h2), ns ++ [j], ?_, ?_, ?_, ?_⟩
      · have := (List.getElem?_eq_some_iff.mp hi).1
        rw [List.length_map, hl]
        exact Nat.lt_of_le_of_lt (show i ≤ 5000 by omega) (by decide)
      · rw [upd_same, List.map_append]; rfl
      · rw [List.length_append, hl]; rfl
      · rw [List.sum_append]; simp; omega
      · rw [List.sum_append, List.take_add_one, hi]
        simp
        simp at hb1
        omega
    rintro H2 ⟨ex, ns, h2, hl, hb0, hb1⟩
    refine ⟨ex a _ upd_same, ?_⟩
    have ex' : Ex H (upd H2 a (.dK (kvsOf ms))) := ex_unlock r ex
    refine ⟨Da, ns, rfl, .inl (.inl (by rw [upd_ne hDa]; exact h2)), _, _, rfl, rfl, k _ _ ex' (by omega) ?_⟩
    rw [List.take_length] at hb1
    have := sum_sub q M.nd (ys := ks) fun x hx => by
      obtain ⟨u, hu⟩ := valV_some_of hx
      exact hks x (M.at' x u hu).ne_nil
    omega
/-! ### check -/
def spCheck (G : Gen) (n : Nat) : Sp := fun vs H Q _ => ∃ (S : Addr → Prop) (v : V) (d : D), vs = [v] ∧ Dc S G H n v d ∧ PD d 200 ∧ DD d 8 ∧ ∀ H', Ex H H' → Q .non H'
theorem scCheck : FnScope ["value", "path"] ["value"] (defScope sCheck) := ⟨rfl, rfl, rfl, by decide +kernel, rfl, by decide +kernel, by decide +kernel⟩
/-- what the program's own defs are -/
structure Prog (K : PySem.W.Frag) (mg : Str → Option Value) (aCheck aWrong aAtom aElem aDepth aParts aCopied : Addr) (fCheck fWrong fAtom fElem fDepth fParts fCopied : FuncData) : Prop where
  check : Df K mg "check" sCheck ["value"] aCheck fCheck
  wrong : Df K mg "wrong_path" sWrong ["value"] aWrong fWrong
  atom : Df K mg "is_atom" sIsAtom ["value"] aAtom fAtom
  elem : Df K mg "is_element" sIsElem ["value"] aElem fElem
  depth : Df K mg "depth" sDepth ["document"] aDepth fDepth
  parts : Df K mg "parts" sParts ["document"] aParts fParts
  copied : Df K mg "copied" sCopied ["document"] aCopied fCopied
  md : ∃ t, mg "MOST_DEPTH" = some (.int 8 t)
  mp : ∃ t, mg "MOST_PARTS" = some (.int 200 t)
variable {aCheck aWrong aAtom aElem aDepth aParts aCopied : Addr} {fCheck fWrong fAtom fElem fDepth fParts fCopied : FuncData}
theorem ok_check (R : Prog K mg aCheck aWrong aAtom aElem aDepth aParts aCopied fCheck fWrong fAtom fElem fDepth fParts fCopied) (T : Bi mg) {G : Gen} (hL : G.L ≤ 5000) (hG : G.KS.length < 64) (n : Nat) : FnOk P w K mg base CX0 (n + 3) aCheck fCheck ["value"] (spCheck G n) := by
  have gw : FnOk P w K mg base CX0 (n + 2) aWrong fWrong ["value"] (spWrong G n) := ok_wrong R.wrong R.atom R.elem T hL hG n
  have gd : FnOk P w K mg base CX0 (n + 2) aDepth fDepth ["document"] (spDepth G n) := (ok_depth R.depth T (by omega) n).mono (by omega)
  have gp : FnOk P w K mg base CX0 (n + 2) aParts fParts ["document"] (spParts G n) := (ok_parts R.parts T (by omega) n).mono (by omega)
  obtain ⟨t1, md⟩ := R.md
  obtain ⟨t2, mp⟩ := R.mp
  refine R.check.F.ok scCheck (fun vs H Q E h => ?_) (fun cdv A outer s H vs Q E hr h => ?_)
  · obtain ⟨_, v, d, rfl, _⟩ := h
    rfl
  obtain ⟨S, v, d, rfl, hv, hp, hn, k⟩ := h
  refine ⟨_, pss_cons (ps_set (i := 1) scCheck.nd rfl (Or.inl rfl) (pe_call gw hr rfl R.wrong.m R.wrong.F.kp R.wrong.b .nil pass0 (pa_cons (pv 0) pa_nil)))
    (pss_cons (ps_if (pt_cmpR op_notN (pv 1) pe_non (nomark _)) (pss_one ps_never) pss_nil)
    (pss_cons (ps_if (pt_cmpR op_gt (pe_call gd hr rfl R.depth.m R.depth.F.kp R.depth.b .nil pass0 (pa_cons (pv 0) pa_nil)) (pe_glob (v := .int 8) rfl md ⟨t1, rfl⟩) (nomark _)) (pss_one ps_never) pss_nil)
    (pss_one (ps_if (pt_cmpR op_gt (pe_call gp hr rfl R.parts.m R.parts.F.kp R.parts.b .nil pass0 (pa_cons (pv 0) pa_nil)) (pe_glob (v := .int 200) rfl mp ⟨t2, rfl⟩) (nomark _)) (pss_one ps_never) pss_nil)))), ?_⟩
  refine ⟨v, rfl, S, v, d, rfl, hv, fun H1 e1 => ⟨_, rfl, rfl, _, rfl, iteF ?_⟩⟩
  refine ⟨v, rfl, S, v, d, 8, rfl, hv.ex e1, hn, fun j H2 e2 j0 j1 => ⟨_, _, rfl, rfl, _, rfl, ifF (decide_eq_false (by omega)) ?_⟩⟩
  refine ⟨v, rfl, S, v, d, 200, rfl, (hv.ex e1).ex e2, hp, fun i H3 e3 i0 i1 => ⟨_, _, rfl, rfl, _, rfl, ifF (decide_eq_false (by omega)) ?_⟩⟩
  exact k H3 ((e1.trans e2).trans e3)
end
end TP

namespace TP
open PySem PySem.Spec PyProof.Rows L2
abbrev sState : Stmt := topS 30
abbrev sDigit : Stmt := topS 31
abbrev sAtom' : Stmt := topS 32
abbrev sPatch : Stmt := topS 33
/-! ### what the law draws -/
def c4 : List V := [.non, .int 0, .int 1, .int 2, .int (-7), .int 5, .str "a", .str "b", .str "", .str "0", .str "1"]
def g4 : Gen where
  KS := ["a", "b", "c"]
  C := fun v => decide (v ∈ c4)
  L := 2
  sc := fun v h => by
    have h := of_decide_eq_true h
    simp only [c4, List.mem_cons, List.not_mem_nil, or_false] at h
    rcases h with rfl | rfl | rfl | rfl | rfl | rfl | rfl | rfl | rfl | rfl | rfl <;> rfl
/-- the state that draws go through -/
def StAt (H : Hp) (a : Addr) : Prop := ∃ x y z : Int, H a = some (.lst [.int x, .int y, .int z]) ∧ 0 ≤ x ∧ 0 ≤ y ∧ y < 2147483640 ∧ 0 ≤ z
/-- only the state at a has moved -/
structure Mv [TabL] (a : Addr) (H H' : Hp) : Prop where
  st : StAt H' a
  go : ∀ b o, b ≠ a → H b = some o → isTbl o = false → H' b = some o
  ne : ∀ b, H b ≠ none → H' b ≠ none
  tab : ∀ b q, TabL.R b q → LamX.TabS H b q → LamX.TabS H' b q
theorem Mv.ex [TabL] {a H H'} (x : Mv a H H') (b : Addr) (o : HO) [z : NT o] (n : b ≠ a) (h : H b = some o) : H' b = some o := x.go b o n h z.h
theorem Mv.trans [TabL] {a H H1 H2} (x : Mv a H H1) (y : Mv a H1 H2) : Mv a H H2 := ⟨y.st, fun b o n h z => y.go b o n (x.go b o n h z) z, fun b h => y.ne b (x.ne b h), fun b q r h => y.tab b q r (x.tab b q r h)⟩
theorem Mv.refl [TabL] {a H} (h : StAt H a) : Mv a H H := ⟨h, fun _ _ _ z _ => z, fun _ z => z, fun _ _ _ z => z⟩
theorem Mv.of_ex [TabL] {a H H'} (e : Ex H H') (h : StAt H a) : Mv a H H' := ⟨let ⟨x, y, z, hx, r⟩ := h; ⟨x, y, z, e a _ hx, r⟩, fun b o _ h z => e.go b o h z, e.ne, e.tab⟩
/-- the state itself is written -/
theorem Mv.put [TabL] {a H} (h : StAt H a) (x y z : Int) (x0 : 0 ≤ x) (y0 : 0 ≤ y) (y1 : y < 2147483640) (z0 : 0 ≤ z) : Mv a H (upd H a (.lst [.int x, .int y, .int z])) := by
  obtain ⟨u, v, w, hx, _⟩ := h
  refine ⟨⟨x, y, z, upd_same, x0, y0, y1, z0⟩, fun b o n e _ => by rw [upd_ne n]; exact e, fun b e => ?_, fun b q _ t => tab_upd t fun w hw => by rw [hx] at hw; cases hw; rfl⟩
  by_cases c : b = a
  · rw [c, upd_same]; exact fun z => nomatch z
  · rw [upd_ne c]; exact e
/-- what is new since H may change -/
theorem Mv.mut [TabL] {a H H1 p o u} (x : Mv a H H1) (ha : H a ≠ none) (hp : H p = none) (hu : H1 p = some u) (pl : isPl u = true := by rfl) : Mv a H (upd H1 p o) := by
  have npa : a ≠ p := fun z => ha (by rw [z]; exact hp)
  obtain ⟨c, y, z, hx, r⟩ := x.st
  exact ⟨⟨c, y, z, by rw [upd_ne npa]; exact hx, r⟩, fun b w n e z => by rw [upd_ne (ne_of_none e hp)]; exact x.go b w n e z, fun b e => by rw [upd_ne (fun z => e (by rw [z]; exact hp))]; exact x.ne b e, fun b q r t => tab_upd (x.tab b q r t) fun w hw => by rw [hu] at hw; cases hw; exact pl⟩
theorem Mv.new [TabL] {a H H1 p o} (x : Mv a H H1) (hp : H1 p = none) : Mv a H (upd H1 p o) := by
  exact x.trans (.of_ex (Ex.new hp) x.st)
theorem Mv.free [TabL] {a H H1 p} (x : Mv a H H1) (ha : H a ≠ none) (hp : H1 p = none) : H p = none := by
  cases e : H p with
  | none => rfl
  | some o => exact absurd hp (x.ne p (by rw [e]; exact fun z => nomatch z))
theorem StAt.ne {H a} (h : StAt H a) : H a ≠ none := by
  obtain ⟨u, y, w, h, _⟩ := h
  rw [h]
  exact fun z => nomatch z
theorem Dc.mv [TabL] {S G H H' n v d a} (x : Mv a H H') (hS : ¬ S a) (h : Dc S G H n v d) : Dc S G H' n v d := Dc.mono (fun _ z => z) (fun b u s y r => x.go b u (fun z => hS (by rw [← z]; exact s)) r y) (Nat.le_refl _) h
theorem Mem.mv [TabL] {S G H H' n ms f a} (x : Mv a H H') (hS : ¬ S a) (h : Mem S G H n ms f) : Mem S G H' n ms f := ⟨h.nd, h.ks, h.no, fun k u z => (h.at' k u z).mv x hS⟩
/-- new since H, and away from one address -/
abbrev Sl (H : Hp) : Addr → Prop := fun x => H x = none ∧ x ≠ sysModules
section
variable [TabL] {P : Program} {w : World} {K : PySem.W.Frag} {mg : Str → Option Value} {base : Heap}
/-! ### _law_state -/
def spState : Sp := fun vs H Q _ => ∃ n : Int, vs = [.int n] ∧ ∀ p H', H p = none → Ex H H' → StAt H' p → (∀ b, b ≠ p → H b = none → H' b = none) → Q (.ref p) H'
theorem scState : FnScope ["_law_source"] ["_law_source"] (defScope sState) := ⟨rfl, rfl, rfl, by decide +kernel, rfl, by decide +kernel, by decide +kernel⟩
theorem ok_state {f : Addr} {fd : FuncData} (Dd : Df K mg "_law_state" sState ["_law_source"] f fd) (T : Bi mg) : FnOk P w K mg base CX0 1 f fd ["_law_source"] spState := by
  refine Dd.F.ok scState (fun vs H Q E h => ?_) (fun cdv A outer s H vs Q E hr h => ?_)
  · obtain ⟨n, rfl, _⟩ := h
    rfl
  obtain ⟨n, rfl, k⟩ := h
  refine ⟨_, pss_cons (ps_set (i := 0) scState.nd rfl (Or.inl rfl) (pe_callB call_abs (by rfl) (T.of "abs") (by decide +kernel) (pa_cons (pv 0) pa_nil)))
    (pss_one (ps_ret (pe_lst (pa_cons (pe_op op_mul (pv 0) (pe_callTy call_int1 (by rfl) (T.of "int") (by decide +kernel) (pa_cons (pe_cmpR op_ge (pv 0) (pe_op op_pow pe_int pe_int) (nomark _)) pa_nil)))
      (pa_cons (pe_op op_add (pe_op op_mod (pe_callTy call_int1 (by rfl) (T.of "int") (by decide +kernel) (pa_cons (pv 0) pa_nil)) pe_int) pe_int) (pa_cons (pe_op op_mod (pe_callTy call_int1 (by rfl) (T.of "int") (by decide +kernel) (pa_cons (pv 0) pa_nil)) pe_int) pa_nil)))))), ?_⟩
  refine ⟨_, rfl, n, rfl, ?_⟩
  have h0 : 0 ≤ (if n < 0 then -n else n) := by split <;> omega
  generalize (if n < 0 then -n else n) = m at h0
  refine ⟨_, rfl, _, rfl, _, _, rfl, rfl, ⟨by decide, by decide, by decide⟩, _, _, rfl, rfl, .inr ⟨_, rfl, _, _, rfl, rfl, .inr ?_, ?_⟩⟩
  · split <;> decide
  refine ⟨_, rfl, .inl ⟨_, rfl, _, _, rfl, rfl, (by show (0 : Int) < 2147483629; decide), _, _, rfl, rfl, _, rfl, .inl ⟨_, rfl, _, _, rfl, rfl, (by show (0 : Int) < 2147483587; decide), (by show 3 ≤ sizeLine; decide), fun p hp => ?_⟩⟩⟩
  refine k p _ hp (Ex.new hp) ⟨_, _, _, upd_same, ?_, ?_, ?_, ?_⟩ fun b nb hb => by rw [upd_ne nb]; exact hb
  · split
    · omega
    · omega
  · have := Int.emod_nonneg m (show (2147483629 : Int) ≠ 0 by decide)
    omega
  · have := Int.emod_lt_of_pos m (show (0 : Int) < 2147483629 by decide)
    omega
  · exact Int.emod_nonneg m (by decide)
/-! ### _law_digit -/
def spDigit : Sp := fun vs H Q _ => ∃ (a : Addr) (b : Int), vs = [.ref a, .int b] ∧ StAt H a ∧ 0 < b ∧ b < 1000 ∧ ∀ (d : Int) H', 0 ≤ d → d < b → Mv a H H' → (∀ c, c ≠ a → H' c = H c) → Q (.int d) H'
abbrev nDigit : List Str := ["_law_state_here", "_law_base", "_law_found", "_law_mixed"]
theorem scDigit : FnScope nDigit ["_law_state_here", "_law_base"] (defScope sDigit) := ⟨rfl, rfl, rfl, by decide +kernel, rfl, by decide +kernel, by decide +kernel⟩
theorem ok_digit {f : Addr} {fd : FuncData} (T : Bi mg) (Dd : Df K mg "_law_digit" sDigit ["_law_state_here", "_law_base"] f fd) : FnOk P w K mg base CX0 1 f fd ["_law_state_here", "_law_base"] spDigit := by
  refine Dd.F.ok scDigit (fun vs H Q E h => ?_) (fun cdv A outer s H vs Q E hr h => ?_)
  · obtain ⟨a, b, rfl, _⟩ := h
    rfl
  obtain ⟨a, b, rfl, ⟨x, y, z, ha, x0, y0, y1, z0⟩, b0, b1, k⟩ := h
  refine ⟨_, pss_cons (ps_if (pt_cmpR op_gt (pe_ix ix_list (pv 0) pe_int (fun _ _ => rfl)) pe_int (nomark _))
      (pss_cons (ps_set (i := 2) scDigit.nd rfl (Or.inl rfl) (pe_op op_mod (pe_callTy call_int1 (by rfl) (T.of "int") (by decide +kernel) (pa_cons (pe_ix ix_list (pv 0) pe_int (fun _ _ => rfl)) pa_nil)) (pv 1)))
      (pss_cons (ps_asg (pe_op op_fdiv (pe_ix ix_list (pv 0) pe_int (fun _ _ => rfl)) (pv 1)) (pg_sub (pv 0) pe_int set_list))
      (pss_one (ps_ret (pv 2))))) pss_nil)
    (pss_cons (ps_set (i := 3) scDigit.nd rfl (Or.inl rfl) (pe_op op_mul (pe_ix ix_list (pv 0) pe_int (fun _ _ => rfl)) (pe_op op_add (pe_op op_fdiv (pe_ix ix_list (pv 0) pe_int (fun _ _ => rfl)) pe_int) pe_int)))
    (pss_cons (ps_asg (pe_op op_add (pe_op op_mod (pe_callTy call_int1 (by rfl) (T.of "int") (by decide +kernel) (pa_cons (pe_op op_add (pv 3) (pe_ix ix_list (pv 0) pe_int (fun _ _ => rfl))) pa_nil)) pe_int) pe_int) (pg_sub (pv 0) pe_int set_list))
    (pss_one (ps_ret (pe_op op_mod (pe_callTy call_int1 (by rfl) (T.of "int") (by decide +kernel) (pa_cons (pe_op op_fdiv (pe_ix ix_list (pv 0) pe_int (fun _ _ => rfl)) pe_int) pa_nil)) (pv 1)))))), ?_⟩
  have L : SqL K H a [.int x, .int y, .int z] := .inl (.inl ha)
  refine ⟨.ref a, rfl, a, _, 0, _, rfl, rfl, L, atI_nat (j := 0) rfl, _, _, rfl, rfl, _, rfl, ?_⟩
  refine ite2 (fun c => ?_) fun c => ?_
  · have c : 0 < x := of_decide_eq_true c
    refine ⟨.ref a, rfl, a, _, 0, _, rfl, rfl, L, atI_nat (j := 0) rfl, .inl ⟨_, rfl, _, rfl, _, _, rfl, rfl, b0, ?_⟩⟩
    refine ⟨.ref a, rfl, a, _, 0, _, rfl, rfl, L, atI_nat (j := 0) rfl, _, rfl, _, _, rfl, rfl, ⟨b0, by omega⟩, .ref a, rfl, a, _, 0, 0, rfl, rfl, ha, rfl, ?_⟩
    refine ⟨_, rfl, ?_⟩
    refine k _ _ (Int.emod_nonneg x (by omega)) (Int.emod_lt_of_pos x b0) (Mv.put ⟨x, y, z, ha, x0, y0, y1, z0⟩ (x / b) y z (Int.ediv_nonneg x0 (by omega)) y0 y1 z0) fun c n => upd_ne n
  · refine ⟨.ref a, rfl, a, _, 1, _, rfl, rfl, L, atI_nat (j := 1) rfl, .ref a, rfl, a, _, 1, _, rfl, rfl, L, atI_nat (j := 1) rfl, _, _, rfl, rfl, ⟨by decide, by decide⟩, _, _, rfl, rfl, _, _, rfl, rfl, .inl ⟨by omega, by omega⟩, ?_⟩
    refine ⟨_, rfl, .ref a, rfl, a, _, 2, _, rfl, rfl, L, atI_nat (j := 2) rfl, _, _, rfl, rfl, .inl ⟨_, rfl, _, _, rfl, rfl, (by show (0 : Int) < 2147483629; decide), _, _, rfl, rfl, .ref a, rfl, a, _, 1, 1, rfl, rfl, ha, rfl, ?_⟩⟩
    generalize y * (y / 1009 + 69621) + z = m
    have h0 := Int.emod_nonneg m (show (2147483629 : Int) ≠ 0 by decide)
    have h1 := Int.emod_lt_of_pos m (show (0 : Int) < 2147483629 by decide)
    refine ⟨.ref a, rfl, a, _, 1, _, rfl, rfl, .inl (.inl upd_same), atI_nat (j := 1) rfl, _, _, rfl, rfl, ⟨by decide, by decide⟩, .inl ⟨_, rfl, _, rfl, _, _, rfl, rfl, b0, ?_⟩⟩
    exact k _ _ (Int.emod_nonneg _ (by omega)) (Int.emod_lt_of_pos _ b0) (Mv.put ⟨x, y, z, ha, x0, y0, y1, z0⟩ x _ z x0 (by omega) (by omega) z0) fun c n => upd_ne n
end
end TP

namespace TP
open PySem PySem.Spec PyProof.Rows L2
section
variable [TabL] {P : Program} {w : World} {K : PySem.W.Frag} {mg : Str → Option Value} {base : Heap}
/-- a drawn document: its levels n, at most p parts, at most q deep -/
structure Dn (S : Addr → Prop) (H : Hp) (n p q : Nat) (v : V) (d : D) : Prop where
  dc : Dc S g4 H n v d
  pd : PD d p
  dd : DD d q
theorem Dn.imp {S S' : Addr → Prop} {H n p q v d} (h : Dn S H n p q v d) (z : ∀ x, S x → S' x) : Dn S' H n p q v d := ⟨h.dc.imp z, h.pd, h.dd⟩
theorem Dn.mv {S a H H' n p q v d} (x : Mv a H H') (hS : ¬ S a) (h : Dn S H n p q v d) : Dn S H' n p q v d := ⟨h.dc.mv x hS, h.pd, h.dd⟩
/-! ### _law_atom -/
def spAtm : Sp := fun vs H Q _ => ∃ a : Addr, vs = [.ref a] ∧ StAt H a ∧ ∀ v d H', Mv a H H' → Dn (Sl H) H' 1 1 0 v d → Q v H'
theorem scAtm : FnScope ["_law_s"] ["_law_s"] (defScope sAtom') := ⟨rfl, rfl, rfl, by decide +kernel, rfl, by decide +kernel, by decide +kernel⟩
theorem ok_atm {f fg : Addr} {fd fdg : FuncData} (T : Bi mg) (Dd : Df K mg "_law_atom" sAtom' ["_law_s"] f fd) (Dg : Df K mg "_law_digit" sDigit ["_law_state_here", "_law_base"] fg fdg) : FnOk P w K mg base CX0 2 f fd ["_law_s"] spAtm := by
  have gg : FnOk P w K mg base CX0 1 fg fdg ["_law_state_here", "_law_base"] spDigit := ok_digit T Dg
  refine Dd.F.ok scAtm (fun vs H Q E h => ?_) (fun cdv A outer s H vs Q E hr h => ?_)
  · obtain ⟨n, rfl, _⟩ := h
    rfl
  obtain ⟨a, rfl, sa, k⟩ := h
  refine ⟨_, pss_one (ps_ret (pe_ix ix_list (pe_lst (pa_cons pe_int (pa_cons pe_int (pa_cons pe_int (pa_cons (pe_un un_neg pe_int) (pa_cons pe_str (pa_cons pe_str (pa_cons pe_str (pa_cons (pe_lstS pa_nil) (pa_cons (pe_lstS (pa_cons pe_int (pa_cons pe_str pa_nil))) (pa_cons (pe_lstS (pa_cons pe_non (pa_cons pe_int pa_nil))) (pa_cons pe_str (pa_cons pe_str (pa_cons (pe_lstS (pa_cons pe_str pa_nil)) (pa_cons (pe_lstS (pa_cons pe_int pa_nil)) pa_nil)))))))))))))))
    (pe_call gg hr rfl Dg.m Dg.F.kp Dg.b .nil pass0 (pa_cons (pv 0) (pa_cons pe_int pa_nil))) (fun _ _ => rfl))), ?_⟩
  refine ⟨_, rfl, (by show 0 ≤ sizeLine; decide), fun p1 h1 n1 => ⟨(by show 2 ≤ sizeLine; decide), fun p2 h2 n2 => ⟨(by show 2 ≤ sizeLine; decide), fun p3 h3 n3 => ⟨(by show 1 ≤ sizeLine; decide), fun p5 h5 n5 => ⟨(by show 1 ≤ sizeLine; decide), fun p6 h6 n6 => ⟨(by show 14 ≤ sizeLine; decide), fun p4 h4 => ?_⟩⟩⟩⟩⟩⟩
  have x1 : Ex H (upd H p1 (.lst [])) := Ex.new h1
  have l1 : (upd H p1 (.lst [])) p1 = some (.lst []) := upd_same
  generalize (upd H p1 (.lst [])) = H1 at x1 l1 h2 h3 h5 h6 h4 ⊢
  have x2 : Ex H1 (upd H1 p2 (.lst [.int 1, .str "a"])) := Ex.new h2
  have l2 : (upd H1 p2 (.lst [.int 1, .str "a"])) p2 = some (.lst [.int 1, .str "a"]) := upd_same
  generalize (upd H1 p2 (.lst [.int 1, .str "a"])) = H2 at x2 l2 h3 h5 h6 h4 ⊢
  have x3 : Ex H2 (upd H2 p3 (.lst [.non, .int 1])) := Ex.new h3
  have l3 : (upd H2 p3 (.lst [.non, .int 1])) p3 = some (.lst [.non, .int 1]) := upd_same
  generalize (upd H2 p3 (.lst [.non, .int 1])) = H3 at x3 l3 h5 h6 h4 ⊢
  have x5 : Ex H3 (upd H3 p5 (.lst [.str "1"])) := Ex.new h5
  have l5 : (upd H3 p5 (.lst [.str "1"])) p5 = some (.lst [.str "1"]) := upd_same
  generalize (upd H3 p5 (.lst [.str "1"])) = H5 at x5 l5 h6 h4 ⊢
  have x6 : Ex H5 (upd H5 p6 (.lst [.int 1])) := Ex.new h6
  have l6 : (upd H5 p6 (.lst [.int 1])) p6 = some (.lst [.int 1]) := upd_same
  generalize (upd H5 p6 (.lst [.int 1])) = H6 at x6 l6 h4 ⊢
  have f2 := fresh_back x1 h2
  have f3 := fresh_back (x1.trans x2) h3
  have f5 := fresh_back (x1.trans (x2.trans x3)) h5
  have f6 := fresh_back (x1.trans (x2.trans (x3.trans x5))) h6
  have f4 := fresh_back (x1.trans (x2.trans (x3.trans (x5.trans x6)))) h4
  have x16 := x1.trans (x2.trans (x3.trans (x5.trans x6)))
  have x4 := x16.trans (Ex.new h4 (o := .lst [.int 0, .int 1, .int 2, .int (-7), .str "a", .str "b", .str "", .ref p1, .ref p2, .ref p3, .str "0", .str "1", .ref p5, .ref p6]))
  have y4 : Ex H6 _ := Ex.new h4 (o := .lst [.int 0, .int 1, .int 2, .int (-7), .str "a", .str "b", .str "", .ref p1, .ref p2, .ref p3, .str "0", .str "1", .ref p5, .ref p6])
  have m4 : Mv a H _ := .of_ex x4 sa
  refine ⟨.ref a, rfl, a, 14, rfl, m4.st, by decide, by decide, fun j H' j0 j1 mv same => ?_⟩
  have ne : ∀ {p : Addr}, H p = none → p ≠ a := fun {p} hp z => sa.ne (by rw [← z]; exact hp)
  have m := m4.trans mv
  have k1 := mv.ex p1 _ (ne h1) (y4 _ _ ((x2.trans (x3.trans (x5.trans x6))) _ _ l1))
  have k2 := mv.ex p2 _ (ne f2) (y4 _ _ ((x3.trans (x5.trans x6)) _ _ l2))
  have k3 := mv.ex p3 _ (ne f3) (y4 _ _ ((x5.trans x6) _ _ l3))
  have k5 := mv.ex p5 _ (ne f5) (y4 _ _ (x6 _ _ l5))
  have k6 := mv.ex p6 _ (ne f6) (y4 _ _ l6)
  have sc : ∀ v : V, g4.C v = true → Dn (Sl H) H' 1 1 0 v (.sc v) := fun v hv => ⟨Dc.sc hv, Nat.le_refl _, trivial⟩
  have ls : ∀ (p : Addr) (xs : List V), H p = none → p ≠ sysModules → H' p = some (.lst xs) → (xs.length ≤ 2 ∧ ∀ x ∈ xs, g4.C x = true) → Dn (Sl H) H' 1 1 0 (.ref p) (.ls xs) := fun p xs hp np hl hx => ⟨Dc.ls ⟨hp, np⟩ hl hx, Nat.le_refl _, trivial⟩
  have L4 : SqL K H' p4 [.int 0, .int 1, .int 2, .int (-7), .str "a", .str "b", .str "", .ref p1, .ref p2, .ref p3, .str "0", .str "1", .ref p5, .ref p6] := .inl (.inl (mv.ex p4 _ (ne f4) upd_same))
  have hj : j = 0 ∨ j = 1 ∨ j = 2 ∨ j = 3 ∨ j = 4 ∨ j = 5 ∨ j = 6 ∨ j = 7 ∨ j = 8 ∨ j = 9 ∨ j = 10 ∨ j = 11 ∨ j = 12 ∨ j = 13 := by omega
  rcases hj with rfl | rfl | rfl | rfl | rfl | rfl | rfl | rfl | rfl | rfl | rfl | rfl | rfl | rfl
  · exact ⟨p4, _, 0, _, rfl, rfl, L4, atI_nat (j := 0) rfl, k _ _ _ m (sc _ (by decide +kernel))⟩
  · exact ⟨p4, _, 1, _, rfl, rfl, L4, atI_nat (j := 1) rfl, k _ _ _ m (sc _ (by decide +kernel))⟩
  · exact ⟨p4, _, 2, _, rfl, rfl, L4, atI_nat (j := 2) rfl, k _ _ _ m (sc _ (by decide +kernel))⟩
  · exact ⟨p4, _, 3, _, rfl, rfl, L4, atI_nat (j := 3) rfl, k _ _ _ m (sc _ (by decide +kernel))⟩
  · exact ⟨p4, _, 4, _, rfl, rfl, L4, atI_nat (j := 4) rfl, k _ _ _ m (sc _ (by decide +kernel))⟩
  · exact ⟨p4, _, 5, _, rfl, rfl, L4, atI_nat (j := 5) rfl, k _ _ _ m (sc _ (by decide +kernel))⟩
  · exact ⟨p4, _, 6, _, rfl, rfl, L4, atI_nat (j := 6) rfl, k _ _ _ m (sc _ (by decide +kernel))⟩
  · exact ⟨p4, _, 7, _, rfl, rfl, L4, atI_nat (j := 7) rfl, k _ _ _ m (ls p1 _ h1 n1 k1 (by decide +kernel))⟩
  · exact ⟨p4, _, 8, _, rfl, rfl, L4, atI_nat (j := 8) rfl, k _ _ _ m (ls p2 _ f2 n2 k2 (by decide +kernel))⟩
  · exact ⟨p4, _, 9, _, rfl, rfl, L4, atI_nat (j := 9) rfl, k _ _ _ m (ls p3 _ f3 n3 k3 (by decide +kernel))⟩
  · exact ⟨p4, _, 10, _, rfl, rfl, L4, atI_nat (j := 10) rfl, k _ _ _ m (sc _ (by decide +kernel))⟩
  · exact ⟨p4, _, 11, _, rfl, rfl, L4, atI_nat (j := 11) rfl, k _ _ _ m (sc _ (by decide +kernel))⟩
  · exact ⟨p4, _, 12, _, rfl, rfl, L4, atI_nat (j := 12) rfl, k _ _ _ m (ls p5 _ f5 n5 k5 (by decide +kernel))⟩
  · exact ⟨p4, _, 13, _, rfl, rfl, L4, atI_nat (j := 13) rfl, k _ _ _ m (ls p6 _ f6 n6 k6 (by decide +kernel))⟩
/-! ### _law_patch -/
/-- the most parts of a drawn document so deep -/
def pB : Nat → Nat
  | 0 => 1
  | n + 1 => 1 + 2 * pB n
def spDraw (n : Nat) : Sp := fun vs H Q _ => ∃ a : Addr, vs = [.ref a, .int n] ∧ StAt H a ∧ ∀ v d H', Mv a H H' → Dn (Sl H) H' (n + 1) (pB n) n v d → Q v H'
abbrev nDraw : List Str := ["_law_s", "_law_deep", "_law_way", "_law_found", "_law_turn"]
theorem scDraw : FnScope nDraw ["_law_s", "_law_deep"] (defScope sPatch) := ⟨rfl, rfl, rfl, by decide +kernel, rfl, by decide +kernel, by decide +kernel⟩
theorem pB_pos : ∀ n, 1 ≤ pB n
  | 0 => Nat.le_refl _
  | n + 1 => by show 1 ≤ 1 + 2 * pB n; omega
theorem ok_draw {f fg fa : Addr} {fd fdg fda : FuncData} (Dd : Df K mg "_law_patch" sPatch ["_law_s", "_law_deep"] f fd) (Dg : Df K mg "_law_digit" sDigit ["_law_state_here", "_law_base"] fg fdg) (Da' : Df K mg "_law_atom" sAtom' ["_law_s"] fa fda) (T : Bi mg) :
    ∀ n, FnOk P w K mg base CX0 (n + 3) f fd ["_law_s", "_law_deep"] (spDraw n) := by
  intro n
  have gg : FnOk P w K mg base CX0 (n + 2) fg fdg ["_law_state_here", "_law_base"] spDigit := (ok_digit T Dg).mono (by omega)
  have ga : FnOk P w K mg base CX0 (n + 2) fa fda ["_law_s"] spAtm := (ok_atm T Da' Dg).mono (by omega)
  have ih : ∃ m, (n ≠ 0 → n = m + 1) ∧ FnOk P w K mg base CX0 (n + 2) f fd ["_law_s", "_law_deep"] (fun vs H Q E => n ≠ 0 ∧ spDraw m vs H Q E) := by
    cases n with
    | zero => exact ⟨0, fun z => absurd rfl z, fn_zero fun vs H Q E z => z.1 rfl⟩
    | succ m => exact ⟨m, fun _ => rfl, (ok_draw Dd Dg Da' T m).imp fun vs H Q E z => z.2⟩
  obtain ⟨m', hm', ih⟩ := ih
  refine Dd.F.ok scDraw (fun vs H Q E h => ?_) (fun cdv A outer s H vs Q E hr h => ?_)
  · obtain ⟨a, rfl, _⟩ := h
    rfl
  obtain ⟨a, rfl, sa, k⟩ := h
  have hu := hu_of hr
  refine ⟨_, pss_cons (ps_set (i := 2) scDraw.nd rfl (Or.inl rfl) (pe_call gg hr rfl Dg.m Dg.F.kp Dg.b .nil pass0 (pa_cons (pv 0) (pa_cons pe_int pa_nil))))
    (pss_cons (ps_if (pt_cmpR op_eq (pv 2) pe_int (nomark _)) (pss_one (ps_ret pe_non)) pss_nil)
    (pss_cons (ps_if (PW.pt (pw_or (pt_cmpR op_eq (pv 2) pe_int (nomark _)) (pw_or1 (pt_cmpR op_eq (pv 1) pe_int (nomark _))))) (pss_one (ps_ret (pe_call ga hr rfl Da'.m Da'.F.kp Da'.b .nil pass0 (pa_cons (pv 0) pa_nil)))) pss_nil)
    (pss_cons (ps_set (i := 3) scDraw.nd rfl (Or.inl rfl) pe_dnewK)
    (pss_cons (ps_for PassesOwn.never rfl (pi_range1 (by rfl) (T.of "range") (pa_cons (pe_call gg hr rfl Dg.m Dg.F.kp Dg.b .nil pass0 (pa_cons (pv 0) (pa_cons pe_int pa_nil))) pa_nil)) (pg_name (i := 4) scDraw.nd rfl (Or.inl rfl))
      (pss_one (ps_dput hu (pv 3) (pe_ix ix_list (pe_lst (pa_cons pe_str (pa_cons pe_str (pa_cons pe_str pa_nil)))) (pe_call gg hr rfl Dg.m Dg.F.kp Dg.b .nil pass0 (pa_cons (pv 0) (pa_cons pe_int pa_nil))) (fun _ _ => rfl))
        (pe_call ih hr rfl Dd.m Dd.F.kp Dd.b .nil pass0 (pa_cons (pv 0) (pa_cons (pe_op op_sub (pv 1) pe_int) pa_nil))) rfl)))
    (pss_one (ps_ret (pe_know (pv 3)))))))), ?_⟩
  refine ⟨.ref a, rfl, a, 5, rfl, sa, by decide, by decide, fun w0 H1 _ _ m1 _ => ?_⟩
  refine ⟨_, rfl, rfl, _, rfl, ite2 (fun c => ?_) fun c => ?_⟩
  · exact k .non (.sc .non) H1 m1 ⟨Dc.sc (by decide +kernel), pB_pos n, trivial⟩
  refine ⟨_, rfl, rfl, _, rfl, ?_⟩
  have atom_way : tCall spAtm [] E0 (tCons (tVar 0) tNil) [some (.ref a), some (.int n), some (.int w0), none, none] H1 Q :=
    ⟨.ref a, rfl, a, rfl, m1.st, fun v d H2 m2 dn => k v d H2 (m1.trans m2) ⟨(dn.dc.lift (by omega)).imp fun x hx => ⟨m1.free sa.ne hx.1, hx.2⟩, dn.pd.mono (pB_pos n), dn.dd.mono (Nat.zero_le n)⟩⟩
  refine ite2 (fun c1 => iteT atom_way) fun c1 => ?_
  refine ⟨_, rfl, rfl, _, rfl, ite2 (fun c2 => atom_way) fun c2 => ?_⟩
  -- an object
  have hn : n ≠ 0 := fun z => c2 (by rw [z]; rfl)
  have em := hm' hn
  subst em
  intro Fa hF
  have hFH : H Fa = none := m1.free sa.ne hF
  have mF : Mv a H (upd H1 Fa (.dK [])) := m1.new hF
  refine ⟨.ref a, rfl, a, 3, rfl, mF.st, by decide, by decide, fun t H2 t0 t1 m2 same2 => ⟨t, rfl, by omega, by omega, ?_⟩⟩
  have nFa : Fa ≠ a := fun z => m1.st.ne (by rw [← z]; exact hF)
  refine for_range (lo := 0) (n := t.toNat) (fun i σ H3 => (∃ x, σ = [some (.ref a), some (.int ((m' + 1 : Nat) : Int)), some (.int w0), some (.ref Fa), x]) ∧ Mv a H H3 ∧ ∃ ms f, ms.length ≤ i ∧ H3 Fa = some (.dK (kvsOf ms)) ∧ Mem (fun x => Sl H x ∧ x ≠ Fa) g4 H3 (m' + 1) ms f ∧ (∀ k, PD (f k) (pB m')) ∧ ∀ k, DD (f k) m') ?_ ?_ ?_
  · refine ⟨⟨_, rfl⟩, mF.trans m2, [], fun _ => .nil, Nat.le_refl _, ?_, Mem.nil, fun _ => trivial, fun _ => trivial⟩
    rw [same2 Fa nFa, upd_same]
    rfl
  · rintro i σ H3 hi ⟨⟨x, rfl⟩, m3, ms, f, hle, h3, M3, hp, hd⟩
    refine ⟨.ref a, rfl, _, rfl, _, _, rfl, rfl, hn, a, by show [V.ref a, V.int (((m' + 1 : Nat) : Int) - 1)] = _; rw [show ((m' + 1 : Nat) : Int) - 1 = (m' : Int) by omega], m3.st, fun v d H4 m4 dn => ?_⟩
    have hS3 : ¬ (Sl H a ∧ a ≠ Fa) := fun z => sa.ne z.1.1
    have h4 := m4.ex Fa _ nFa h3
    have M4 := M3.mv m4 hS3
    have dv : Dc (fun x => Sl H x ∧ x ≠ Fa) g4 H4 (m' + 1) v d := dn.dc.imp fun x hx => ⟨⟨m3.free sa.ne hx.1, hx.2⟩, (ne_of_none h3 hx.1).symm⟩
    refine ⟨.ref Fa, rfl, (by show 3 ≤ sizeLine; decide), fun p hp' => ?_⟩
    have nFp : Fa ≠ p := ne_of_none h4 hp'
    have m5 := (m3.trans m4).new (o := .lst [.str "a", .str "b", .str "c"]) hp'
    have hp5 : H p = none := (m3.trans m4).free sa.ne hp'
    refine ⟨.ref a, rfl, a, 3, rfl, m5.st, by decide, by decide, fun j H6 j0 j1 m6 same6 => ?_⟩
    have npa : p ≠ a := fun z => sa.ne (by rw [← z]; exact hp5)
    have l6 : SqL K H6 p [.str "a", .str "b", .str "c"] := .inl (.inl (by rw [same6 p npa, upd_same]))
    have h6 : H6 Fa = some (.dK (kvsOf ms)) := by rw [same6 Fa nFa, upd_ne nFp]; exact h4
    have M6 : Mem (fun x => Sl H x ∧ x ≠ Fa) g4 H6 (m' + 1) ms f := (M4.ex (Ex.new hp')).mv m6 hS3
    have dv6 : Dc (fun x => Sl H x ∧ x ≠ Fa) g4 H6 (m' + 1) v d := (dv.ex (Ex.new hp')).mv m6 hS3
    have hj : j = 0 ∨ j = 1 ∨ j = 2 := by omega
    have sel : ∃ key : Str, key ∈ g4.KS ∧ atI [V.str "a", .str "b", .str "c"] j = some (.str key) := by
      rcases hj with rfl | rfl | rfl
      · exact ⟨"a", by decide +kernel, atI_nat (j := 0) rfl⟩
      · exact ⟨"b", by decide +kernel, atI_nat (j := 1) rfl⟩
      · exact ⟨"c", by decide +kernel, atI_nat (j := 2) rfl⟩
    obtain ⟨key, hk, at'⟩ := sel
    refine ⟨p, _, j, _, rfl, rfl, l6, at', Fa, _, rfl, DPut.k (k := Sum.inr key) h6 (sizeK (by decide) M6), ⟨_, rfl⟩, (m5.trans m6).mut sa.ne hFH h6, putK ms key v, D.fup f key d, Nat.le_trans (length_putK _ _ _) (Nat.succ_le_succ hle), by rw [upd_same, putK_inK], (M6.put hk dv6).off (fun z => z.2 rfl), ?_, ?_⟩
    · intro q
      unfold D.fup
      split
      · exact dn.pd
      · exact hp q
    · intro q
      unfold D.fup
      split
      · exact dn.dd
      · exact hd q
  · rintro σ H3 ⟨⟨x, rfl⟩, m3, ms, f, hle, h3, M3, hp, hd⟩
    refine ⟨_, rfl, fun know => k (.ref Fa) (.ob f) H3 m3 ⟨Dc.ob ⟨hFH, know Fa _ h3⟩ h3 (M3.imp fun x hx => hx.1), ?_, ?_⟩⟩
    · refine ⟨ms.map (·.1), fun _ => pB m', fun k hk => ?_, hp, ?_⟩
      · cases e : valV ms k with
        | none => rw [M3.no k e] at hk; cases hk
        | some u => exact List.mem_map.mpr ⟨_, valV_mem e, rfl⟩
      · rw [List.map_map, show ((fun _ => pB m') ∘ fun x : Str × V => x.1) = fun _ => pB m' from rfl, List.map_const', List.sum_replicate_nat]
        show 1 + ms.length * pB m' ≤ 1 + 2 * pB m'
        have : ms.length ≤ 2 := by omega
        have := Nat.mul_le_mul_right (pB m') this
        omega
    · exact ⟨by omega, fun k => hd k⟩
end
end TP

namespace TP
open PySem PySem.Spec PyProof.Rows L2
abbrev sLCopied : Stmt := topS 35
abbrev sLAfter : Stmt := topS 36
-- no sLTurned
/-- ps: new pairs (key, value), one for each member -/
abbrev PairsAt (H : Hp) : List Addr → List (Str × V) → Prop := Paired fun p m => H p = some (.tup [.str m.1, m.2])
theorem PairsAt.ex [TabL] {H H' ps ms} (e : Ex H H') (h : PairsAt H ps ms) : PairsAt H' ps ms := Paired.mapP h fun p m z => e p _ z
theorem PairsAt.toK {K : PySem.W.Frag} {H : Hp} {ps : List Addr} {ms : List (Str × V)} (h : PairsAt H ps ms) : Paired (fun p (kv : Key × V) => SqT K H p [kV kv.1, kv.2]) ps (kvsOf ms) := by
  induction h with
  | nil => exact .nil
  | cons a _ ih => exact .cons (.inl (.inl a)) ih
/-- one more pair -/
theorem PairsAt.more [TabL] {H H' : Hp} {ps ms p m} (h : PairsAt H ps ms) (e : Ex H H') (hp : H' p = some (.tup [.str m.1, m.2])) : PairsAt H' (ps ++ [p]) (ms ++ [m]) := Paired.snoc (h.ex e) hp
section
variable [TabL] {P : Program} {w : World} {K : PySem.W.Frag} {mg : Str → Option Value} {base : Heap}
theorem scLCopied : FnScope ["_law_value", "_law_key"] ["_law_value"] (defScope sLCopied) := ⟨rfl, rfl, rfl, by decide +kernel, rfl, by decide +kernel, by decide +kernel⟩
theorem ok_lcopied {f : Addr} {fd : FuncData} (Dd : Df K mg "_law_copied" sLCopied ["_law_value"] f fd) (T : Bi mg) {G : Gen} (hG : G.KS.length ≤ 5000) : ∀ n, FnOk P w K mg base CX0 n f fd ["_law_value"] (spCopied G n)
  | 0 => fn_zero fun vs H Q E ⟨_, _, _, _, h, _⟩ => h
  | n + 1 => by
    have ih := ok_lcopied Dd T hG n
    refine Dd.F.ok scLCopied (fun vs H Q E h => ?_) (fun cdv A outer s H vs Q E hr h => ?_)
    · obtain ⟨_, v, d, rfl, _⟩ := h
      rfl
    obtain ⟨S, v, d, rfl, hv, k⟩ := h
    have hu := hu_of hr
    refine ⟨_, pss_cons (ps_if (pt_val (pe_callB call_isi (by rfl) (T.of "isinstance") (by decide +kernel) (pa_cons (pv 0) (pa_cons (pe_bltn (v := .ty "dict") (by rfl) (T.of "dict") (by decide +kernel) rfl) pa_nil))))
        (pss_one (ps_ret (pe_callTy (call_dictP rfl) (by rfl) (T.of "dict") (by decide +kernel) (pa_cons (pe_lock (pe_lc (own := [("_law_key", 1)]) (g := gName 1) (tt := tYes) rfl scLCopied.nd (pi_keys (pv 0)) (blkOk_by (N := ["_law_value", "_law_key"]) (sc := defScope sLCopied) (by decide +kernel))
          (fun _ _ _ _ _ => pg_name (i := 1) scLCopied.nd rfl (Or.inl rfl)) (fun _ _ _ _ _ => pts_nil)
          (fun _ _ _ _ _ => pe_tup (pa_cons (pv 1) (pa_cons (pe_call ih hr rfl Dd.m Dd.F.kp Dd.b .nil pass0 (pa_cons (pe_dget hu (pv 0) (pv 1) (fun _ _ => rfl)) pa_nil)) pa_nil))))) pa_nil)))) pss_nil)
      (pss_one (ps_ret (pe_ifExp (pt_val (pe_callB call_isi (by rfl) (T.of "isinstance") (by decide +kernel) (pa_cons (pv 0) (pa_cons (pe_bltn (v := .ty "list") (by rfl) (T.of "list") (by decide +kernel) rfl) pa_nil))))
        (pe_callTy call_list_of (by rfl) (T.of "list") (by decide +kernel) (pa_cons (pv 0) pa_nil)) (pv 0)))), ?_⟩
    obtain ⟨t1, ty1, kit1⟩ := isiD K hv
    obtain ⟨t2, ty2, kit2⟩ := isiL K hv
    refine ⟨v, rfl, v, .ty "dict", t1, _, _, rfl, .ty _, ty1, kit1, _, rfl, ?_⟩
    refine hv.cases (fun m e hs ed => ?_) (fun m a xs e ev hS r hx ed => ?_) (fun m a ms f e ev hS r M ed => ?_)
    · subst ed
      refine iteF ⟨v, rfl, v, .ty "list", t2, _, _, rfl, .ty _, ty2, kit2, _, rfl, iteF ⟨v, rfl, ?_⟩⟩
      exact k v H (Ex.refl H) (by cases e; exact Dc.sc hs)
    · subst ed; subst ev
      refine iteF ⟨_, rfl, .ref a, .ty "list", t2, _, _, rfl, .ty _, ty2, kit2, _, rfl, iteT ⟨_, rfl, a, xs, rfl, .inl (.inl (.inl r)), fun l hl => ?_⟩⟩
      exact k _ _ (Ex.new hl) (by cases e; exact Dc.ls hl upd_same hx)
    subst ed; subst ev; cases e
    refine iteT ⟨a, _, r, trivial, fun od => ⟨_, rfl, a, od, rfl, .inl ⟨_, upd_same, fun Da hD => ?_⟩⟩⟩
    have M' := M.lock r hS (o := .frz od (.dK (kvsOf ms)))
    have hDa : Da ≠ a := fun z => by rw [z, upd_same] at hD; cases hD
    have hDH : H Da = none := by rw [upd_ne hDa] at hD; exact hD
    have hml := M.len
    refine lc_keys (o := od) (d := a) (ms := ms) (fun i H2 => Ex (upd H a (.frz od (.dK (kvsOf ms)))) H2 ∧ ∃ ps ms3, H2 Da = some (.lst (ps.map V.ref)) ∧ ps.length = i ∧ PairsAt H2 ps ms3 ∧ (∀ p ∈ ps, p ≠ Da) ∧ Mem (fun b => H b = none ∧ b ≠ Da) G H2 n ms3 (mix ms i f fun _ => .nil) ∧ ms3.map (·.1) = (ms.take i).map (·.1)) ?_ ?_ ?_ ?_
    · exact ⟨Ex.new hD, [], [], upd_same, rfl, .nil, fun p hp => (nomatch hp), by rw [mix_zero]; exact Mem.nil, rfl⟩
    · exact fun i H2 _ q => q.1 a _ upd_same
    · rintro i key u H2 hi ⟨ex, ps, ms3, h2, hl, hps, hne, M2, hk⟩
      have hku : valV ms key = some u := valV_of_mem M.nd (List.mem_of_getElem? hi)
      refine ⟨rfl, t_yes ?_⟩
      refine ⟨.str key, rfl, .ref a, rfl, .str key, rfl, a, u, rfl, .inl ⟨_, Sum.inr key, .inr ⟨od, ex a _ upd_same⟩, rfl, by rw [valV_inK]; exact hku.symm⟩, S, u, f key, rfl, (M'.at' key u hku).ex ex, fun z H5 e5 hz => ⟨(by show 2 ≤ sizeLine; decide), fun p hp => ?_⟩⟩
      have h5 := e5 Da _ h2
      have nz : Dc (fun b => H b = none ∧ b ≠ Da) G H5 n z (f key) := hz.imp fun b hb => by
        have q := fresh_back ex hb
        by_cases zz : b = a
        · rw [zz, upd_same] at q; cases q
        · rw [upd_ne zz] at q
          exact ⟨q, (ne_of_none h2 hb).symm⟩
      have npD : p ≠ Da := (ne_of_none h5 hp).symm
      have new : valV ms3 key = none := valV_none_of (by rw [hk]; exact not_taken M.nd hi)
      have e6 : Ex H2 (upd H5 p (.tup [.str key, z])) := e5.trans (Ex.new hp)
      refine ⟨ps.map V.ref, by rw [upd_ne npD.symm]; exact h5, ?_, Ex.mut (ex.trans e6) hD (by rw [upd_ne npD.symm]; exact h5), ps ++ [p], ms3 ++ [(key, z)], ?_, ?_, ?_, ?_, ?_, ?_⟩
      · have := (List.getElem?_eq_some_iff.mp hi).1
        rw [List.length_map, hl]
        exact Nat.lt_of_le_of_lt (show i ≤ 5000 by omega) (by decide)
      · rw [upd_same, List.map_append]; rfl
      · rw [List.length_append, hl]; rfl
      · refine Paired.snoc (pairs_map hps fun q m hq hqm => ?_) ?_
        · rw [upd_ne (hne q hq)]
          exact e6 q _ hqm
        · show (upd _ Da _) p = _
          rw [upd_ne npD, upd_same]
      · intro q hq
        rcases List.mem_append.mp hq with hq | hq
        · exact hne q hq
        · rw [List.mem_singleton.mp hq]; exact npD
      · rw [← mix_succ hi, ← putK_new z new]
        exact (((M2.ex e5).put (M.ks key (List.mem_map.mpr ⟨_, List.mem_of_getElem? hi, rfl⟩)) nz).ex (Ex.new hp)).off fun z => z.2 rfl
      · rw [List.map_append, hk, List.take_add_one, hi]
        simp
    rintro H2 ⟨ex, ps, ms3, h2, hl, hps, hne, M2, hk⟩
    refine ⟨ex a _ upd_same, ?_⟩
    have ex' : Ex H (upd H2 a (.dK (kvsOf ms))) := ex_unlock r ex
    have nps : ∀ p ∈ ps, p ≠ a := fun p hp z => by
      obtain ⟨m, hm⟩ := pairs_at hps hp
      rw [z, ex a _ upd_same] at hm
      cases hm
    refine ⟨Da, ps, kvsOf ms3, rfl, .inl (.inl (by rw [upd_ne hDa]; exact h2)), PairsAt.toK (pairs_map hps fun p m hp hpm => by rw [upd_ne (nps p hp)]; exact hpm), fun Fa hF => ?_⟩
    rw [mix_all fun k hk => M.no k (valV_none_of hk)] at M2
    have M3 := M2.off (a := a) (o := .dK (kvsOf ms)) (fun z => by rw [z.1] at r; cases r)
    rw [show mergeK [] (kvsOf ms3) = kvsOf ms3 from merge_nodup ms3 [] (by simpa using M2.nd)]
    exact k _ _ (ex'.trans (Ex.new hF)) (Dc.ob (fresh_back ex' hF) upd_same ((M3.imp fun b hb => hb.1).ex (Ex.new hF)))
end
end TP

namespace TP
open PySem PySem.Spec PyProof.Rows L2
section
variable [TabL] {P : Program} {w : World} {K : PySem.W.Frag} {mg : Str → Option Value} {base : Heap}
/-- a copy of d if isinstance(d, dict) else {} -/
theorem t_dictcopy {K : PySem.W.Frag} {S : Addr → Prop} {G : Gen} {H : Hp} {n : Nat} {v : V} {d : D} {i : Nat} {σ : L2.St} {Q : VK} (hσ : σ[i]? = some (some v)) (hv : Dc S G H (n + 1) v d)
    (h : ∀ a1 ms1 H1, Ex H H1 → H1 a1 = some (.dK (kvsOf ms1)) → H a1 = none → Mem (fun b => H b = none ∧ b ≠ a1) G H1 n ms1 d.tgt → Q (.ref a1) H1) :
    tIf (tB (tCB (rIsi K) (tCons (tVar i) (tCons (tC (.ty "dict")) tNil)))) (tCall (spCopied G (n + 1)) [] E0 (tCons (tVar i) tNil)) tDNewK σ H Q := by
  obtain ⟨t1, ty1, kit1⟩ := isiD K hv
  refine ⟨v, hσ, v, .ty "dict", t1, _, _, rfl, .ty _, ty1, kit1, _, rfl, ?_⟩
  have none_way : d.isOb = false → d.tgt = (fun _ => .nil) → (if d.isOb = true then tCall (spCopied G (n + 1)) [] E0 (tCons (tVar i) tNil) σ H Q else tDNewK σ H Q) := fun e e2 => by
    rw [e]
    exact iteF fun p hp => h p [] _ (Ex.new hp) upd_same hp (by rw [e2]; exact Mem.nil)
  refine hv.cases (fun m _ _ e => ?_) (fun m a xs _ _ _ _ _ e => ?_) (fun m a ms f em ev hS r M e => ?_)
  · exact none_way (by rw [e]; rfl) (by rw [e]; rfl)
  · exact none_way (by rw [e]; rfl) (by rw [e]; rfl)
  · subst e
    refine iteT ⟨v, hσ, S, v, _, rfl, hv, fun z H' ex hz => ?_⟩
    refine hz.cases (fun _ _ _ e => nomatch e) (fun _ _ _ _ _ _ _ _ e => nomatch e) (fun m2 a1 ms1 f1 em1 e1 s1 r1 M1 e2 => ?_)
    cases em1; subst e1
    injection e2 with e2
    subst e2
    exact h a1 ms1 H' ex r1 s1 (M1.avoid r1 s1)
abbrev nLAfter : List Str := ["_law_document", "_law_patch_here", "_law_found", "_law_key", "_law_other"]
theorem scLAfter : FnScope nLAfter ["_law_document", "_law_patch_here"] (defScope sLAfter) := ⟨rfl, rfl, rfl, by decide +kernel, rfl, by decide +kernel, by decide +kernel⟩
theorem ok_lafter {f fc : Addr} {fd fdc : FuncData} (Dd : Df K mg "_law_after" sLAfter ["_law_document", "_law_patch_here"] f fd) (Dc' : Df K mg "_law_copied" sLCopied ["_law_value"] fc fdc) (T : Bi mg) {G : Gen} (hG : G.KS.length ≤ 5000) (hN : G.C .non = true) :
    ∀ n, FnOk P w K mg base CX0 (n + 1) f fd ["_law_document", "_law_patch_here"] (spPatched G n)
  | 0 => fn_zero fun vs H Q E ⟨_, _, _, _, _, _, _, h, _⟩ => h
  | n + 1 => by
    have ih := ok_lafter Dd Dc' T hG hN n
    have gc : FnOk P w K mg base CX0 (n + 1) fc fdc ["_law_value"] (spCopied G (n + 1)) := ok_lcopied Dc' T hG (n + 1)
    refine Dd.F.ok scLAfter (fun vs H Q E h => ?_) (fun cdv A outer s H vs Q E hr h => ?_)
    · obtain ⟨_, _, v1, v2, d, p, rfl, _⟩ := h
      rfl
    obtain ⟨S1, S2, v1, v2, d, p, rfl, h1, h2, dis, k⟩ := h
    have hu := hu_of hr
    refine ⟨_, pss_cons (ps_if (pt_not (pt_val (pe_callB call_isi (by rfl) (T.of "isinstance") (by decide +kernel) (pa_cons (pv 1) (pa_cons (pe_bltn (v := .ty "dict") (by rfl) (T.of "dict") (by decide +kernel) rfl) pa_nil)))))
        (pss_one (ps_ret (pe_call gc hr rfl Dc'.m Dc'.F.kp Dc'.b .nil pass0 (pa_cons (pv 1) pa_nil)))) pss_nil)
      (pss_cons (ps_set (i := 2) scLAfter.nd rfl (Or.inr rfl) (pe_ifExp (pt_val (pe_callB call_isi (by rfl) (T.of "isinstance") (by decide +kernel) (pa_cons (pv 0) (pa_cons (pe_bltn (v := .ty "dict") (by rfl) (T.of "dict") (by decide +kernel) rfl) pa_nil))))
        (pe_call gc hr rfl Dc'.m Dc'.F.kp Dc'.b .nil pass0 (pa_cons (pv 0) pa_nil)) pe_dnewK))
      (pss_cons (ps_lock (ps_for PassesOwn.never rfl (pi_keys (pv 1)) (pg_name (i := 3) scLAfter.nd rfl (Or.inr rfl))
          (pss_one (ps_if (pt_cmpR op_notN (pe_dget hu (pv 1) (pv 3) (fun _ _ => rfl)) pe_non (nomark _))
            (pss_one (ps_dput hu (pv 2) (pv 3) (pe_call ih hr rfl Dd.m Dd.F.kp Dd.b .nil pass0 (pa_cons (pe_dget1 hu (pv 2) (pv 3) ⟨rfl, rfl, rfl, rfl⟩) (pa_cons (pe_dget hu (pv 1) (pv 3) (fun _ _ => rfl)) pa_nil))) rfl))
            (pss_one (ps_if (pt_cmp (pc_din hu (pv 3) (pv 2)))
              (pss_one (ps_set (i := 2) scLAfter.nd rfl (Or.inr rfl) (pe_callTy (call_dictP rfl) (by rfl) (T.of "dict") (by decide +kernel) (pa_cons (pe_lock (pe_lc (own := [("_law_other", 4)]) (g := gName 4) rfl scLAfter.nd (pi_keys (pv 2)) (blkOk_by (N := nLAfter) (sc := defScope sLAfter) (by decide +kernel))
                (fun _ _ _ _ _ => pg_name (i := 4) scLAfter.nd rfl (Or.inl rfl)) (fun _ _ _ _ _ => pts_one (pt_cmpR op_ne (pv 4) (pv 3) (nomark _)))
                (fun _ _ _ _ _ => pe_tup (pa_cons (pv 4) (pa_cons (pe_dget hu (pv 2) (pv 4) (fun _ _ => rfl)) pa_nil))))) pa_nil)))) pss_nil))))))
      (pss_one (ps_ret (pv 2))))), ?_⟩
    obtain ⟨t1, ty1, kit1⟩ := isiD K h2
    refine ⟨v2, rfl, v2, .ty "dict", t1, _, _, rfl, .ty _, ty1, kit1, _, rfl, ?_⟩
    have atom_way : p.isOb = false → (∀ e, D.app e p = p) → tCall (spCopied G (n + 1)) [] E0 (tCons (tVar 1) tNil) (start nLAfter [v1, v2]) H Q := fun _ e2 =>
      ⟨v2, rfl, S2, v2, p, rfl, h2, fun r H' ex hr' => k r H' ex (by rw [e2]; exact hr')⟩
    refine h2.cases (fun m _ _ e => ?_) (fun m a xs _ _ _ _ _ e => ?_) (fun m a2 ms2 g em ev hS2 r2 M2 e => ?_)
    · subst e
      exact iteT (atom_way rfl fun _ => rfl)
    · subst e
      exact iteT (atom_way rfl fun _ => rfl)
    subst e; subst ev; cases em
    refine iteF ?_
    refine t_dictcopy (n := n) rfl h1 fun a1 ms1 H1 ex1 r1 n1 M1 => ?_
    have M2a := M2.alloc
    have na12 : a2 ≠ a1 := ne_of_none r2 n1
    have hS2' : (fun x => S2 x ∧ H x ≠ none) a2 := ⟨hS2, by rw [r2]; exact fun y => nomatch y⟩
    refine ⟨a2, _, ex1 a2 _ r2, trivial, fun od2 => ?_⟩
    have N2 : Mem (fun x => S2 x ∧ H x ≠ none) G (upd H a2 (.frz od2 (.dK (kvsOf ms2)))) n ms2 g := M2a.lock r2 hS2'
    refine ⟨_, rfl, a2, od2, rfl, .inl ⟨_, upd_same, ?_⟩⟩
    refine for_keys (o := od2) (d := a2) (ms := ms2) (fun i σ H5 => ∃ Fa ms5 f5, (∃ v3 v4, σ = [some v1, some (.ref a2), some (.ref Fa), v3, v4]) ∧ H Fa = none ∧ Ex (upd H a2 (.frz od2 (.dK (kvsOf ms2)))) H5 ∧ H5 Fa = some (.dK (kvsOf ms5)) ∧ Mem (fun b => H b = none ∧ b ≠ Fa) G H5 n ms5 f5 ∧
      f5 = mix ms2 i (fun k => if (g k).isNil then d.tgt k else if (g k).isNon then .nil else D.app (d.tgt k) (g k)) d.tgt) ?_ ?_ ?_ ?_
    · exact ⟨a1, ms1, _, ⟨_, _, rfl⟩, n1, Ex.both ex1 r2, by rw [upd_ne na12.symm]; exact r1, M1.off (fun z => by rw [z.1] at r2; cases r2), mix_zero.symm⟩
    · exact fun i σ H5 _ ⟨_, _, _, _, _, ex, _⟩ => ex a2 _ upd_same
    · rintro i key u σ H5 hi ⟨Fa, ms5, f5, ⟨v3, v4, rfl⟩, nF, ex, h5, M5, hf⟩
      have hku : valV ms2 key = some u := valV_of_mem M2.nd (List.mem_of_getElem? hi)
      have hk : key ∈ ms2.map (·.1) := List.mem_map.mpr ⟨_, List.mem_of_getElem? hi, rfl⟩
      have hu2 := (N2.at' key u hku).ex ex
      have l2 : Rd H5 a2 (.dK (kvsOf ms2)) := .inr ⟨od2, ex a2 _ upd_same⟩
      have l5 : Rd H5 Fa (.dK (kvsOf ms5)) := .inl h5
      have nFl : (upd H a2 (.frz od2 (.dK (kvsOf ms2)))) Fa = none := by rw [upd_ne (ne_of_none r2 nF).symm]; exact nF
      have fk : f5 key = d.tgt key := by rw [hf]; exact mix_new M2.nd hi
      refine ⟨.ref a2, rfl, .str key, rfl, a2, u, rfl, .inl ⟨_, Sum.inr key, l2, rfl, by rw [valV_inK]; exact hku.symm⟩, rfl, _, rfl, ?_⟩
      have nn := hu2.ne_nil
      have nd := hu2.non
      by_cases c : u = .non
      · subst c
        refine iteF ?_
        have ak : (if (g key).isNil = true then d.tgt key else if (g key).isNon = true then D.nil else D.app (d.tgt key) (g key)) = D.nil := by
          rw [nn, nd]
          rfl
        refine ⟨.str key, rfl, .ref Fa, rfl, Fa, valV ms5 key, rfl, .inl ⟨_, Sum.inr key, l5, rfl, (valV_inK ms5 key).symm⟩, _, rfl, ?_⟩
        cases e : valV ms5 key with
        | none =>
          refine iteF ⟨Fa, ms5, f5, ⟨_, _, rfl⟩, nF, ex, h5, M5, hf.trans (mix_skip hi ?_)⟩
          rw [ak, ← fk, M5.no key e]
        | some t5 =>
          refine iteT ⟨Fa, _, h5, trivial, fun od5 => ⟨_, rfl, Fa, od5, rfl, .inl ⟨_, upd_same, fun Db hD => ?_⟩⟩⟩
          have hDF : Db ≠ Fa := fun z => by rw [z, upd_same] at hD; cases hD
          have hD5 : H5 Db = none := by rw [upd_ne hDF] at hD; exact hD
          have hml := M5.len
          refine lc_keys (o := od5) (d := Fa) (ms := ms5) (fun j H6 => Ex (upd H5 Fa (.frz od5 (.dK (kvsOf ms5)))) H6 ∧ ∃ ps, H6 Db = some (.lst (ps.map V.ref)) ∧ ps.length ≤ j ∧ PairsAt H6 ps ((ms5.take j).filter fun p => decide (p.1 ≠ key)) ∧ ∀ p ∈ ps, p ≠ Db ∧ p ≠ Fa) ?_ ?_ ?_ ?_
          · exact ⟨Ex.new hD, [], upd_same, Nat.le_refl _, .nil, fun p hp => nomatch hp⟩
          · exact fun i H2 _ q => q.1 Fa _ upd_same
          · rintro j ok u6 H6 hj ⟨e6, ps, h6, hl, hps, hne⟩
            have hok : valV ms5 ok = some u6 := valV_of_mem M5.nd (List.mem_of_getElem? hj)
            refine ⟨rfl, .str ok, rfl, .str key, rfl, rfl, _, rfl, ?_⟩
            by_cases c : ok = key
            · subst c
              refine ifF (by simp) ⟨e6, ps, h6, by omega, ?_, hne⟩
              rw [List.take_add_one, hj, Option.toList_some, List.filter_append]
              simpa using hps
            · have c' : ¬ V.str ok = V.str key := fun z => c (by injection z)
              refine ifT (by simp [c']) ⟨.str ok, rfl, .ref Fa, rfl, .str ok, rfl, Fa, u6, rfl, .inl ⟨_, Sum.inr ok, .inr ⟨od5, e6 Fa _ upd_same⟩, rfl, by rw [valV_inK]; exact hok.symm⟩, (by show 2 ≤ sizeLine; decide), fun p hp => ?_⟩
              have npD : p ≠ Db := (ne_of_none h6 hp).symm
              have npF : p ≠ Fa := (ne_of_none (e6 Fa _ upd_same) hp).symm
              refine ⟨ps.map V.ref, by rw [upd_ne npD.symm]; exact h6, ?_, Ex.mut (e6.trans (Ex.new hp)) hD (by rw [upd_ne npD.symm]; exact h6), ps ++ [p], ?_, ?_, ?_, ?_⟩
              · have := (List.getElem?_eq_some_iff.mp hj).1
                rw [List.length_map]
                exact Nat.lt_of_le_of_lt (show _ ≤ 5000 by omega) (by decide)
              · rw [upd_same, List.map_append]; rfl
              · rw [List.length_append]; show ps.length + 1 ≤ j + 1; omega
              · rw [List.take_add_one, hj, Option.toList_some, List.filter_append]
                rw [show List.filter (fun p => decide (p.1 ≠ key)) [(ok, u6)] = [(ok, u6)] by simp [c]]
                refine Paired.snoc (pairs_map hps fun q m hq hqm => ?_) ?_
                · rw [upd_ne (hne q hq).1]
                  exact Ex.new hp q _ hqm
                · show (upd _ Db _) p = _
                  rw [upd_ne npD, upd_same]
              · intro q hq
                rcases List.mem_append.mp hq with hq | hq
                · exact hne q hq
                · rw [List.mem_singleton.mp hq]; exact ⟨npD, npF⟩
          rintro H6 ⟨e6, ps, h6, hl, hps, hne⟩
          refine ⟨e6 Fa _ upd_same, ?_⟩
          have ex' : Ex H5 (upd H6 Fa (.dK (kvsOf ms5))) := ex_unlock h5 e6
          rw [List.take_length] at hps
          have MF := M5.drop key
          refine ⟨Db, ps, kvsOf (ms5.filter fun p => decide (p.1 ≠ key)), rfl, .inl (.inl (by rw [upd_ne hDF]; exact h6)), PairsAt.toK (pairs_map hps fun p m hp hpm => by rw [upd_ne (hne p hp).2]; exact hpm), fun Fb hF => ?_⟩
          rw [show mergeK [] (kvsOf (ms5.filter fun p => decide (p.1 ≠ key))) = kvsOf (ms5.filter fun p => decide (p.1 ≠ key)) from merge_nodup _ [] (by simpa using MF.nd)]
          have nFb5 : H5 Fb = none := fresh_back ex' hF
          have nFb : H Fb = none := by
            have q := fresh_back ex nFb5
            by_cases zz : Fb = a2
            · rw [zz, upd_same] at q; cases q
            · rwa [upd_ne zz] at q
          refine ⟨Fb, _, _, ⟨_, _, rfl⟩, nFb, (ex.trans ex').trans (Ex.new hF), upd_same, ((MF.alloc.ex ex').ex (Ex.new hF)).imp fun b hb => ⟨hb.1.1, fun z => hb.2 (by rw [z]; exact nFb5)⟩, ?_⟩
          rw [hf, ← mix_succ hi, ak]
      · refine ifT (by simp [c]) ?_
        refine ⟨.ref Fa, rfl, Fa, rfl, .inl ⟨_, l5⟩, .str key, rfl, valV ms5 key, .inl ⟨_, Sum.inr key, l5, rfl, (valV_inK ms5 key).symm⟩, .ref a2, rfl, .str key, rfl, a2, u, rfl, .inl ⟨_, Sum.inr key, l2, rfl, by rw [valV_inK]; exact hku.symm⟩, ?_⟩
        have dt : ∃ e, Dc (fun b => H b = none ∧ b ≠ Fa) G H5 n ((valV ms5 key).getD .non) e ∧ e.tgt = (d.tgt key).tgt := by
          rw [← fk]
          cases e : valV ms5 key with
          | some t => exact ⟨_, M5.at' key t e, rfl⟩
          | none =>
            cases n with
            | zero => exact (show False from hu2).elim
            | succ m => exact ⟨.sc .non, Dc.sc hN, by rw [M5.no key e]; rfl⟩
        obtain ⟨e, he, het⟩ := dt
        refine ⟨_, _, _, u, e, g key, rfl, he, hu2, (fun x hx hx2 => hx2.2 hx.1), fun z H6 ex6 hz => ?_⟩
        have h6 := ex6 Fa _ h5
        have M6 := M5.ex ex6
        have nz : Dc (fun b => H b = none ∧ b ≠ Fa) G H6 n z (D.app (d.tgt key) (g key)) := by
          rw [← app_tgt het]
          refine hz.imp fun b hb => ?_
          have q := fresh_back ex hb
          by_cases zz : b = a2
          · rw [zz, upd_same] at q; cases q
          · rw [upd_ne zz] at q
            exact ⟨q, (ne_of_none h5 hb).symm⟩
        refine ⟨.ref Fa, rfl, .str key, rfl, Fa, _, rfl, DPut.k (k := Sum.inr key) h6 (sizeK hG M6), Fa, putK ms5 key z, D.fup f5 key (D.app (d.tgt key) (g key)), ⟨_, _, rfl⟩, nF, Ex.mut (ex.trans ex6) nFl h6, by rw [upd_same, putK_inK], ?_, ?_⟩
        · exact (M6.put (M2.ks key hk) nz).off fun z => z.2 rfl
        · have z := mix_succ (f := fun k => if (g k).isNil then d.tgt k else if (g k).isNon then .nil else D.app (d.tgt k) (g k)) (g := d.tgt) hi
          simp only [nn, nd, c, decide_false, Bool.false_eq_true, if_false] at z
          rw [hf]
          exact z
    · rintro σ H5 ⟨Fa, ms5, f5, ⟨v3, v4, rfl⟩, nF, ex, h5, M5, hf⟩
      refine ⟨ex a2 _ upd_same, .ref Fa, rfl, ?_⟩
      refine k _ _ (ex_unlock r2 ex) ?_
      have e : f5 = fun k => if (g k).isNil then d.tgt k else if (g k).isNon then .nil else D.app (d.tgt k) (g k) := by
        rw [hf]
        refine mix_all fun k hk => ?_
        rw [M2.no k (valV_none_of hk)]
        rfl
      rw [app_ob, ← e]
      exact Dc.ob nF (by rw [upd_ne (ne_of_none r2 nF).symm]; exact h5) ((M5.imp fun b hb => hb.1).off fun z => by rw [show H a2 = none from z] at r2; cases r2)
end
end TP

namespace TP
open PySem PySem.Spec PyProof.Rows L2
/-! ### walks over a list or a tuple -/
abbrev SqA (K : PySem.W.Frag) (H : Hp) (a : Addr) (xs : List V) : Prop := SqL K H a xs ∨ SqT K H a xs
theorem pi_seq {X : Cx} {tg l : Expr} {i : Nat} (h : PE X l (tVar i)) : PI X tg l (fun σ H R => iList X.K (tVar i) σ H R ∨ iTup X.K (tVar i) σ H R) :=
  ⟨fun pins s σ H R I z => z.elim (fun z => (pi_list h).run pins s σ H R I z) fun z => (pi_tup h).run pins s σ H R I z⟩
/-! ### effects, as mathematics -/
inductive Ef where
  | no
  | keep
  | drop
  | set (d : D)
  | merge (f : Str → Ef)
  | build (f : Str → Ef)
/-- the object's fields -/
def eflds (kd : Str) (av : V) (t : Addr) : List (Str × V) := [("kind", .str kd), ("atom", av), ("members", .ref t)]
theorem eflds_kind (kd : Str) (av : V) (t : Addr) : (eflds kd av t).lookup ("kind" : Str) = some (.str kd) := by rfl
theorem eflds_atom (kd : Str) (av : V) (t : Addr) : (eflds kd av t).lookup ("atom" : Str) = some av := by
  have : ¬ (("atom" : Str) = "kind") := by decide +kernel
  unfold eflds
  rw [List.lookup_cons]
  simp only [show (("atom" : Str) == "kind") = false by decide +kernel]
  rfl
theorem eflds_mem (kd : Str) (av : V) (t : Addr) : (eflds kd av t).lookup ("members" : Str) = some (.ref t) := by
  unfold eflds
  rw [List.lookup_cons, List.lookup_cons]
  simp only [show (("members" : Str) == "kind") = false by decide +kernel, show (("members" : Str) == "atom") = false by decide +kernel]
  rfl
theorem eflds_put (kd : Str) (av : V) (t : Addr) : putF "members" (.ref t) (putF "atom" av (putF "kind" (.str kd) [])) = eflds kd av t := by
  have a : ¬ (("kind" : Str) = "atom") := by decide +kernel
  have b : ¬ (("kind" : Str) = "members") := by decide +kernel
  have c : ¬ (("atom" : Str) = "members") := by decide +kernel
  simp only [putF, a, b, c, if_false]
  rfl
theorem eflds_put2 (k : V) (av : V) : putF "atom" av (putF "kind" k []) = [(("kind" : Str), k), ("atom", av)] := by
  have a : ¬ (("kind" : Str) = "atom") := by decide +kernel
  simp only [putF, a, if_false]
/-- pairs (key, member) in the heap -/
def BsAt (S : Addr → Prop) (H : Hp) (bs : List Bs) : Prop := ∀ b ∈ bs, S b.1 ∧ H b.1 = some (.tup [.str b.2.1, b.2.2])
/-- an atom as an effect holds it -/
def AtomAt (S : Addr → Prop) (G : Gen) (H : Hp) (av : V) (d : D) : Prop :=
  (d = .sc av ∧ G.C av = true) ∨ ∃ ta xs, d = .ls xs ∧ av = .ref ta ∧ S ta ∧ H ta = some (.tup xs) ∧ xs.length ≤ G.L ∧ ∀ x ∈ xs, G.C x = true
theorem AtomAt.ch {S S' : Addr → Prop} {G : Gen} {H H' : Hp} {av : V} {d : D} (h : AtomAt S G H av d) (c : ∀ b xs, S b → H b = some (.tup xs) → S' b ∧ H' b = some (.tup xs)) : AtomAt S' G H' av d :=
  h.imp id fun ⟨ta, xs, e1, e2, s, r, l, z⟩ => ⟨ta, xs, e1, e2, (c ta xs s r).1, (c ta xs s r).2, l, z⟩
/-- a tuple, and no more than that -/
def TpX (H : Hp) (t : Addr) (xs : List V) : Prop := ∃ o : Obj, o.dict = none ∧ H t = some (.frz o (.tup xs))
/-- keys in their order, each once -/
def leS (a b : Str) : Bool := decide (a.cps.toList ≤ b.cps.toList)
def NdS (ks : List Str) : Prop := ks.Nodup ∧ ks.Pairwise fun a b => leS a b = true
theorem sortB_eq (bs : List Bs) : sortB bs = bs.mergeSort fun b c => leS b.2.1 c.2.1 := by
  unfold sortB
  rw [PySem.W.dataLe_str fun b : Bs => b.2.1]
  rfl
theorem leS_trans {a b c : Str} (h : leS a b = true) (k : leS b c = true) : leS a c = true := decide_eq_true (List.le_trans (of_decide_eq_true h) (of_decide_eq_true k))
theorem leS_total (a b : Str) : (leS a b || leS b a) = true := by
  unfold leS
  rcases List.le_total a.cps.toList b.cps.toList with h | h
  · rw [decide_eq_true h]; rfl
  · rw [decide_eq_true h, Bool.or_true]
theorem leS_anti {a b : Str} (h : leS a b = true) (k : leS b a = true) : a = b := by
  have := List.le_antisymm (of_decide_eq_true h) (of_decide_eq_true k)
  cases a; cases b
  congr 1
  exact Array.ext' this
theorem sortB_srt (bs : List Bs) : ((sortB bs).map fun b => b.2.1).Pairwise fun a b => leS a b = true := by
  rw [sortB_eq, List.pairwise_map]
  exact List.pairwise_mergeSort (le := fun b c : Bs => leS b.2.1 c.2.1) (fun a b c => leS_trans) (fun a b => leS_total _ _) bs
theorem ndS_nil : NdS [] := ⟨List.nodup_nil, List.Pairwise.nil⟩
/-- the same keys in their order are the same list -/
theorem ndS_eq : ∀ {xs ys : List Str}, NdS xs → NdS ys → (∀ k, k ∈ xs ↔ k ∈ ys) → xs = ys := by
  intro xs ys h1 h2 e
  have p : xs.Perm ys := (List.perm_ext_iff_of_nodup h1.1 h2.1).mpr e
  exact List.Perm.eq_of_pairwise (fun a b _ _ => leS_anti) h1.2 h2.2 p
/-- the effect e at v, n levels deep -/
def Ec (C : Addr) (S : Addr → Prop) (G : Gen) (H : Hp) : Nat → V → Ef → Prop
  | 0, _, _ => False
  | n + 1, v, e => ∃ a dx kd av t bs, v = .ref a ∧ S a ∧ H a = some (.ins C dx (eflds kd av t)) ∧ S t ∧ TpX H t (bs.map fun b => V.ref b.1) ∧ BsAt S H bs ∧ NdS (bs.map fun b => b.2.1) ∧ (∀ b ∈ bs, b.2.1 ∈ G.KS) ∧
    match e with
    | .no => False
    | .keep => kd = "keep" ∧ bs = [] ∧ av = .non
    | .drop => kd = "drop" ∧ bs = [] ∧ av = .non
    | .set d => kd = "set" ∧ bs = [] ∧ AtomAt S G H av d
    | .merge f => kd = "merge" ∧ av = .non ∧ (∀ k, k ∉ bs.map (fun b => b.2.1) → f k = .no) ∧ ∀ b ∈ bs, Ec C S G H n b.2.2 (f b.2.1)
    | .build f => kd = "build" ∧ av = .non ∧ (∀ k, k ∉ bs.map (fun b => b.2.1) → f k = .no) ∧ ∀ b ∈ bs, Ec C S G H n b.2.2 (f b.2.1)
theorem sortB_perm (bs : List Bs) : (sortB bs).Perm bs := List.mergeSort_perm _ _
/-- i pairs are made anew, in the list at D -/
def PvI [TabL] (H3 : Hp) (D : Addr) (bs : List Bs) (i : Nat) (H4 : Hp) : Prop := Ex H3 H4 ∧ ∃ bs4 : List Bs, H4 D = some (.lst (bs4.map fun b => V.ref b.1)) ∧ bs4.map (·.2) = (bs.take i).map (·.2) ∧ BsAt (fun b => H3 b = none ∧ b ≠ D) H4 bs4
theorem PvI.start [TabL] {H3 : Hp} {D : Addr} {bs : List Bs} (hD : H3 D = none) : PvI H3 D bs 0 (upd H3 D (.lst [])) := ⟨Ex.new hD, [], upd_same, rfl, fun b hb => nomatch hb⟩
theorem PvI.step [TabL] {H3 H4 : Hp} {D p : Addr} {bs : List Bs} {i : Nat} {b : Bs} (hD : H3 D = none) (hi : bs[i]? = some b) (q : PvI H3 D bs i H4) (hp : H4 p = none) :
    ∃ acc, (upd H4 p (.tup [.str b.2.1, b.2.2])) D = some (.lst acc) ∧ acc.length = i ∧ PvI H3 D bs (i + 1) (upd (upd H4 p (.tup [.str b.2.1, b.2.2])) D (.lst (acc ++ [.ref p]))) := by
  obtain ⟨e, bs4, h4, hm, hb⟩ := q
  have npD : D ≠ p := ne_of_none h4 hp
  have h5 : (upd H4 p (.tup [.str b.2.1, b.2.2])) D = some (.lst (bs4.map fun b => V.ref b.1)) := by rw [upd_ne npD]; exact h4
  refine ⟨_, h5, ?_, (e.trans (Ex.new hp)).mut hD h5, bs4 ++ [(p, b.2)], by rw [upd_same, List.map_append]; rfl, ?_, ?_⟩
  · have := congrArg List.length hm
    rw [List.length_map, List.length_map, List.length_take] at this
    have hlt := (List.getElem?_eq_some_iff.mp hi).1
    rw [List.length_map, this]
    omega
  · rw [List.map_append, hm, List.take_add_one, hi, Option.toList_some, List.map_append]
    rfl
  · intro c hc
    rcases List.mem_append.mp hc with hc | hc
    · obtain ⟨⟨s1, s2⟩, r⟩ := hb c hc
      refine ⟨⟨s1, s2⟩, ?_⟩
      rw [upd_ne s2, upd_ne (ne_of_none r hp)]
      exact r
    · rw [List.mem_singleton.mp hc]
      exact ⟨⟨fresh_back e hp, npD.symm⟩, by rw [upd_ne npD.symm, upd_same]⟩
end TP

namespace TP
open PySem PySem.Spec PyProof.Rows L2
def Ef.isNo : Ef → Bool
  | .no => true
  | _ => false
def Ef.isDrop : Ef → Bool
  | .drop => true
  | _ => false
/-- the members of a drop, a set or a build -/
def Ef.mem : Ef → Str → Ef
  | .build f => f
  | .merge f => f
  | _ => fun _ => .no
/-- what an effect does -/
def Ef.on : Ef → D → D
  | .no, d => d
  | .keep, d => d
  | .drop, _ => .nil
  | .set a, _ => a
  | .merge f, d => .ob fun k => if (f k).isNo then d.tgt k else (f k).on (d.tgt k)
  | .build f, _ => .ob fun k => if (f k).isNo then .nil else (f k).on .nil
/-- the effect of a patch, not None as a member -/
def pef : D → Ef
  | .ob f => .merge fun k => if (f k).isNil then .no else if (f k).isNon then .drop else pef (f k)
  | d => .set d
def Ef.fol : Ef → Ef → Ef
  | one, .keep => one
  | .keep, .merge g => .merge g
  | .merge f, .merge g => .merge fun k => if (g k).isNo then f k else if (f k).isNo then g k else (f k).fol (g k)
  | one, .merge g => .build fun k => if (g k).isNo then one.mem k else if (Ef.fol (if (one.mem k).isNo then .drop else one.mem k) (g k)).isDrop then .no else Ef.fol (if (one.mem k).isNo then .drop else one.mem k) (g k)
  | _, other => other
/-- atoms are no objects; nothing is nothing only as a member -/
def Ef.ok : Ef → Prop
  | .no => True
  | .keep => True
  | .drop => True
  | .set a => a.isOb = false
  | .merge f => ∀ k, (f k).ok
  | .build f => ∀ k, (f k).ok
theorem on_pef : ∀ (p d : D), (pef p).on d = D.app d p
  | .ob f, d => by
    rw [app_ob]
    show D.ob _ = _
    congr 1
    funext k
    show (if (if (f k).isNil then Ef.no else if (f k).isNon then .drop else pef (f k)).isNo = true then d.tgt k else (if (f k).isNil then Ef.no else if (f k).isNon then .drop else pef (f k)).on (d.tgt k)) = _
    have ih := on_pef (f k) (d.tgt k)
    have nn : (pef (f k)).isNo = false := by
      cases f k <;> rfl
    by_cases c : (f k).isNil = true
    · simp [c, Ef.isNo]
    · by_cases c2 : (f k).isNon = true
      · simp [c, c2, Ef.isNo, Ef.on]
      · simp [c, c2, nn, ih]
  | .nil, d => by rfl
  | .sc v, d => by rfl
  | .ls xs, d => by rfl
theorem tgt_ob {f : Str → D} : (D.ob f).tgt = f := rfl
theorem tgt_no {d : D} (h : d.isOb = false) : d.tgt = fun _ => .nil := by
  cases d with
  | ob f => cases h
  | _ => rfl
theorem fol_no : ∀ {e m : Ef}, e.isNo = false → m.isNo = false → (e.fol m).isNo = false := by
  intro e m he hm
  cases m <;> cases e <;> first | rfl | exact he | exact hm
theorem drop_on {e : Ef} (h : e.isDrop = true) (d : D) : e.on d = .nil := by
  cases e <;> first | rfl | cases h
theorem on_no {e : Ef} (h : e.isNo = true) (d : D) : e.on d = d := by
  cases e <;> first | rfl | cases h
/-- the build of a merge after e, when e leaves an object with nothing but its members -/
theorem on_built {e : Ef} {g : Str → Ef} {d : D} (ih : ∀ k, (g k).isNo = false → ∀ e : Ef, e.isNo = false → e.ok → ∀ d, (e.fol (g k)).on d = (g k).on (e.on d)) (hm : ∀ k, (e.mem k).ok) (ht : ∀ k, (e.on d).tgt k = if (e.mem k).isNo then .nil else (e.mem k).on .nil) :
    (Ef.build fun k => if (g k).isNo then e.mem k else if (Ef.fol (if (e.mem k).isNo then .drop else e.mem k) (g k)).isDrop then .no else Ef.fol (if (e.mem k).isNo then .drop else e.mem k) (g k)).on d = (Ef.merge g).on (e.on d) := by
  show D.ob _ = D.ob _
  congr 1
  funext k
  show (if (if (g k).isNo = true then e.mem k else if (Ef.fol (if (e.mem k).isNo then .drop else e.mem k) (g k)).isDrop then .no else Ef.fol (if (e.mem k).isNo then .drop else e.mem k) (g k)).isNo = true then D.nil else (if (g k).isNo = true then e.mem k else if (Ef.fol (if (e.mem k).isNo then .drop else e.mem k) (g k)).isDrop then .no else Ef.fol (if (e.mem k).isNo then .drop else e.mem k) (g k)).on .nil) = if (g k).isNo = true then (e.on d).tgt k else (g k).on ((e.on d).tgt k)
  by_cases c : (g k).isNo = true
  · simp only [c, if_true]
    rw [ht k]
  · have c' : (g k).isNo = false := by simpa using c
    have hb : (if (e.mem k).isNo then Ef.drop else e.mem k).isNo = false := by
      by_cases z : (e.mem k).isNo = true
      · rw [if_pos z]; rfl
      · rw [if_neg z]; simpa using z
    have hok : (if (e.mem k).isNo then Ef.drop else e.mem k).ok := by
      by_cases z : (e.mem k).isNo = true
      · simp [z, Ef.ok]
      · simpa [z] using hm k
    have hon : (if (e.mem k).isNo then Ef.drop else e.mem k).on .nil = if (e.mem k).isNo then .nil else (e.mem k).on .nil := by
      by_cases z : (e.mem k).isNo = true
      · simp [z, Ef.on]
      · simp [z]
    have I := ih k c' _ hb hok .nil
    rw [hon, ← ht k] at I
    simp only [c', Bool.false_eq_true, if_false]
    by_cases y : (Ef.fol (if (e.mem k).isNo then .drop else e.mem k) (g k)).isDrop = true
    · rw [if_pos y, ← I, drop_on y]
      rfl
    · rw [if_neg y, if_neg (by rw [fol_no hb c']; exact fun z => nomatch z)]
      exact I
theorem on_fol : ∀ (m : Ef), m.isNo = false → ∀ e : Ef, e.isNo = false → e.ok → ∀ d, (e.fol m).on d = m.on (e.on d)
  | .no, h, _, _, _, _ => by cases h
  | .keep, _, e, _, _, d => by cases e <;> rfl
  | .drop, _, e, _, _, d => by cases e <;> rfl
  | .set a, _, e, _, _, d => by cases e <;> rfl
  | .build f, _, e, _, _, d => by cases e <;> rfl
  | .merge g, _, e, h, he, d => by
    have ih := fun k => on_fol (g k)
    cases e with
    | no => cases h
    | keep => rfl
    | drop => exact on_built (e := .drop) ih (fun k => trivial) fun k => rfl
    | set a =>
      refine on_built (e := .set a) ih (fun k => trivial) fun k => ?_
      show a.tgt k = _
      rw [tgt_no he]
      rfl
    | build f => exact on_built (e := .build f) ih he fun k => rfl
    | merge f =>
      show D.ob _ = D.ob _
      congr 1
      funext k
      show (if (if (g k).isNo = true then f k else if (f k).isNo = true then g k else (f k).fol (g k)).isNo = true then d.tgt k else (if (g k).isNo = true then f k else if (f k).isNo = true then g k else (f k).fol (g k)).on (d.tgt k)) = if (g k).isNo = true then (if (f k).isNo = true then d.tgt k else (f k).on (d.tgt k)) else (g k).on (if (f k).isNo = true then d.tgt k else (f k).on (d.tgt k))
      by_cases c : (g k).isNo = true
      · simp only [c, if_true]
      · have c' : (g k).isNo = false := by simpa using c
        simp only [c', Bool.false_eq_true, if_false]
        by_cases y : (f k).isNo = true
        · simp only [y, if_true, c', Bool.false_eq_true, if_false]
        · have y' : (f k).isNo = false := by simpa using y
          simp only [y', Bool.false_eq_true, if_false, fol_no y' c']
          exact ih k c' _ y' (he k) _
theorem ok_pef : ∀ p : D, (pef p).ok
  | .ob f => fun k => by
    have ih := ok_pef (f k)
    show (if (f k).isNil then Ef.no else if (f k).isNon then .drop else pef (f k)).ok
    by_cases c : (f k).isNil = true
    · simp [c, Ef.ok]
    · by_cases c2 : (f k).isNon = true
      · simp [c, c2, Ef.ok]
      · simpa [c, c2] using ih
  | .nil => rfl
  | .sc _ => rfl
  | .ls _ => rfl
theorem ok_fol : ∀ (m : Ef), m.ok → ∀ e : Ef, e.ok → (e.fol m).ok
  | .no, h, e, _ => by cases e <;> exact h
  | .keep, _, e, he => by cases e <;> exact he
  | .drop, h, e, _ => by cases e <;> exact h
  | .set a, h, e, _ => by cases e <;> exact h
  | .build f, h, e, _ => by cases e <;> exact h
  | .merge g, h, e, he => by
    have ih := fun k => ok_fol (g k) (h k)
    have bd : ∀ e : Ef, (∀ k, (e.mem k).ok) → (Ef.build fun k => if (g k).isNo then e.mem k else if (Ef.fol (if (e.mem k).isNo then .drop else e.mem k) (g k)).isDrop then .no else Ef.fol (if (e.mem k).isNo then .drop else e.mem k) (g k)).ok := fun e hm k => by
      have hok : (if (e.mem k).isNo then Ef.drop else e.mem k).ok := by
        by_cases z : (e.mem k).isNo = true
        · simp [z, Ef.ok]
        · simpa [z] using hm k
      show (if (g k).isNo then e.mem k else if (Ef.fol (if (e.mem k).isNo then .drop else e.mem k) (g k)).isDrop then Ef.no else Ef.fol (if (e.mem k).isNo then .drop else e.mem k) (g k)).ok
      by_cases c : (g k).isNo = true
      · rw [if_pos c]; exact hm k
      · rw [if_neg c]
        by_cases y : (Ef.fol (if (e.mem k).isNo then .drop else e.mem k) (g k)).isDrop = true
        · rw [if_pos y]; trivial
        · rw [if_neg y]; exact ih k _ hok
    cases e with
    | no => exact bd .no fun k => trivial
    | keep => exact h
    | drop => exact bd .drop fun k => trivial
    | set a => exact bd (.set a) fun k => trivial
    | build f => exact bd (.build f) he
    | merge f =>
      intro k
      show (if (g k).isNo then f k else if (f k).isNo then g k else (f k).fol (g k)).ok
      split
      · exact he k
      · split
        · exact h k
        · exact ih k _ (he k)
/-- an effect stands as long as its objects stand -/
theorem BsAt.ch {S S' : Addr → Prop} {H H' : Hp} {bs : List Bs} (h : BsAt S H bs) (c : ∀ b o, S b → isTbl o = false → H b = some o → S' b ∧ H' b = some o) : BsAt S' H' bs := fun b hb => c _ _ (h b hb).1 rfl (h b hb).2
theorem Ec.ch {C : Addr} {G : Gen} {S S' : Addr → Prop} {H H' : Hp} (c : ∀ b o, S b → isTbl o = false → H b = some o → S' b ∧ H' b = some o) : ∀ {n m : Nat} {v : V} {e : Ef}, n ≤ m → Ec C S G H n v e → Ec C S' G H' m v e
  | 0, _, _, _, _, h => h.elim
  | n + 1, 0, _, _, l, _ => absurd l (by omega)
  | n + 1, m + 1, v, e, l, h => by
    have l' : n ≤ m := by omega
    have ih := fun {v : V} {e : Ef} (h : Ec C S G H n v e) => Ec.ch (m := m) c l' h
    obtain ⟨a, dx, kd, av, t, bs, rfl, sa, ha, st, ht, hb, nd, ks, z⟩ := h
    refine ⟨a, dx, kd, av, t, bs, rfl, (c a _ sa rfl ha).1, (c a _ sa rfl ha).2, let ⟨_, _, ht⟩ := ht; (c t _ st rfl ht).1, (let ⟨o, od, ht⟩ := ht; ⟨o, od, (c t _ st rfl ht).2⟩), hb.ch c, nd, ks, ?_⟩
    cases e with
    | no => exact z
    | keep => exact z
    | drop => exact z
    | set d => exact ⟨z.1, z.2.1, z.2.2.ch fun b xs s r => c b _ s rfl r⟩
    | merge f => exact ⟨z.1, z.2.1, z.2.2.1, fun b hb => ih (z.2.2.2 b hb)⟩
    | build f => exact ⟨z.1, z.2.1, z.2.2.1, fun b hb => ih (z.2.2.2 b hb)⟩
theorem Ec.ex [TabL] {C : Addr} {G : Gen} {S : Addr → Prop} {H H' : Hp} {n : Nat} {v : V} {e : Ef} (h : Ec C S G H n v e) (x : Ex H H') : Ec C S G H' n v e := h.ch (fun b o s z r => ⟨s, x.go b o r z⟩) (Nat.le_refl _)
theorem Ec.imp {C : Addr} {G : Gen} {S S' : Addr → Prop} {H : Hp} {n : Nat} {v : V} {e : Ef} (h : Ec C S G H n v e) (i : ∀ b, S b → S' b) : Ec C S' G H n v e := h.ch (fun b o s z r => ⟨i b s, r⟩) (Nat.le_refl _)
theorem Ec.lift {C : Addr} {G : Gen} {S : Addr → Prop} {H : Hp} {n m : Nat} {v : V} {e : Ef} (h : Ec C S G H n v e) (l : n ≤ m) : Ec C S G H m v e := h.ch (fun b o s z r => ⟨s, r⟩) l
theorem Ec.alloc {C : Addr} {G : Gen} {S : Addr → Prop} {H : Hp} {n : Nat} {v : V} {e : Ef} (h : Ec C S G H n v e) : Ec C (fun b => S b ∧ H b ≠ none) G H n v e := h.ch (fun b o s z r => ⟨⟨s, by rw [r]; exact fun z => nomatch z⟩, r⟩) (Nat.le_refl _)
theorem Ec.off {C : Addr} {G : Gen} {S : Addr → Prop} {H : Hp} {n : Nat} {v : V} {e : Ef} {a : Addr} {o : HO} (h : Ec C S G H n v e) (hS : ¬ S a) : Ec C S G (upd H a o) n v e := h.ch (fun b u s _ r => ⟨s, by rw [upd_ne (fun z => hS (by rw [← z]; exact s))]; exact r⟩) (Nat.le_refl _)
theorem Ec.not_no {C : Addr} {G : Gen} {S : Addr → Prop} {H : Hp} {n : Nat} {v : V} {e : Ef} (h : Ec C S G H n v e) : e.isNo = false := by
  cases n with
  | zero => exact h.elim
  | succ n =>
    obtain ⟨a, dx, kd, av, t, bs, _, _, _, _, _, _, _, _, z⟩ := h
    cases e with
    | no => exact z.elim
    | _ => rfl
end TP

namespace TP
open PySem PySem.Spec PyProof.Rows L2
/-! ### dict of a tuple of pairs -/
theorem pairItems_tup {prog : Program} {w : World} {A : Around} {E : Value → Shared → Prop} {s : Shared} {b : Addr} {u v : Value} {Q : List Value → Shared → Prop} (h : IsTup s.heap b #[u, v]) (q : Q [u, v] s) : wpAny (model prog w) A (Builtin.Dict.pairItems (.ref b)) Q E s := by
  unfold Builtin.Dict.pairItems
  obtain ⟨o, h1, h2, n, h3⟩ := h
  refine PySem.wpAny_bind (PySem.wpAny_typeOf_ref h1 ?_)
  rw [h2]
  exact PySem.wpAny_bind (PySem.wpAny_seqItems h1 h3 (PySem.wpAny_pure q))
theorem ud_quiet {p : List Value} {k : List (Str × Value)} : (Code.builtin "dict.update.loop" { pos := p, kw := k }).quiet = true := by
  simp [Code.quiet, Thread.loud, Thread.atCollectorCode, Thread.yieldsInsideHandler]
theorem upd_loopT {prog : Program} {w : World} {A : Around} {R : Result → Shared → Prop} {S I l : Addr} {items : Array Value} {res : Value} (hh : A.handled = none) (h1 : l ≠ I) (h2 : S ≠ I) (h3 : S ≠ l) :
    ∀ (rest : List (Key × Value)) (i : Nat) (acc : List (Key × Value)) (ix : Int) (t : Tok) (s : Shared), items.size = i + rest.length → acc.length + rest.length ≤ sizeLine →
      (∀ (j : Nat) (q : Key × Value), rest[j]? = some q → ∃ b u, items[i + j]? = some (Value.ref b) ∧ b ≠ S ∧ b ≠ I ∧ IsTup s.heap b #[u, q.2] ∧ keyIs q.1 u = true) →
      IsTupIter s.heap I l i → IsTup s.heap l items → Heap.DictOf (mixKind prog w) s.heap S acc →
      (∀ (h' : Heap) (tk : Nat), Heap.DictOf (mixKind prog w) h' S (merged acc rest) → (∀ (b : Addr) (o : Obj), b ≠ S → b ≠ I → s.heap.get? b = some o → h'.get? b = some o) → R (.ok (.ret res)) { s with heap := h', toks := tk }) →
      codeAny (model prog w) A (Code.builtin "dict.update.loop" { pos := [.ref S, .ref I, .int ix t, res] }) R s
  | [], i, acc, ix, t, s, hs, hl, hp, hi, ht, hd, k => by
    refine PySem.codeAny_builtin ud_entry ?_
    rw [PySem.Around.under_plainId ud_plain]
    unfold Builtin.«dict.update.loop»
    refine PySem.wpAny_bind (next_tuple_end (items := items) hh hi ht (by simp [hs]) fun h' eb => ?_)
    exact PySem.wpAny_bind (PySem.wpAny_pure (PySem.wpAny_pure (k h' _ (hd.extBut eb h2) fun b o _ n h => eb b o n h)))
  | q :: rest, i, acc, ix, t, s, hs, hl, hp, hi, ht, hd, k => by
    refine PySem.codeAny_builtin ud_entry ?_
    rw [PySem.Around.under_plainId ud_plain]
    unfold Builtin.«dict.update.loop»
    obtain ⟨b, u, e1, bS, bI, e2, e3⟩ := hp 0 q rfl
    refine PySem.wpAny_bind (next_tuple_item (items := items) (x := .ref b) hi ht (by simpa using e1) fun h' hi' sb => ?_)
    have st : ∀ (c : Addr) (o : Obj), c ≠ I → s.heap.get? c = some o → h'.get? c = some o := fun c o n h => by rw [sb.2 c n]; exact h
    have tp : ∀ {c : Addr} {xs : Array Value}, c ≠ I → IsTup s.heap c xs → IsTup h' c xs := fun n ⟨o, x, y⟩ => ⟨o, st _ _ n x, y⟩
    refine PySem.wpAny_bind (PySem.wpAny_holding (PySem.wpAny_bind (PySem.wpAny_tryCatch (pairItems_tup (tp bI e2) (PySem.wpAny_holding (PySem.wpAny_dictSet_pairs (knd := mixKind prog w) (k := q.1) (kvs := acc) (by rw [mixKind_is]; exact e3) (hd.sameBut sb h2) (fun h2' hd2 sb2 => PySem.wpAny_pure ?_) ?_))))))
    · have st2 : ∀ (c : Addr) (o : Obj), c ≠ S → c ≠ I → s.heap.get? c = some o → h2'.get? c = some o := fun c o n1 n2 h => by rw [sb2.2 c n1]; exact st c o n2 h
      have tp2 : ∀ {c : Addr} {xs : Array Value}, c ≠ S → c ≠ I → IsTup s.heap c xs → IsTup h2' c xs := fun n1 n2 ⟨o, x, y⟩ => ⟨o, st2 _ _ n1 n2 x, y⟩
      refine ⟨ud_quiet, upd_loopT hh h1 h2 h3 rest (i + 1) (stored acc q.1 q.2) (ix + 1) 0 _ (by rw [hs, List.length_cons]; omega) ?_ (fun j q' hq => ?_) ?_ (tp2 h3.symm h1 ht) hd2 fun h3' tk hd3 st3 => ?_⟩
      · have := stored_length_le acc q.1 q.2
        rw [List.length_cons] at hl
        omega
      · obtain ⟨b', u', f1, f2, f3, f4, f5⟩ := hp (j + 1) q' (by rw [List.getElem?_cons_succ]; exact hq)
        exact ⟨b', u', by rw [show i + 1 + j = i + (j + 1) by omega]; exact f1, f2, f3, tp2 f2 f3 f4, f5⟩
      · obtain ⟨o, x, y⟩ := hi'
        exact ⟨o, by rw [sb2.2 I h2.symm]; exact x, y⟩
      · exact k h3' tk hd3 fun c o n1 n2 h => st3 c o n1 n2 (st2 c o n1 n2 h)
    · have := hl
      rw [List.length_cons] at this
      omega
theorem miss_tuple {prog : Program} {w : World} {A : Around} {E : Value → Shared → Prop} {s : Shared} {a : Addr} {xs : Array Value} {k : Nat} {sl : Array (Option Value)} {Q : Option Value → Shared → Prop} (h : s.heap.get? a = some { cls := .type "tuple", data := .seq xs k, slots := sl }) (hh : A.handled = none)
    (q : ∀ (h' : Heap) (tk : Nat), (∀ (b : Addr) (ob : Obj), s.heap.get? b = some ob → h'.get? b = some ob) → Q none { s with heap := h', toks := tk }) : wpAny (model prog w) A (getAttr? (.ref a) (Str.ofString "keys")) Q E s := by
  unfold getAttr? mkText
  refine PySem.wpAny_bind (PySem.wpAny_bind ?_)
  refine PySem.wpAny_fresh (PySem.wpAny_pure ?_)
  unfold getAttrBy?
  refine PySem.wpAny_bind (PySem.wpAny_attempt ?_)
  unfold getAttrBy
  refine PySem.wpAny_holding (PySem.wpAny_bind (PySem.wpAny_typeOf_ref h ?_))
  rw [PySem.F.slot_tuple_getattribute.lookup]
  refine PySem.wpAny_bind (PySem.wpAny_pure ?_)
  show wpAny _ _ (getAttrByItsOwn (.ref a) _ (.type "tuple") (.builtin "tuple.__getattribute__") false false) _ _ _
  unfold getAttrByItsOwn hookBefore callGetattribute
  refine PySem.wpAny_bind (PySem.wpAny_pure (PySem.wpAny_bind (PySem.wpAny_attempt (PySem.wpAny_holding ?_))))
  show wpAny _ _ (boundAndCalled _ _ _) _ _ _
  unfold boundAndCalled
  rw [PySem.F.slot_tuple_getattribute.bind]
  refine PySem.wpAny_bind (PySem.wpAny_pure ?_)
  refine PySem.call_meets (T := "tuple") PySem.F.slot_tuple_getattribute (by exact ⟨_, h, rfl⟩) PySem.am_entry_tuple_getattribute (PySem.F.args_tuple_getattribute_2 _ _) (PySem.meets_getattribute_miss_tuple a xs k sl (Str.ofString "keys") s.toks rfl (by decide +kernel)) ⟨h, hh, fun h' tk e ne => ?_⟩
  obtain ⟨t, u, he⟩ := ne.there
  show wpAny _ _ (getattributeRaised _ _ _ _ _ _ _) _ _ _
  unfold getattributeRaised
  refine PySem.wpAny_bind (PySem.wpAny_isInstance (T := "AttributeError") (b := true) (by exact ⟨_, he, rfl⟩) PySem.sub_AttributeError ?_)
  unfold hookBehind
  rw [if_pos rfl, show onTheHeap (Value.type "tuple") = false from rfl, if_neg (fun z => nomatch z), PySem.am_tuple_getattr_none]
  refine PySem.wpAny_bind (PySem.wpAny_pure ?_)
  show wpAny _ _ (attributeErrorLeaves _ _ _ false false) _ _ _
  unfold attributeErrorLeaves
  refine PySem.wpAny_bind (PySem.wpAny_throw ?_)
  refine PySem.wpAny_bind (PySem.wpAny_isInstance (T := "AttributeError") (b := true) (by exact ⟨_, he, rfl⟩) PySem.sub_AttributeError ?_)
  rw [if_pos rfl]
  exact PySem.wpAny_pure (q h' tk ne.keeps)
/-- dict of a tuple of pairs -/
theorem call_dict_tup {prog : Program} {w : World} {A : Around} {E : Value → Shared → Prop} {s : Shared} {l : Addr} {items : Array Value} {n : Nat} {sl : Array (Option Value)} {prs : List (Key × Value)} {Q : Value → Shared → Prop} (hh : A.handled = none) (h : s.heap.get? l = some { cls := .type "tuple", data := .seq items n, slots := sl }) (hs : items.size = prs.length) (hz : prs.length ≤ sizeLine)
    (hp : ∀ (j : Nat) (q : Key × Value), prs[j]? = some q → ∃ b u, items[j]? = some (Value.ref b) ∧ IsTup s.heap b #[u, q.2] ∧ keyIs q.1 u = true)
    (k : ∀ (h' : Heap) (tk : Nat), Heap.DictOf (mixKind prog w) h' s.heap.objs.size (merged [] prs) → (∀ (b : Addr) (o : Obj), s.heap.get? b = some o → h'.get? b = some o) → Q (.ref s.heap.objs.size) { s with heap := h', toks := tk }) :
    wpAny (model prog w) A (call (Value.type "dict") [Value.ref l]) Q E s := by
  refine PySem.callType_codes (Q₁ := fun v s1 => v = .ref s.heap.objs.size ∧ s1 = { s with heap := s.heap.push { cls := .type "dict", data := .dict #[] } }) PySem.F.kt_called_dict (PySem.F.kt_typeCall_dict_1 _) PySem.F.entry_dict_init (PySem.kt_code_dict_new _ ⟨rfl, rfl⟩) ?_
  rintro obj s1 ⟨rfl, rfl⟩
  have d0 : Heap.DictOf (mixKind prog w) (s.heap.push { cls := .type "dict", data := .dict #[] }) s.heap.objs.size [] := PySem.Heap.DictOf.new _
  have l0 : (s.heap.push { cls := .type "dict", data := .dict #[] }).get? l = some { cls := .type "tuple", data := .seq items n, slots := sl } := PySem.Heap.get?_push_of_some _ h
  refine ⟨d0.typeIs (s := { s with heap := s.heap.push { cls := .type "dict", data := .dict #[] } }), ?_, ?_⟩
  · exact PySem.F.args_dict_init_2 _ _
  unfold Builtin.«dict.__init__»
  refine PySem.wpAny_bind ?_
  unfold Builtin.Dict.selfAndRest
  refine PySem.wpAny_bind (PySem.wpAny_notOrdered_dict (d0.typeIs (s := { s with heap := s.heap.push { cls := .type "dict", data := .dict #[] } })) ?_)
  refine PySem.wpAny_bind (PySem.wpAny_pure (PySem.wpAny_pure ?_))
  show wpAny _ _ (Builtin.Dict.updateFrom "dict.__init__" s.heap.objs.size (.ref l) [] .none) _ _ _
  unfold Builtin.Dict.updateFrom
  refine PySem.wpAny_bind (PySem.wpAny_typeOf_ref l0 ?_)
  rw [if_pos (by rfl)]
  refine PySem.wpAny_bind (miss_tuple l0 hh fun h2 tk2 k2 => ?_)
  rw [if_pos (show (none : Option Value).isNone = true from rfl)]
  refine PySem.wpAny_bind (PySem.wpAny_rule (PySem.wpAny_bind (iter_tuple (items := items) ⟨_, k2 _ _ l0, rfl, n, rfl⟩ (PySem.wpAny_pure ⟨ud_quiet, ?_⟩))))
  have lS : l ≠ s.heap.objs.size := Nat.ne_of_lt (PySem.Heap.lt_size h)
  have zS : s.heap.objs.size < h2.objs.size := by
    obtain ⟨o, ho⟩ : ∃ o, (s.heap.push { cls := .type "dict", data := .dict #[] }).get? s.heap.objs.size = some o := ⟨_, PySem.Heap.get?_push_size _ rfl⟩
    exact PySem.Heap.lt_size (k2 _ _ ho)
  have lI : l ≠ h2.objs.size := Nat.ne_of_lt (PySem.Heap.lt_size (k2 _ _ l0))
  have k3 : ∀ (b : Addr) (o : Obj), s.heap.get? b = some o → (h2.push { cls := .type "tuple_iterator", data := .fields #[.ref l, .int 0 0] }).get? b = some o := fun b o hb => PySem.Heap.get?_push_of_some _ (k2 _ _ (PySem.Heap.get?_push_of_some _ hb))
  refine upd_loopT (A := A.in1) (l := l) (items := items) (res := .none) hh lI (Nat.ne_of_lt zS) lS.symm prs 0 [] 0 0 { heap := h2.push { cls := .type "tuple_iterator", data := .fields #[.ref l, .int 0 0] }, gens := s.gens, drawn := s.drawn, toks := tk2, os := s.os } (by simpa using hs) (by simpa using hz) (fun j q hq => ?_) ⟨_, PySem.Heap.get?_push_size _ rfl, rfl, rfl⟩ ⟨_, k3 _ _ h, rfl, n, rfl⟩ ((d0.keep k2).push _) fun h' tk hd st => ?_
  · obtain ⟨b, u, e1, ⟨o, e2, e3⟩, e4⟩ := hp j q hq
    have lt := PySem.Heap.lt_size e2
    exact ⟨b, u, by rw [Nat.zero_add]; exact e1, Nat.ne_of_lt lt, Nat.ne_of_lt (Nat.lt_trans lt zS), ⟨o, k3 _ _ e2, e3⟩, e4⟩
  · refine ⟨rfl, k h' tk hd fun b o hb => st b o (Nat.ne_of_lt (PySem.Heap.lt_size hb)) (Nat.ne_of_lt (Nat.lt_trans (PySem.Heap.lt_size hb) zS)) (k3 _ _ hb)⟩
theorem vals_get {xs : List V} {us : List Value} (h : Vals xs us) : ∀ {j : Nat} {x : V}, xs[j]? = some x → ∃ y, us[j]? = some y ∧ RelV x y := by
  induction h with
  | nil => intro j x e; simp at e
  | cons a _ ih =>
    intro j x e
    cases j with
    | zero =>
      rw [List.getElem?_cons_zero] at e
      cases e
      exact ⟨_, rfl, a⟩
    | succ j => rw [List.getElem?_cons_succ] at e ⊢; exact ih e
/-- tuple of a list, as an object -/
theorem call_tupleX {X : Cx} : CallR X (Value.type "tuple") fun xs H Q => ∃ p ys, xs = [V.ref p] ∧ SqL X.K H p ys ∧ ∀ (l : Addr) (o : Obj), H l = none → o.dict = none → Q (V.ref l) (upd H l (.frz o (.tup ys))) := by
  intro pins s σ H xs us Q I rv h
  obtain ⟨p, ys, rfl, hp, k⟩ := h
  cases rv with
  | cons ra rn =>
  cases rn
  cases (show _ = Value.ref p from ra)
  obtain ⟨its, ri, ⟨o, n, h1, h2, h3, h4⟩, hl⟩ := I.list hp
  have hsz : its.toArray.size ≤ sizeLine := by
    rw [List.size_toArray, ← ri.length]; exact hl
  refine PySem.call_tuple_list (items := its.toArray) ⟨o, h1, h2, n, h4⟩ (fun h' ex => ?_) hsz
  have I' := I.kept (t' := s.toks) ex
  refine ⟨.ref _, _, I'.laid (a := h'.objs.size) (o := .frz { cls := Value.type "tuple", data := Data.seq its.toArray } (.tup ys)) (t' := s.toks) (fun b u hb => PySem.Heap.get?_push_of_some _ hb) (Nat.le_refl _) ?_, rfl, k _ _ (I'.hok.fresh (Nat.le_refl _)) rfl⟩
  simp only [ObjOk]
  exact ⟨PySem.Heap.get?_push_size _ rfl, hl, its, ri, _, PySem.Heap.get?_push_size _ rfl, rfl, _, rfl⟩
/-- dict of such a tuple -/
theorem call_dictT {X : Cx} (hc : X.calm = true) : CallR X (Value.type "dict") fun xs H Q => ∃ (a : Addr) (o : Obj) (ps : List Addr) (kvs : List (Key × V)), xs = [V.ref a] ∧ H a = some (.frz o (.tup (ps.map V.ref))) ∧ o.dict = none ∧ Paired (fun p kv => SqT X.K H p [kV kv.1, kv.2]) ps kvs ∧ ∀ (p : Addr), H p = none → Q (V.ref p) (upd H p (.dK (mergeK [] kvs))) := by
  intro pins s σ H xs us Q I rv h
  obtain ⟨a, o, ps, kvs, rfl, ha, od, hp, k⟩ := h
  cases rv with
  | cons ra rn =>
  cases rn
  cases (show _ = Value.ref a from ra)
  obtain ⟨prs, kv, e1, e2⟩ := pairs_of I hp
  have oa := I.hok a _ ha
  simp only [ObjOk] at oa
  obtain ⟨ga, hl, its, ri, o2, g1, g2, n, g3⟩ := oa
  rw [ga] at g1
  cases g1
  rw [List.length_map] at hl
  have eo : o = { cls := .type "tuple", data := .seq its.toArray n, slots := o.slots } := by
    cases o
    cases g2; cases g3; cases od
    rfl
  rw [eo] at ga
  refine call_dict_tup (prs := prs) (I.ok.hd hc) ga ?_ (by omega) (fun j q hq => ?_) fun h' tk hd ex => ?_
  · rw [List.size_toArray, ← ri.length, List.length_map, e1]
  · obtain ⟨b, u, f1, f2, f3⟩ := e2 j q hq
    refine ⟨b, u, ?_, f2, f3⟩
    rw [List.getElem?_toArray]
    have hj := vals_get ri (j := j) (x := .ref b) (by rw [List.getElem?_map, f1]; rfl)
    obtain ⟨y, hy, ry⟩ := hj
    cases (show y = Value.ref b from ry)
    exact hy
  · refine ⟨.ref _, _, I.laid (a := s.heap.objs.size) (o := .dK (mergeK [] kvs)) (t' := tk) ex (Nat.le_refl _) ?_, rfl, k _ (I.hok.fresh (Nat.le_refl _))⟩
    have hkl := kv.length
    refine dk_new (Nat.le_trans (length_mergeK _ _) ?_) ?_ (KV.merge kv .nil) hd
    · show 0 + kvs.length ≤ sizeLine
      rw [Nat.zero_add, hkl, e1]
      exact hl
    · have := I.big
      exact beq_false_of_ne (Nat.ne_of_gt this)
end TP

namespace TP
open PySem PySem.Spec PyProof.Rows L2
/-- the members of a dict are the effects f -/
structure MemE (C : Addr) (S : Addr → Prop) (G : Gen) (H : Hp) (n : Nat) (ms : List (Str × V)) (f : Str → Ef) : Prop where
  nd : (ms.map (·.1)).Nodup
  ks : ∀ k ∈ ms.map (·.1), k ∈ G.KS
  no : ∀ k, valV ms k = none → f k = .no
  at' : ∀ k u, valV ms k = some u → Ec C S G H n u (f k)
def fupE (f : Str → Ef) (k : Str) (e : Ef) : Str → Ef := fun j => if j = k then e else f j
def mixE (ks : List Str) (i : Nat) (f g : Str → Ef) : Str → Ef := fun k => if k ∈ ks.take i then f k else g k
section
variable {C : Addr} {S : Addr → Prop} {G : Gen} {H : Hp} {n : Nat}
theorem MemE.len {ms f} (h : MemE C S G H n ms f) : ms.length ≤ G.KS.length := by
  have := sub_len h.nd h.ks
  rwa [List.length_map] at this
theorem MemE.put {ms f k v e} (h : MemE C S G H n ms f) (hk : k ∈ G.KS) (hv : Ec C S G H n v e) : MemE C S G H n (putK ms k v) (fupE f k e) := by
  refine ⟨nodup_put k v h.nd, fun j hj => ?_, fun j hj => ?_, fun j u hu => ?_⟩
  · rcases (keys_put ms k v j).mp hj with z | z
    · rw [z]; exact hk
    · exact h.ks j z
  · rw [valV_put] at hj
    unfold fupE
    by_cases z : j = k
    · rw [if_pos z] at hj; cases hj
    · rw [if_neg z] at hj ⊢
      exact h.no j hj
  · rw [valV_put] at hu
    unfold fupE
    by_cases z : j = k
    · rw [if_pos z] at hu ⊢
      cases hu
      exact hv
    · rw [if_neg z] at hu ⊢
      exact h.at' j u hu
theorem MemE.ch {S' : Addr → Prop} {H' : Hp} {ms f} (c : ∀ b o, S b → isTbl o = false → H b = some o → S' b ∧ H' b = some o) (h : MemE C S G H n ms f) : MemE C S' G H' n ms f := ⟨h.nd, h.ks, h.no, fun k u z => (h.at' k u z).ch c (Nat.le_refl _)⟩
theorem MemE.ex [TabL] {H' : Hp} {ms f} (h : MemE C S G H n ms f) (e : Ex H H') : MemE C S G H' n ms f := h.ch fun b o s z r => ⟨s, e.go b o r z⟩
theorem MemE.imp {S' : Addr → Prop} {ms f} (h : MemE C S G H n ms f) (i : ∀ b, S b → S' b) : MemE C S' G H n ms f := h.ch fun b o s z r => ⟨i b s, r⟩
theorem MemE.off {ms f a o} (h : MemE C S G H n ms f) (hS : ¬ S a) : MemE C S G (upd H a o) n ms f := h.ch fun b u s _ r => ⟨s, by rw [upd_ne (fun z => hS (by rw [← z]; exact s))]; exact r⟩
theorem mixE_zero {ks : List Str} {f g : Str → Ef} : mixE ks 0 f g = g := by
  funext k
  simp [mixE]
theorem mixE_succ {ks : List Str} {i : Nat} {k : Str} {f g : Str → Ef} (h : ks[i]? = some k) : fupE (mixE ks i f g) k (f k) = mixE ks (i + 1) f g := by
  funext j
  unfold fupE mixE
  rw [List.take_add_one, h]
  by_cases z : j = k
  · simp [z]
  · simp [z]
theorem mixE_all {ks : List Str} {f g : Str → Ef} (h : ∀ k, k ∉ ks → f k = g k) : mixE ks ks.length f g = f := by
  funext j
  unfold mixE
  rw [List.take_length]
  by_cases c : j ∈ ks
  · rw [if_pos c]
  · rw [if_neg c, h j c]
theorem mixE_new {ks : List Str} {i : Nat} {k : Str} {f g : Str → Ef} (nd : ks.Nodup) (h : ks[i]? = some k) : mixE ks i f g k = g k := by
  unfold mixE
  rw [if_neg]
  intro hk
  obtain ⟨j, hj, ej⟩ := List.getElem_of_mem hk
  rw [List.length_take] at hj
  have hi := (List.getElem?_eq_some_iff.mp h)
  obtain ⟨hi, ei⟩ := hi
  rw [List.getElem_take] at ej
  exact (List.pairwise_iff_getElem.mp nd) j i (by omega) hi (by omega) (ej.trans ei.symm)
/-- the pairs of an effect as members of a dict -/
theorem memE_of {bs : List Bs} {f : Str → Ef} (nd : (bs.map fun b => b.2.1).Nodup) (ks : ∀ b ∈ bs, b.2.1 ∈ G.KS) (no : ∀ k, k ∉ bs.map (fun b => b.2.1) → f k = .no) (at' : ∀ b ∈ bs, Ec C S G H n b.2.2 (f b.2.1)) : MemE C S G H n (bs.map (·.2)) f := by
  have e : (bs.map (·.2)).map (·.1) = bs.map fun b => b.2.1 := by rw [List.map_map]; rfl
  have nd' : ((bs.map (·.2)).map (·.1)).Nodup := by rw [e]; exact nd
  refine ⟨nd', fun k hk => ?_, fun k hk => ?_, fun k u hu => ?_⟩
  · rw [e] at hk
    obtain ⟨b, hb, rfl⟩ := List.mem_map.mp hk
    exact ks b hb
  · refine no k fun z => ?_
    obtain ⟨b, hb, rfl⟩ := List.mem_map.mp z
    rw [valV_of_mem nd' (List.mem_map.mpr ⟨b, hb, rfl⟩)] at hk
    cases hk
  · obtain ⟨b, hb, eb⟩ := List.mem_map.mp (valV_mem hu)
    have := at' b hb
    rw [show b.2.2 = u by rw [eb], show b.2.1 = k by rw [eb]] at this
    exact this
end
theorem pairs_bs {K : PySem.W.Frag} {S : Addr → Prop} {H : Hp} : ∀ {bs : List Bs}, BsAt S H bs → Paired (fun p (kv : Key × V) => SqT K H p [kV kv.1, kv.2]) (bs.map (·.1)) (kvsOf (bs.map (·.2)))
  | [], _ => .nil
  | b :: bs, h => .cons (.inl (.inl (h b List.mem_cons_self).2)) (pairs_bs fun c hc => h c (List.mem_cons_of_mem _ hc))
end TP

namespace TP
open PySem PySem.Spec PyProof.Rows L2
def Ef.isKeep : Ef → Bool
  | .keep => true
  | _ => false
/-- no member keeps -/
def Ef.mok : Ef → Prop
  | .merge f => ∀ k, (f k).isKeep = false ∧ (f k).mok
  | .build f => ∀ k, (f k).isKeep = false ∧ (f k).mok
  | _ => True
theorem mok_mem {e : Ef} (h : e.mok) (k : Str) : (e.mem k).isKeep = false ∧ (e.mem k).mok := by
  cases e <;> first | exact h k | exact ⟨rfl, trivial⟩
/-- only the members of the document count, but for what keeps -/
theorem on_tgt {e : Ef} (h1 : e.isKeep = false) (h2 : e.isNo = false) {d d' : D} (h : d.tgt = d'.tgt) : e.on d = e.on d' := by
  cases e with
  | no => cases h2
  | keep => cases h1
  | drop => rfl
  | set a => rfl
  | merge f =>
    show D.ob _ = D.ob _
    rw [h]
  | build f => rfl
theorem keep_pef (p : D) : (pef p).isKeep = false := by cases p <;> rfl
theorem mok_pef : ∀ p : D, (pef p).mok
  | .ob f => fun k => by
    have ih := mok_pef (f k)
    show (if (f k).isNil then Ef.no else if (f k).isNon then .drop else pef (f k)).isKeep = false ∧ (if (f k).isNil then Ef.no else if (f k).isNon then .drop else pef (f k)).mok
    by_cases c : (f k).isNil = true
    · rw [if_pos c]; exact ⟨rfl, trivial⟩
    · rw [if_neg c]
      by_cases c2 : (f k).isNon = true
      · rw [if_pos c2]; exact ⟨rfl, trivial⟩
      · rw [if_neg c2]; exact ⟨keep_pef _, ih⟩
  | .nil => trivial
  | .sc _ => trivial
  | .ls _ => trivial
theorem keep_fol' {e m : Ef} (he : e.isKeep = false) (hm : m.isKeep = false) : (e.fol m).isKeep = false := by
  cases m with
  | keep => cases hm
  | merge g => cases e <;> first | rfl | exact he
  | no => cases e <;> rfl
  | drop => cases e <;> rfl
  | set a => cases e <;> rfl
  | build f => cases e <;> rfl
theorem mok_fol : ∀ (m : Ef), m.mok → ∀ e : Ef, e.mok → (e.fol m).mok
  | .no, _, e, _ => by cases e <;> trivial
  | .keep, _, e, he => by cases e <;> exact he
  | .drop, _, e, _ => by cases e <;> trivial
  | .set a, _, e, _ => by cases e <;> trivial
  | .build f, h, e, _ => by cases e <;> exact h
  | .merge g, h, e, he => by
    have ih := fun k => mok_fol (g k) (h k).2
    have bd : ∀ e : Ef, (∀ k, (e.mem k).isKeep = false ∧ (e.mem k).mok) → (Ef.build fun k => if (g k).isNo then e.mem k else if (Ef.fol (if (e.mem k).isNo then .drop else e.mem k) (g k)).isDrop then .no else Ef.fol (if (e.mem k).isNo then .drop else e.mem k) (g k)).mok := fun e hm k => by
      have hb : (if (e.mem k).isNo then Ef.drop else e.mem k).isKeep = false ∧ (if (e.mem k).isNo then Ef.drop else e.mem k).mok := by
        by_cases z : (e.mem k).isNo = true
        · rw [if_pos z]; exact ⟨rfl, trivial⟩
        · rw [if_neg z]; exact hm k
      show (if (g k).isNo then e.mem k else if (Ef.fol (if (e.mem k).isNo then .drop else e.mem k) (g k)).isDrop then Ef.no else Ef.fol (if (e.mem k).isNo then .drop else e.mem k) (g k)).isKeep = false ∧ (if (g k).isNo then e.mem k else if (Ef.fol (if (e.mem k).isNo then .drop else e.mem k) (g k)).isDrop then Ef.no else Ef.fol (if (e.mem k).isNo then .drop else e.mem k) (g k)).mok
      by_cases c : (g k).isNo = true
      · rw [if_pos c]; exact hm k
      · rw [if_neg c]
        by_cases y : (Ef.fol (if (e.mem k).isNo then .drop else e.mem k) (g k)).isDrop = true
        · rw [if_pos y]; exact ⟨rfl, trivial⟩
        · rw [if_neg y]; exact ⟨keep_fol' hb.1 (h k).1, ih k _ hb.2⟩
    cases e with
    | no => exact bd .no fun k => ⟨rfl, trivial⟩
    | keep => exact h
    | drop => exact bd .drop fun k => ⟨rfl, trivial⟩
    | set a => exact bd (.set a) fun k => ⟨rfl, trivial⟩
    | build f => exact bd (.build f) he
    | merge f =>
      intro k
      show (if (g k).isNo then f k else if (f k).isNo then g k else (f k).fol (g k)).isKeep = false ∧ (if (g k).isNo then f k else if (f k).isNo then g k else (f k).fol (g k)).mok
      by_cases c : (g k).isNo = true
      · rw [if_pos c]; exact he k
      · rw [if_neg c]
        by_cases y : (f k).isNo = true
        · rw [if_pos y]; exact h k
        · rw [if_neg y]; exact ⟨keep_fol' (he k).1 (h k).1, ih k _ (he k).2⟩
/-- the effect of a row -/
def rowE (ps : List D) : Ef := ps.foldl (fun e p => e.fol (pef p)) .keep
/-- the document after a row -/
def rowD (d : D) (ps : List D) : D := ps.foldl D.app d
theorem no_pef (p : D) : (pef p).isNo = false := by cases p <;> rfl
theorem row_all : ∀ (ps : List D) (e : Ef), e.isNo = false → e.ok → e.mok → (ps.foldl (fun e p => e.fol (pef p)) e).isNo = false ∧ (ps.foldl (fun e p => e.fol (pef p)) e).ok ∧ (ps.foldl (fun e p => e.fol (pef p)) e).mok ∧ ∀ d, (ps.foldl (fun e p => e.fol (pef p)) e).on d = ps.foldl D.app (e.on d)
  | [], e, h1, h2, h3 => ⟨h1, h2, h3, fun d => rfl⟩
  | p :: ps, e, h1, h2, h3 => by
    obtain ⟨a, b, c, d⟩ := row_all ps (e.fol (pef p)) (fol_no h1 (no_pef p)) (ok_fol _ (ok_pef p) _ h2) (mok_fol _ (mok_pef p) _ h3)
    refine ⟨a, b, c, fun x => ?_⟩
    rw [List.foldl_cons, List.foldl_cons, d x, on_fol _ (no_pef p) e h1 h2, on_pef]
/-- the effect of a row leads where the row leads -/
theorem row_on (ps : List D) (d : D) : (rowE ps).on d = rowD d ps := (row_all ps .keep rfl trivial trivial).2.2.2 d
end TP

namespace TP
open PySem PySem.Spec PyProof.Rows L2
theorem tyx_tp {K : PySem.W.Frag} {H : Hp} {a : Addr} {xs : List V} (r : H a = some (.tup xs)) : TyX K H (.ref a) (.type "tuple") := .base (.tup r)
/-- isinstance(atom, tuple) -/
theorem isiA {S : Addr → Prop} {G : Gen} {H : Hp} {v : V} {d : D} (K : PySem.W.Frag) (h : AtomAt S G H v d) : ∃ t, TyX K H v t ∧ PySem.W.kitOne K t (.type "tuple") = some d.isLs := by
  rcases h with ⟨rfl, hc⟩ | ⟨ta, xs, rfl, rfl, _, r, _⟩
  · obtain ⟨t, ht, ty⟩ := tyx_sc (K := K) (H := H) (G.sc _ hc)
    refine ⟨_, ty, kit_ty (r := false) ?_⟩
    rcases ht with rfl | rfl | rfl <;> decide +kernel
  · exact ⟨_, tyx_tp r, kit_ty (r := true) (by decide +kernel)⟩
end TP

namespace TP
open PySem PySem.Spec PyProof.Rows L2
abbrev sInit : Stmt := inClass (topS 17) 0
abbrev nInit : List Str := ["self", "kind", "atom", "members", "pairs", "key", "member"]
abbrev qLam : Str := "Effect.__init__" ++ Str.ofString ".<locals>." ++ Str.ofString "<lambda>"
/-- what is new beside x stays away from what was -/
abbrev Fx [TabL] (x : Addr) (H H' : Hp) : Prop := ∀ H0, Ex H0 H → H0 x = none → Ex H0 H'
/-- a tuple of it if isinstance(it, list) else it -/
theorem t_tupor [TabL] {K : PySem.W.Frag} {S : Addr → Prop} {G : Gen} {H : Hp} {n : Nat} {v : V} {d : D} {i : Nat} {σ : L2.St} {Q : VK} (hσ : σ[i]? = some (some v)) (hv : Dc S G H (n + 1) v d) (nob : d.isOb = false)
    (h : ∀ av H1, Ex H H1 → AtomAt (fun b => H b = none) G H1 av d → (∀ b, H1 b ≠ H b → H b = none ∧ H1 b ≠ none) → Q av H1) :
    tIf (tB (tCB (rIsi K) (tCons (tVar i) (tCons (tC (.ty "list")) tNil)))) (tCB (fun xs H Q => ∃ p ys, xs = [V.ref p] ∧ ((SqL K H p ys ∧ ∀ (l : Addr), H l = none → Q (V.ref l) (upd H l (HO.tup ys))) ∨ SqT K H p ys ∧ Q (V.ref p) H)) (tCons (tVar i) tNil)) (tVar i) σ H Q := by
  obtain ⟨t2, ty2, kit2⟩ := isiL K hv
  refine ⟨v, hσ, v, .ty "list", t2, _, _, rfl, .ty _, ty2, kit2, _, rfl, ?_⟩
  refine hv.cases (fun m e hs ed => ?_) (fun m a xs e ev hS r hx ed => ?_) (fun m a ms f e ev hS r M ed => ?_)
  · subst ed
    exact iteF ⟨v, hσ, h v H (Ex.refl H) (.inl ⟨rfl, hs⟩) fun b z => absurd rfl z⟩
  · subst ed; subst ev
    refine iteT ⟨_, hσ, a, xs, rfl, .inl ⟨.inl (.inl r), fun l hl => h _ _ (Ex.new hl) (.inr ⟨l, xs, rfl, rfl, hl, upd_same, hx.1, hx.2⟩) fun b z => ?_⟩⟩
    by_cases y : b = l
    · rw [y]
      exact ⟨hl, by rw [upd_same]; exact fun z => nomatch z⟩
    · exact absurd (upd_ne y) z
  · rw [ed] at nob
    cases nob
def spInit [TabL] (C P : Addr) (G : Gen) : Sp := fun vs H Q _ => ∃ (x dx ma : Addr) (kd : Str) (av mv : V) (S : Addr → Prop) (n : Nat) (d : D) (bs : List Bs), vs = [.ref x, .str kd, av, mv] ∧ H x = some (.ins C dx []) ∧
  Dc S G H (n + 1) av d ∧ d.isOb = false ∧ ¬ S x ∧ mv = .ref ma ∧ (H ma = some (.lst (bs.map fun b => V.ref b.1)) ∨ H ma = some (.tup (bs.map fun b => V.ref b.1))) ∧ BsAt (fun _ => True) H bs ∧ bs.length ≤ 5000 ∧ LamX.TabS H P qLam ∧
  ∀ H' t av' bs', H' x = some (.ins C dx (eflds kd av' t)) → H t = none → TpX H' t ((sortB bs').map fun b => V.ref b.1) → bs'.map (·.2) = bs.map (·.2) → BsAt (fun b => H b = none) H' bs' → AtomAt (fun b => H b = none) G H' av' d → Fx x H H' → Q .non H'
theorem scInit : FnScope nInit ["self", "kind", "atom", "members"] (defScope sInit) := ⟨rfl, rfl, rfl, by decide +kernel, rfl, by decide +kernel, by decide +kernel⟩
section
variable [TabL] {P : Program} {w : World} {K : PySem.W.Frag} {mg : Str → Option Value} {base : Heap}
theorem ok_init {f C c Pt : Addr} {kV doc pm ct oc : Value} {an od : Option Addr} {osl : Array (Option Value)}
    (lk : K.lookup f = some ⟨oc, od, .func (PySem.W.fnOf "__init__" "Effect.__init__" (defArgs sInit) (defBody sInit) (defScope sInit) .none kV doc pm an (.ref c) ct), osl⟩) (cd : PySem.W.codeIn K (.ref c) "Effect.__init__" = true)
    (T : Bi mg) (cl : Cls K C) (nK : NoAttr K C "kind") (nA : NoAttr K C "atom") (nM : NoAttr K C "members") (TB : LamX.TabB base mg c Pt) (hR : TabL.R Pt qLam) {G : Gen} :
    FnOk P w K mg base CX0 2 f (PySem.W.fnOf "__init__" "Effect.__init__" (defArgs sInit) (defBody sInit) (defScope sInit) .none kV doc pm an (.ref c) ct) ["self", "kind", "atom", "members"] (spInit C Pt G) := by
  refine ⟨fun vs H Q E h => ?_, fun A outer s H args us vs Q E hr e0 hb hvs h => LamX.run_ofS lk cd scInit hr e0 hb hvs ?_ fun hr1 => ?_⟩
  · obtain ⟨_, _, _, _, _, _, _, _, _, _, rfl, _⟩ := h
    rfl
  · obtain ⟨_, _, _, _, _, _, _, _, _, _, rfl, _⟩ := h
    rfl
  obtain ⟨x, dx, ma, kd, av, mv, S, n, d, bs, rfl, hx, hv, nob, nS, rfl, hma, hbs, hl, tb, k⟩ := h
  refine ⟨_, pss_cons (ps_fld (pv 0) (pv 1) rfl)
    (pss_cons (ps_fld (pv 0) (pe_ifExp (pt_val (pe_callB (id := "isinstance") (r := rIsi K) call_isi (by rfl) (T.of "isinstance") (by decide +kernel) (pa_cons (pv 2) (pa_cons (pe_bltn (v := .ty "list") (by rfl) (T.of "list") (by decide +kernel) rfl) pa_nil))))
        (pe_callTy call_tuple_of (by rfl) (T.of "tuple") (by decide +kernel) (pa_cons (pv 2) pa_nil)) (pv 2)) rfl)
    (pss_cons (ps_setLc (i := 4) (own := [("key", 5), ("member", 6)]) (g := gTup K 2 (gCons (gName 5) (gCons (gName 6) gNil))) (tt := tYes) rfl scInit.nd rfl rfl (sw_true rfl rfl rfl (by decide +kernel)) (pi_seq (pv 3)) (blkOk_by (N := nInit) (sc := defScope sInit) (by decide +kernel))
        (fun _ _ _ _ _ => pg_tup rfl (pgs_cons (pg_name (i := 5) scInit.nd rfl (Or.inl rfl) (Or.inr rfl)) (pgs_cons (pg_name (i := 6) scInit.nd rfl (Or.inl rfl) (Or.inr rfl)) pgs_nil))) (fun _ _ _ _ _ => pts_nil) (fun _ _ _ _ _ => pe_tup (pa_cons (pv 5) (pa_cons (pv 6) pa_nil))))
    (pss_one (ps_fld (pv 0) (pe_callTy call_tupleX (by rfl) (T.of "tuple") (by decide +kernel) (pa_cons (pe_sortL (pa_cons (pv 4) pa_nil) rfl (T.of "sorted") rfl TB rfl hR hr1) pa_nil)) rfl)))), ?_⟩
  -- self.kind = kind
  refine ⟨.str kd, rfl, .ref x, rfl, x, C, dx, [], rfl, hx, cl, nK, (by show 0 < 1000; decide), ?_⟩
  have hv1 := hv.off (o := .ins C dx (putF "kind" (.str kd) [])) nS
  have nxma : ma ≠ x := fun z => by rw [z] at hma; rcases hma with h | h <;> (rw [hx] at h; cases h)
  have fx1 : Fx x H (upd H x (.ins C dx (putF "kind" (.str kd) []))) := fun H0 e0 h0 => e0.mut h0 hx
  have b1 : ∀ b, upd H x (.ins C dx (putF "kind" (.str kd) [])) b = none → H b = none := fun b hb => by
    by_cases y : b = x
    · rw [y, upd_same] at hb; cases hb
    · rwa [upd_ne y] at hb
  have x1 : upd H x (.ins C dx (putF "kind" (.str kd) [])) x = some (.ins C dx (putF "kind" (.str kd) [])) := upd_same
  have o1 : ∀ b o, b ≠ x → H b = some o → upd H x (.ins C dx (putF "kind" (.str kd) [])) b = some o := fun b o n h => by rw [upd_ne n]; exact h
  have t1 : LamX.TabS (upd H x (.ins C dx (putF "kind" (.str kd) []))) Pt qLam := tab_upd tb fun u hu => by rw [hx] at hu; cases hu; rfl
  generalize upd H x (.ins C dx (putF "kind" (.str kd) [])) = H1 at *
  -- self.atom
  refine t_tupor (n := n) rfl hv1 nob fun av' H2 e2 at2 fr2 => ⟨.ref x, rfl, x, C, dx, _, rfl, e2 x _ x1, cl, nA, (by show 1 < 1000; decide), ?_⟩
  rw [eflds_put2]
  have x2 := e2 x _ x1
  have fx3 : Fx x H (upd H2 x (.ins C dx [(("kind" : Str), V.str kd), ("atom", av')])) := fun H0 e0 h0 => ((fx1 H0 e0 h0).trans e2).mut h0 x2
  have b3 : ∀ b, upd H2 x (.ins C dx [(("kind" : Str), V.str kd), ("atom", av')]) b = none → H b = none := fun b hb => by
    by_cases y : b = x
    · rw [y, upd_same] at hb; cases hb
    · rw [upd_ne y] at hb
      exact b1 b (fresh_back e2 hb)
  have x3 : upd H2 x (.ins C dx [(("kind" : Str), V.str kd), ("atom", av')]) x = some (.ins C dx [(("kind" : Str), V.str kd), ("atom", av')]) := upd_same
  have o3 : ∀ b (o : HO) [NT o], b ≠ x → H b = some o → upd H2 x (.ins C dx [(("kind" : Str), V.str kd), ("atom", av')]) b = some o := fun b o _ n h => by rw [upd_ne n]; exact e2 b o (o1 b o n h)
  have t3 : LamX.TabS (upd H2 x (.ins C dx [(("kind" : Str), V.str kd), ("atom", av')])) Pt qLam := tab_upd (e2.tab _ _ hR t1) fun u hu => by rw [x2] at hu; cases hu; rfl
  have at3 : AtomAt (fun b => H b = none ∧ b ≠ x) G (upd H2 x (.ins C dx [(("kind" : Str), V.str kd), ("atom", av')])) av' d := at2.ch fun b xs s r => by
    have nb : b ≠ x := fun y => by rw [y, x1] at s; cases s
    exact ⟨⟨b1 b s, nb⟩, by rw [upd_ne nb]; exact r⟩
  generalize upd H2 x (.ins C dx [(("kind" : Str), V.str kd), ("atom", av')]) = H3 at *
  -- the pairs
  have p3 : ∀ b ∈ bs, H3 b.1 = some (.tup [.str b.2.1, b.2.2]) := fun b hb => o3 _ _ (fun y => by have := (hbs b hb).2; rw [y, hx] at this; cases this) (hbs b hb).2
  have ma3 : H3 ma = some (.lst (bs.map fun b => V.ref b.1)) ∨ H3 ma = some (.tup (bs.map fun b => V.ref b.1)) := hma.imp (fun h => o3 _ _ nxma h) fun h => o3 _ _ nxma h
  rcases ma3 with ma3 | ma3
  all_goals
    first
      | refine .inl ⟨.ref ma, rfl, ma, rfl, ⟨_, .inl (.inl ma3)⟩, fun D hD => lc_list (K := K) (a := ma) (xs := bs.map fun b => V.ref b.1) (PvI H3 D bs) (PvI.start hD) (fun i H4 _ q => .inl (.inl (q.1 ma _ ma3))) (fun i y H4 hi q => ?_) fun H4 q => ?_⟩
      | refine .inr ⟨.ref ma, rfl, ma, rfl, ⟨_, .inl (.inl ma3)⟩, fun D hD => lc_tup (K := K) (a := ma) (xs := bs.map fun b => V.ref b.1) (PvI H3 D bs) (PvI.start hD) (fun i H4 _ q => .inl (.inl (q.1 ma _ ma3))) (fun i y H4 hi q => ?_) fun H4 q => ?_⟩
    · obtain ⟨b, hi', rfl⟩ : ∃ b, bs[i]? = some b ∧ y = .ref b.1 := by
        rw [List.getElem?_map] at hi
        obtain ⟨b, h1, h2⟩ := Option.map_eq_some_iff.mp hi
        exact ⟨b, h1, h2.symm⟩
      refine ⟨b.1, _, rfl, .inl (.inl (q.1 _ _ (p3 b (List.mem_of_getElem? hi')))), rfl, _, _, rfl, _, _, rfl, rfl, rfl, t_yes ?_⟩
      refine ⟨_, rfl, _, rfl, (by show 2 ≤ sizeLine; decide), fun p hp => ?_⟩
      obtain ⟨acc, ha, hal, q'⟩ := q.step hD hi' hp
      refine ⟨acc, ha, ?_, q'⟩
      have := (List.getElem?_eq_some_iff.mp hi').1
      rw [hal]
      exact Nat.lt_of_lt_of_le this (Nat.le_trans hl (by decide))
    · rw [List.length_map] at q
      obtain ⟨e4, bs4, h4, hm, hb4⟩ := q
      rw [List.take_length] at hm
      refine ⟨_, rfl, D, bs4, rfl, h4, fun b hb => (hb4 b hb).2, e4.tab _ _ hR t3, fun H5 D5 e5 hD5 => ⟨D5, _, rfl, .inl (.inl upd_same), fun l ot hl5 otd => ?_⟩⟩
      have e45 := e4.trans e5
      have x5 := e45 x _ x3
      have nD5 : x ≠ D5 := ne_of_none x5 hD5
      have nl : l ≠ D5 := fun z => by rw [z, upd_same] at hl5; cases hl5
      have hl5' : H5 l = none := by rwa [upd_ne nl] at hl5
      have nxl : x ≠ l := ne_of_none x5 hl5'
      have x7 : (upd (upd H5 D5 (.lst ((sortB bs4).map fun b => V.ref b.1))) l (.frz ot (.tup ((sortB bs4).map fun b => V.ref b.1)))) x = some (.ins C dx [(("kind" : Str), V.str kd), ("atom", av')]) := by
        rw [upd_ne nxl, upd_ne nD5]; exact x5
      have e7 : Ex H3 (upd (upd H5 D5 (.lst ((sortB bs4).map fun b => V.ref b.1))) l (.frz ot (.tup ((sortB bs4).map fun b => V.ref b.1)))) := (e45.trans (Ex.new hD5)).trans (Ex.new hl5)
      refine ⟨_, rfl, x, C, dx, _, rfl, x7, cl, nM, (by show 2 < 1000; decide), ?_⟩
      refine k _ l av' bs4 (by rw [upd_same, ← eflds_put, eflds_put2]) (b3 l (fresh_back e45 hl5')) ⟨ot, otd, by rw [upd_ne nxl.symm, upd_same]⟩ hm (fun b hb => ?_) (at3.ch fun b xs s r => ⟨s.1, by rw [upd_ne s.2]; exact e7 b _ r⟩) fun H0 e0 h0 => ((fx3 H0 e0 h0).trans e7).mut h0 x7
      obtain ⟨⟨s1, s2⟩, r⟩ := hb4 b hb
      refine ⟨b3 _ s1, ?_⟩
      have n1 : b.1 ≠ x := fun z => by rw [z, x3] at s1; cases s1
      rw [upd_ne n1, upd_ne (ne_of_none (e5 _ _ r) hl5'), upd_ne (ne_of_none (e5 _ _ r) hD5)]
      exact e5 _ _ r
end
end TP

namespace TP
open PySem PySem.Spec PyProof.Rows L2
abbrev sPE : Stmt := topS 20
abbrev sME : Stmt := topS 21
/-- an effect just made -/
structure Made [TabL] (C : Addr) (G : Gen) (H1 H2 : Hp) (kd : Str) (d : D) (bs : List Bs) (x : Addr) : Prop where
  ex : Ex H1 H2
  nx : H1 x = none
  at_ : ∃ dx av' t bs', H2 x = some (.ins C dx (eflds kd av' t)) ∧ H1 t = none ∧ TpX H2 t ((sortB bs').map fun b => V.ref b.1) ∧ bs'.map (·.2) = bs.map (·.2) ∧ BsAt (fun b => H1 b = none) H2 bs' ∧ AtomAt (fun b => H1 b = none) G H2 av' d
theorem made [TabL] {C Pt : Addr} {G : Gen} {H1 : Hp} {kd : Str} {av mv : V} {ma : Addr} {S : Addr → Prop} {n : Nat} {d : D} {bs : List Bs} {Q : VK} (hv : Dc S G H1 (n + 1) av d) (nob : d.isOb = false) (hm : mv = .ref ma)
    (hma : H1 ma = some (.lst (bs.map fun b => V.ref b.1)) ∨ H1 ma = some (.tup (bs.map fun b => V.ref b.1))) (hbs : BsAt (fun _ => True) H1 bs) (hl : bs.length ≤ 5000) (tb : LamX.TabS H1 Pt qLam) (hR : TabL.R Pt qLam)
    (k : ∀ x H2, Made C G H1 H2 kd d bs x → Q (.ref x) H2) (x dx : Addr) (nx : H1 x = none) (ndx : H1 dx = none) (ne : dx ≠ x) :
    spInit C Pt G (.ref x :: ([.str kd, av, mv] ++ [])) (upd (upd H1 dx (.own x)) x (.ins C dx [])) (fun v H2 => v = .non ∧ Q (.ref x) H2) E0 := by
  have e0 : Ex H1 (upd (upd H1 dx (.own x)) x (.ins C dx [])) := (Ex.new ndx).trans (Ex.new (by rw [upd_ne ne.symm]; exact nx))
  refine ⟨x, dx, ma, kd, av, mv, (fun b => S b ∧ H1 b ≠ none), n, d, bs, rfl, upd_same, hv.alloc.ex e0, nob, fun z => z.2 nx, hm, hma.imp (fun h => e0 _ _ h) fun h => e0 _ _ h, fun b hb => ⟨trivial, e0 _ _ (hbs b hb).2⟩, hl, e0.tab _ _ hR tb, ?_⟩
  intro H' t av' bs' h1 h2 h3 h4 h5 h6 fx
  have back : ∀ b, (upd (upd H1 dx (.own x)) x (.ins C dx [])) b = none → H1 b = none := fun b hb => fresh_back e0 hb
  have ex : Ex H1 H' := fx H1 e0 nx
  exact ⟨rfl, k x H' ⟨ex, nx, dx, av', t, bs', h1, back t h2, h3, h4, fun b hb => ⟨back _ (h5 b hb).1, (h5 b hb).2⟩, h6.ch fun b xs s r => ⟨back b s, r⟩⟩⟩
theorem snd_nil {bs' : List Bs} (h : bs'.map (·.2) = ([] : List Bs).map (·.2)) : bs' = [] := by
  cases bs' with
  | nil => rfl
  | cons b bs' => cases h
theorem atom_non {S : Addr → Prop} {G : Gen} {H : Hp} {av : V} (h : AtomAt S G H av (.sc .non)) : av = .non := by
  rcases h with ⟨e, _⟩ | ⟨_, _, e, _⟩
  · cases e; rfl
  · cases e
theorem Made.drop [TabL] {C x : Addr} {G : Gen} {H1 H2 : Hp} (M : Made C G H1 H2 "drop" (.sc .non) [] x) (n : Nat) : Ec C (fun b => H1 b = none) G H2 (n + 1) (.ref x) .drop := by
  obtain ⟨dx, av, t, bs', h1, h2, h3, h4, h5, h6⟩ := M.at_
  cases snd_nil h4
  rw [show sortB [] = [] from List.mergeSort_nil] at h3
  exact ⟨x, dx, _, av, t, [], rfl, M.nx, h1, h2, h3, (fun b hb => nomatch hb), ndS_nil, (fun b hb => nomatch hb), rfl, rfl, atom_non h6⟩
theorem Made.keep [TabL] {C x : Addr} {G : Gen} {H1 H2 : Hp} (M : Made C G H1 H2 "keep" (.sc .non) [] x) (n : Nat) : Ec C (fun b => H1 b = none) G H2 (n + 1) (.ref x) .keep := by
  obtain ⟨dx, av, t, bs', h1, h2, h3, h4, h5, h6⟩ := M.at_
  cases snd_nil h4
  rw [show sortB [] = [] from List.mergeSort_nil] at h3
  exact ⟨x, dx, _, av, t, [], rfl, M.nx, h1, h2, h3, (fun b hb => nomatch hb), ndS_nil, (fun b hb => nomatch hb), rfl, rfl, atom_non h6⟩
theorem Made.set [TabL] {C x : Addr} {G : Gen} {H1 H2 : Hp} {d : D} (M : Made C G H1 H2 "set" d [] x) (n : Nat) : Ec C (fun b => H1 b = none) G H2 (n + 1) (.ref x) (.set d) := by
  obtain ⟨dx, av, t, bs', h1, h2, h3, h4, h5, h6⟩ := M.at_
  cases snd_nil h4
  rw [show sortB [] = [] from List.mergeSort_nil] at h3
  exact ⟨x, dx, _, av, t, [], rfl, M.nx, h1, h2, h3, (fun b hb => nomatch hb), ndS_nil, (fun b hb => nomatch hb), rfl, rfl, h6⟩
/-- the members of an effect just made -/
theorem mems {bs bs' : List Bs} (h : bs'.map (·.2) = bs.map (·.2)) : ((sortB bs').map fun b => b.2.1).Perm (bs.map fun b => b.2.1) ∧ ∀ b ∈ sortB bs', ∃ c ∈ bs, c.2 = b.2 := by
  refine ⟨?_, fun b hb => ?_⟩
  · have e : (bs'.map fun b => b.2.1) = (bs.map fun b => b.2.1) := by
      have := congrArg (List.map Prod.fst) h
      rw [List.map_map, List.map_map] at this
      exact this
    rw [← e]
    exact (sortB_perm bs').map _
  · have hb' := (sortB_perm bs').mem_iff.mp hb
    have : b.2 ∈ bs.map (·.2) := by rw [← h]; exact List.mem_map.mpr ⟨b, hb', rfl⟩
    obtain ⟨c, hc, e⟩ := List.mem_map.mp this
    exact ⟨c, hc, e⟩
theorem Made.node [TabL] {C x : Addr} {G : Gen} {H1 H2 : Hp} {S : Addr → Prop} {kd : Str} {bs : List Bs} {n : Nat} {f : Str → Ef} (M : Made C G H1 H2 kd (.sc .non) bs x) (nd : (bs.map fun b => b.2.1).Nodup) (ks : ∀ b ∈ bs, b.2.1 ∈ G.KS) (no : ∀ k, k ∉ bs.map (fun b => b.2.1) → f k = .no)
    (hm : ∀ b ∈ bs, Ec C S G H1 n b.2.2 (f b.2.1)) : (kd = "merge" → Ec C (fun b => H1 b = none ∨ S b) G H2 (n + 1) (.ref x) (.merge f)) ∧ (kd = "build" → Ec C (fun b => H1 b = none ∨ S b) G H2 (n + 1) (.ref x) (.build f)) := by
  obtain ⟨dx, av, t, bs', h1, h2, h3, h4, h5, h6⟩ := M.at_
  obtain ⟨p, q⟩ := mems h4
  have av0 : av = .non := by
    rcases h6 with ⟨e, _⟩ | ⟨ta, xs, e, _⟩
    · injection e with e; exact e.symm
    · cases e
  have a1 : BsAt (fun b => H1 b = none ∨ S b) H2 (sortB bs') := fun b hb => ⟨.inl (h5 b ((sortB_perm bs').mem_iff.mp hb)).1, (h5 b ((sortB_perm bs').mem_iff.mp hb)).2⟩
  have a2 : NdS ((sortB bs').map fun b => b.2.1) := ⟨p.nodup_iff.mpr nd, sortB_srt bs'⟩
  have a3 : ∀ b ∈ sortB bs', b.2.1 ∈ G.KS := fun b hb => by
    obtain ⟨c, hc, e⟩ := q b hb
    rw [← e]; exact ks c hc
  have a4 : ∀ k, k ∉ (sortB bs').map (fun b => b.2.1) → f k = .no := fun k hk => no k fun z => hk (p.mem_iff.mpr z)
  have a5 : ∀ b ∈ sortB bs', Ec C (fun b => H1 b = none ∨ S b) G H2 n b.2.2 (f b.2.1) := fun b hb => by
    obtain ⟨c, hc, e⟩ := q b hb
    rw [← e]; exact ((hm c hc).ex M.ex).imp fun _ z => .inr z
  exact ⟨fun e => ⟨x, dx, _, av, t, sortB bs', rfl, .inl M.nx, h1, .inl h2, h3, a1, a2, a3, e, av0, a4, a5⟩, fun e => ⟨x, dx, _, av, t, sortB bs', rfl, .inl M.nx, h1, .inl h2, h3, a1, a2, a3, e, av0, a4, a5⟩⟩
/-- what the class needs -/
structure EFacts [TabL] (K : PySem.W.Frag) (mg : Str → Option Value) (base : Heap) (C Pt fI : Addr) (fdI : FuncData) : Prop where
  cl : Cls K C
  nK : NoAttr K C "kind"
  nA : NoAttr K C "atom"
  nM : NoAttr K C "members"
  mgC : mg "Effect" = some (.ref C)
  mkC : Mk K C fI
  b : Binds K fdI ["self", "kind", "atom", "members"] []
  hR : TabL.R Pt qLam
def spPE [TabL] (C Pt : Addr) (G : Gen) (n : Nat) : Sp := fun vs H Q _ => ∃ (S : Addr → Prop) (v : V) (d : D), vs = [v] ∧ Dc S G H n v d ∧ LamX.TabS H Pt qLam ∧ ∀ r H', Ex H H' → Ec C (Nw H) G H' n r (pef d) → Q r H'
def spME [TabL] (C Pt : Addr) (G : Gen) (n : Nat) : Sp := fun vs H Q _ => ∃ (S : Addr → Prop) (v : V) (d : D), vs = [v] ∧ Dc S G H n v d ∧ LamX.TabS H Pt qLam ∧ ∀ r H', Ex H H' → Ec C (Nw H) G H' n r (if d.isNon then .drop else pef d) → Q r H'
theorem scPE : FnScope ["patch", "key"] ["patch"] (defScope sPE) := ⟨rfl, rfl, rfl, by decide +kernel, rfl, by decide +kernel, by decide +kernel⟩
theorem scME : FnScope ["patch"] ["patch"] (defScope sME) := ⟨rfl, rfl, rfl, by decide +kernel, rfl, by decide +kernel, by decide +kernel⟩
section
variable [TabL] {P : Program} {w : World} {K : PySem.W.Frag} {mg : Str → Option Value} {base : Heap}
theorem ok_me {C Pt fI f fp : Addr} {fdI fd fdp : FuncData} {G : Gen} {n k : Nat} (hk : 3 ≤ k) (Z : EFacts K mg base C Pt fI fdI) (gI : FnOk P w K mg base CX0 2 fI fdI ["self", "kind", "atom", "members"] (spInit C Pt G)) (hN : G.C .non = true)
    (Dd : Df K mg "member_effect" sME ["patch"] f fd) (Dp : Df K mg "patch_effect" sPE ["patch"] fp fdp) (gp : FnOk P w K mg base CX0 k fp fdp ["patch"] (spPE C Pt G n)) : FnOk P w K mg base CX0 (k + 1) f fd ["patch"] (spME C Pt G n) := by
  refine Dd.F.ok scME (fun vs H Q E h => ?_) (fun cdv A outer s H vs Q E hr h => ?_)
  · obtain ⟨_, v, d, rfl, _⟩ := h
    rfl
  obtain ⟨S, v, d, rfl, hv, tb, k⟩ := h
  have hr3 : Room (2 + 1) _ := hr.mono hk
  refine ⟨_, pss_cons (ps_if (pt_cmpR op_isN (pv 0) pe_non (nomark _)) (pss_one (ps_ret (pe_make Z.mkC gI hr3 rfl Z.mgC Z.b .nil pass0 (pa_cons pe_str (pa_cons pe_non (pa_cons (pe_tup pa_nil) pa_nil)))))) pss_nil)
    (pss_one (ps_ret (pe_call gp hr rfl Dp.m Dp.F.kp Dp.b .nil pass0 (pa_cons (pv 0) pa_nil)))), ?_⟩
  refine ⟨v, rfl, rfl, _, rfl, ?_⟩
  have nd := hv.non
  cases n with
  | zero => exact (show False from hv).elim
  | succ n =>
  by_cases c : v = .non
  · refine ifT (by simp [c]) ?_
    refine ⟨(by show 0 ≤ sizeLine; decide), fun p hp => ?_⟩
    refine made (S := fun _ => False) (n := 0) (d := .sc .non) (bs := []) (Dc.sc hN) rfl rfl (.inr upd_same) (fun b hb => nomatch hb) (Nat.zero_le _) ((Ex.new hp).tab _ _ Z.hR tb) Z.hR fun x H2 M => ?_
    refine k _ _ ((Ex.new hp).trans M.ex) ?_
    rw [nd]
    simp only [c, decide_true, if_true]
    exact (M.drop n).imp fun b hb => fresh_back (Ex.new hp) hb
  · refine ifF (by simp [c]) ?_
    refine ⟨v, rfl, S, v, d, rfl, hv, tb, fun r H' e h => k r H' e ?_⟩
    rw [nd]
    simp only [c, decide_false, Bool.false_eq_true, if_false]
    exact h
end
end TP

namespace TP
open PySem PySem.Spec PyProof.Rows L2
section
variable [TabL] {P : Program} {w : World} {K : PySem.W.Frag} {mg : Str → Option Value} {base : Heap}
theorem ok_pe {C Pt fI f fm : Addr} {fdI fd fdm : FuncData} {G : Gen} (hG : G.KS.length ≤ 5000) (Z : EFacts K mg base C Pt fI fdI) (gI : FnOk P w K mg base CX0 2 fI fdI ["self", "kind", "atom", "members"] (spInit C Pt G)) (hN : G.C .non = true) (T : Bi mg)
    (Dd : Df K mg "patch_effect" sPE ["patch"] f fd) (Dm : Df K mg "member_effect" sME ["patch"] fm fdm) : ∀ n, FnOk P w K mg base CX0 (2 * n + 4) f fd ["patch"] (spPE C Pt G n)
  | 0 => fn_zero fun vs H Q E ⟨_, _, _, _, h, _⟩ => h
  | n + 1 => by
    have gm : FnOk P w K mg base CX0 (2 * n + 5) fm fdm ["patch"] (spME C Pt G n) := ok_me (by omega) Z gI hN Dm Dd (ok_pe hG Z gI hN T Dd Dm n)
    show FnOk P w K mg base CX0 ((2 * n + 5) + 1) f fd ["patch"] (spPE C Pt G (n + 1))
    refine Dd.F.ok scPE (fun vs H Q E h => ?_) (fun cdv A outer s H vs Q E hr h => ?_)
    · obtain ⟨_, v, d, rfl, _⟩ := h
      rfl
    obtain ⟨S, v, d, rfl, hv, tb, k⟩ := h
    have hu := hu_of hr
    have hr3 : Room (2 + 1) _ := hr.mono (by omega)
    refine ⟨_, pss_cons (ps_if (pt_not (pt_val (pe_callB (id := "isinstance") (r := rIsi K) call_isi (by rfl) (T.of "isinstance") (by decide +kernel) (pa_cons (pv 0) (pa_cons (pe_bltn (v := .ty "dict") (by rfl) (T.of "dict") (by decide +kernel) rfl) pa_nil)))))
        (pss_one (ps_ret (pe_make Z.mkC gI hr3 rfl Z.mgC Z.b .nil pass0 (pa_cons pe_str (pa_cons (pv 0) (pa_cons (pe_tup pa_nil) pa_nil)))))) pss_nil)
      (pss_one (ps_ret (pe_make Z.mkC gI hr3 rfl Z.mgC Z.b .nil pass0 (pa_cons pe_str (pa_cons pe_non (pa_cons
        (pe_lock (pe_lc (own := [("key", 1)]) (g := gName 1) (tt := tYes) rfl scPE.nd (pi_keys (pv 0)) (blkOk_by (N := ["patch", "key"]) (sc := defScope sPE) (by decide +kernel))
          (fun _ _ _ _ _ => pg_name (i := 1) scPE.nd rfl (Or.inl rfl)) (fun _ _ _ _ _ => pts_nil)
          (fun _ _ _ _ _ => pe_tup (pa_cons (pv 1) (pa_cons (pe_call gm hr rfl Dm.m Dm.F.kp Dm.b .nil pass0 (pa_cons (pe_dget hu (pv 0) (pv 1) (fun _ _ => rfl)) pa_nil)) pa_nil))))) pa_nil)))))), ?_⟩
    obtain ⟨t1, ty1, kit1⟩ := isiD K hv
    refine ⟨v, rfl, v, .ty "dict", t1, _, _, rfl, .ty _, ty1, kit1, _, rfl, ?_⟩
    have leaf : d.isOb = false → (pef d = .set d) → ∀ p, H p = none → ∀ (x dx : Addr), (upd H p (.tup [])) x = none → (upd H p (.tup [])) dx = none → dx ≠ x → spInit C Pt G (.ref x :: ([.str "set", v, .ref p] ++ [])) (upd (upd (upd H p (.tup [])) dx (.own x)) x (.ins C dx [])) (fun v H2 => v = .non ∧ Q (.ref x) H2) E0 := fun nob e p hp => by
      refine made (S := S) (n := n) (d := d) (bs := []) (hv.ex (Ex.new hp)) nob rfl (.inr upd_same) (fun b hb => nomatch hb) (Nat.zero_le _) ((Ex.new hp).tab _ _ Z.hR tb) Z.hR fun x H2 M => ?_
      refine k _ _ ((Ex.new hp).trans M.ex) ?_
      rw [e]
      exact (M.set n).imp fun b hb => fresh_back (Ex.new hp) hb
    refine hv.cases (fun m e hs ed => ?_) (fun m a xs e ev hS r hx ed => ?_) (fun m a ms f' e ev hS r M ed => ?_)
    · subst ed
      exact iteT ⟨v, rfl, (by show 0 ≤ sizeLine; decide), fun p hp => leaf rfl rfl p hp⟩
    · subst ed; subst ev
      exact iteT ⟨_, rfl, (by show 0 ≤ sizeLine; decide), fun p hp => leaf rfl rfl p hp⟩
    subst ed; subst ev; cases e
    refine iteF ⟨a, _, r, trivial, fun od => ⟨_, rfl, a, od, rfl, .inl ⟨_, upd_same, fun Da hD => ?_⟩⟩⟩
    have M' := M.lock r hS (o := .frz od (.dK (kvsOf ms)))
    have hDa : Da ≠ a := fun z => by rw [z, upd_same] at hD; cases hD
    have hDH : H Da = none := by rw [upd_ne hDa] at hD; exact hD
    have hml := M.len
    have tbl : LamX.TabS (upd H a (.frz od (.dK (kvsOf ms)))) Pt qLam := tab_upd tb fun u hu => by rw [r] at hu; cases hu; rfl
    refine lc_keys (o := od) (d := a) (ms := ms) (fun i H2 => Ex (upd H a (.frz od (.dK (kvsOf ms)))) H2 ∧ ∃ bs : List Bs, H2 Da = some (.lst (bs.map fun b => V.ref b.1)) ∧ bs.map (fun b => b.2.1) = (ms.take i).map (·.1) ∧ ∀ b ∈ bs, b.1 ≠ Da ∧ b.1 ≠ a ∧ H2 b.1 = some (.tup [.str b.2.1, b.2.2]) ∧ Ec C (fun b => H b = none ∧ b ≠ Da) G H2 n b.2.2 (if (f' b.2.1).isNon then .drop else pef (f' b.2.1))) ?_ ?_ ?_ ?_
    · exact ⟨Ex.new hD, [], upd_same, rfl, fun b hb => nomatch hb⟩
    · exact fun i H2 _ q => q.1 a _ upd_same
    · rintro i key u H2 hi ⟨ex, bs, h2, hk, hb⟩
      have hku : valV ms key = some u := valV_of_mem M.nd (List.mem_of_getElem? hi)
      refine ⟨rfl, t_yes ?_⟩
      refine ⟨.str key, rfl, .ref a, rfl, .str key, rfl, a, u, rfl, .inl ⟨_, Sum.inr key, .inr ⟨od, ex a _ upd_same⟩, rfl, by rw [valV_inK]; exact hku.symm⟩, S, u, f' key, rfl, (M'.at' key u hku).ex ex, ex.tab _ _ Z.hR tbl, fun z H5 e5 hz => ⟨(by show 2 ≤ sizeLine; decide), fun p hp => ?_⟩⟩
      have h5 := e5 Da _ h2
      have nz : Ec C (fun b => H b = none ∧ b ≠ Da) G H5 n z (if (f' key).isNon then .drop else pef (f' key)) := hz.imp fun b hb => by
        have q := fresh_back ex hb
        by_cases zz : b = a
        · rw [zz, upd_same] at q; cases q
        · rw [upd_ne zz] at q
          exact ⟨q, (ne_of_none h2 hb).symm⟩
      have npD : p ≠ Da := (ne_of_none h5 hp).symm
      have npa : p ≠ a := (ne_of_none (e5 a _ (ex a _ upd_same)) hp).symm
      have e6 : Ex H2 (upd H5 p (.tup [.str key, z])) := e5.trans (Ex.new hp)
      have h6 : (upd H5 p (.tup [.str key, z])) Da = some (.lst (bs.map fun b => V.ref b.1)) := by rw [upd_ne npD.symm]; exact h5
      refine ⟨_, h6, ?_, Ex.mut (ex.trans e6) hD h6, bs ++ [(p, key, z)], by rw [upd_same, List.map_append]; rfl, ?_, ?_⟩
      · have hbl := congrArg List.length hk
        rw [List.length_map, List.length_map, List.length_take] at hbl
        have := (List.getElem?_eq_some_iff.mp hi).1
        rw [List.length_map]
        exact Nat.lt_of_le_of_lt (show bs.length ≤ 5000 by omega) (by decide)
      · rw [List.map_append, hk, List.take_add_one, hi]
        simp
      · intro b hb'
        rcases List.mem_append.mp hb' with hb' | hb'
        · obtain ⟨b1, b2, b3, b4⟩ := hb b hb'
          exact ⟨b1, b2, by rw [upd_ne b1]; exact e6 _ _ b3, (b4.ex e6).off fun z => z.2 rfl⟩
        · rw [List.mem_singleton.mp hb']
          exact ⟨npD, npa, by rw [upd_ne npD, upd_same], (nz.ex (Ex.new hp)).off fun z => z.2 rfl⟩
    rintro H2 ⟨ex, bs, h2, hk, hb⟩
    refine ⟨ex a _ upd_same, ?_⟩
    have ex' : Ex H (upd H2 a (.dK (kvsOf ms))) := ex_unlock r ex
    rw [List.take_length] at hk
    have keys : ∀ b ∈ bs, b.2.1 ∈ ms.map (·.1) := fun b hb' => by rw [← hk]; exact List.mem_map.mpr ⟨b, hb', rfl⟩
    refine made (S := fun _ => False) (n := 0) (d := .sc .non) (bs := bs) (Dc.sc hN) rfl rfl (.inl (by rw [upd_ne hDa]; exact h2)) (fun b hb' => ⟨trivial, by rw [upd_ne (hb b hb').2.1]; exact (hb b hb').2.2.1⟩) ?_ (ex'.tab _ _ Z.hR tb) Z.hR fun x H3 Md => ?_
    · have hbl := congrArg List.length hk
      rw [List.length_map, List.length_map] at hbl
      omega
    refine k _ _ (ex'.trans Md.ex) ?_
    refine ((Md.node (S := fun b => H b = none ∧ b ≠ Da) (n := n) (f := fun k => if (f' k).isNil then .no else if (f' k).isNon then .drop else pef (f' k)) (by rw [hk]; exact M.nd) (fun b hb' => M.ks _ (keys b hb')) (fun k hk' => ?_) (fun b hb' => ?_)).1 rfl).imp fun b hb' => hb'.elim (fun z => fresh_back ex' z) fun z => z.1
    · rw [hk] at hk'
      rw [M.no k (valV_none_of hk')]
      rfl
    · obtain ⟨m, hm, e⟩ := List.mem_map.mp (keys b hb')
      have ne := (M.at' m.1 m.2 (valV_of_mem M.nd hm)).ne_nil
      rw [e] at ne
      show Ec C _ G _ n b.2.2 (if (f' b.2.1).isNil then .no else if (f' b.2.1).isNon then .drop else pef (f' b.2.1))
      rw [ne]
      simp only [Bool.false_eq_true, if_false]
      exact (hb b hb').2.2.2.ch (fun c o s _ r' => ⟨s, by rw [upd_ne (fun z => by rw [z, r] at s; cases s.1)]; exact r'⟩) (Nat.le_refl _)
end
end TP

namespace TP
open PySem PySem.Spec PyProof.Rows L2
abbrev sFol : Stmt := topS 22
abbrev sMerged : Stmt := topS 23
abbrev sBuilt : Stmt := topS 24
def spFol [TabL] (C Pt : Addr) (G : Gen) (n : Nat) : Sp := fun vs H Q _ => ∃ (S : Addr → Prop) (v1 v2 : V) (e1 e2 : Ef), vs = [v1, v2] ∧ Ec C S G H n v1 e1 ∧ Ec C S G H n v2 e2 ∧ LamX.TabS H Pt qLam ∧ ∀ r H', Ex H H' → Ec C (fun b => S b ∨ H b = none) G H' n r (e1.fol e2) → Q r H'
def spMerged [TabL] (C Pt : Addr) (G : Gen) (n : Nat) : Sp := fun vs H Q _ => ∃ (S : Addr → Prop) (v1 v2 : V) (f g : Str → Ef), vs = [v1, v2] ∧ Ec C S G H (n + 1) v1 (.merge f) ∧ Ec C S G H (n + 1) v2 (.merge g) ∧ LamX.TabS H Pt qLam ∧ ∀ r H', Ex H H' → Ec C (fun b => S b ∨ H b = none) G H' (n + 1) r ((Ef.merge f).fol (.merge g)) → Q r H'
theorem ex_all [TabL] {H H' : Hp} (st : ∀ b o, H b = some o → H' b = some o) : Ex H H' := by
  refine ⟨fun b o h _ => st b o h, fun b h => ?_, fun b q _ t => LamX.TabS.ext t st⟩
  cases e : H b with
  | none => exact absurd e h
  | some o => rw [st b o e]; exact fun z => nomatch z
theorem bs_of {H : Hp} : ∀ {ts : List Addr} {ms : List (Str × V)}, Paired (fun (t : Addr) (q : Key × V) => H t = some (.tup [kV q.1, q.2])) ts (kvsOf ms) → ∃ bs : List Bs, bs.map (fun b => b.1) = ts ∧ bs.map (fun b => b.2) = ms ∧ BsAt (fun _ => True) H bs
  | [], [], _ => ⟨[], rfl, rfl, fun b hb => nomatch hb⟩
  | t :: ts, m :: ms, .cons a p => by
    obtain ⟨bs, e1, e2, e3⟩ := bs_of p
    refine ⟨(t, m) :: bs, by rw [List.map_cons, e1], by rw [List.map_cons, e2], fun b hb => ?_⟩
    rcases List.mem_cons.mp hb with rfl | hb
    · exact ⟨trivial, a⟩
    · exact e3 b hb
/-- an effect of a dict's items -/
theorem items_made [TabL] {C Pt : Addr} {G : Gen} {H5 H6 : Hp} {p : Addr} {ts : List Addr} {ms5 : List (Str × V)} {f5 : Str → Ef} {S' : Addr → Prop} {n : Nat} {kd : Str} {Q : VK} (M5 : MemE C S' G H5 n ms5 f5) (tb : LamX.TabS H5 Pt qLam) (hR : TabL.R Pt qLam) (hN : G.C .non = true) (hl : ms5.length ≤ 5000) (st : ∀ b o, H5 b = some o → H6 b = some o)
    (h6 : H6 p = some (.lst (ts.map V.ref))) (prs : Paired (fun (t : Addr) (q : Key × V) => H6 t = some (.tup [kV q.1, q.2])) ts (kvsOf ms5))
    (k : ∀ x H7, Ex H5 H7 → (kd = "merge" → Ec C (fun b => H5 b = none ∨ S' b) G H7 (n + 1) (.ref x) (.merge f5)) ∧ (kd = "build" → Ec C (fun b => H5 b = none ∨ S' b) G H7 (n + 1) (.ref x) (.build f5)) → Q (.ref x) H7) (x dx : Addr) (nx : H6 x = none) (ndx : H6 dx = none) (ne : dx ≠ x) :
    spInit C Pt G (.ref x :: ([.str kd, .non, .ref p] ++ [])) (upd (upd H6 dx (.own x)) x (.ins C dx [])) (fun v H2 => v = .non ∧ Q (.ref x) H2) E0 := by
  obtain ⟨bs, e1, e2, e3⟩ := bs_of prs
  have e6 := ex_all st
  have el : ts.map V.ref = bs.map fun b => V.ref b.1 := by rw [← e1, List.map_map]; rfl
  have ek : (bs.map fun b => b.2.1) = ms5.map (·.1) := by rw [← e2, List.map_map]; rfl
  refine made (S := fun _ => False) (n := 0) (d := .sc .non) (bs := bs) (Dc.sc hN) rfl rfl (.inl (by rw [h6, el])) e3 (by rw [← e2, List.length_map] at hl; exact hl) (e6.tab _ _ hR tb) hR (fun x H7 Md => ?_) x dx nx ndx ne
  have nd := Md.node (S := fun b => S' b) (n := n) (f := f5) (by rw [ek]; exact M5.nd) (fun b hb => M5.ks _ (by rw [← ek]; exact List.mem_map.mpr ⟨b, hb, rfl⟩)) (fun k hk => M5.no k (valV_none_of (by rw [← ek]; exact hk))) fun b hb => (M5.at' b.2.1 b.2.2 (valV_of_mem M5.nd (by rw [← e2]; exact List.mem_map.mpr ⟨b, hb, rfl⟩))).ex e6
  exact k x H7 (e6.trans Md.ex) ⟨fun z => (nd.1 z).imp fun b hb => hb.imp (fun q => fresh_back e6 q) id, fun z => (nd.2 z).imp fun b hb => hb.imp (fun q => fresh_back e6 q) id⟩
abbrev nMerged : List Str := ["one", "other", "by_key", "key", "member"]
theorem scMerged : FnScope nMerged ["one", "other"] (defScope sMerged) := ⟨rfl, rfl, rfl, by decide +kernel, rfl, by decide +kernel, by decide +kernel⟩
section
variable [TabL] {P : Program} {w : World} {K : PySem.W.Frag} {mg : Str → Option Value} {base : Heap}
theorem ok_merged {C Pt fI f ff : Addr} {fdI fd fdf : FuncData} {G : Gen} {n k : Nat} (hk : 3 ≤ k) (hG : G.KS.length ≤ 5000) (Z : EFacts K mg base C Pt fI fdI) (gI : FnOk P w K mg base CX0 2 fI fdI ["self", "kind", "atom", "members"] (spInit C Pt G)) (hN : G.C .non = true) (T : Bi mg)
    (Dd : Df K mg "merged" sMerged ["one", "other"] f fd) (Df' : Df K mg "following" sFol ["one", "other"] ff fdf) (gf : FnOk P w K mg base CX0 k ff fdf ["one", "other"] (spFol C Pt G n)) : FnOk P w K mg base CX0 (k + 1) f fd ["one", "other"] (spMerged C Pt G n) := by
  refine Dd.F.ok scMerged (fun vs H Q E h => ?_) (fun cdv A outer s H vs Q E hr h => ?_)
  · obtain ⟨_, v1, v2, _, _, rfl, _⟩ := h
    rfl
  obtain ⟨S, v1, v2, f1, g1, rfl, h1, h2, tb, kk⟩ := h
  have hu := hu_of hr
  have hr3 : Room (2 + 1) _ := hr.mono hk
  refine ⟨_, pss_cons (ps_set (i := 2) scMerged.nd rfl (Or.inl rfl) (pe_callTy (call_dictT rfl) (by rfl) (T.of "dict") (by decide +kernel) (pa_cons (pe_fld (pv 0) rfl) pa_nil)))
    (pss_cons (ps_for PassesOwn.never rfl (pi_tup (pe_fld (pv 1) rfl)) (pg_tup rfl (pgs_cons (pg_name (i := 3) scMerged.nd rfl (Or.inl rfl) (Or.inr rfl)) (pgs_cons (pg_name (i := 4) scMerged.nd rfl (Or.inl rfl) (Or.inr rfl)) pgs_nil)))
      (pss_one (ps_dput hu (pv 2) (pv 3) (pe_ifExp (pt_cmp (pc_din hu (pv 3) (pv 2))) (pe_call gf hr rfl Df'.m Df'.F.kp Df'.b .nil pass0 (pa_cons (pe_dget hu (pv 2) (pv 3) (fun _ _ => rfl)) (pa_cons (pv 4) pa_nil))) (pv 4)) rfl)))
    (pss_one (ps_ret (pe_make Z.mkC gI hr3 rfl Z.mgC Z.b .nil pass0 (pa_cons pe_str (pa_cons pe_non (pa_cons (LiI.pe_listItems rfl (pv 2) (by rfl) (T.of "list") (by decide +kernel)) pa_nil))))))), ?_⟩
  obtain ⟨a1, dx1, kd1, av1, t1, bs1, rfl, sa1, ha1, st1, ⟨ot1, od1, ht1⟩, hb1, nd1, ks1, rfl, rfl, no1, at1⟩ := h1
  obtain ⟨a2, dx2, kd2, av2, t2, bs2, rfl, sa2, ha2, st2, ⟨ot2, od2, ht2⟩, hb2, nd2, ks2, rfl, rfl, no2, at2⟩ := h2
  have M1 := memE_of nd1.1 ks1 no1 at1
  refine ⟨.ref a1, rfl, a1, C, dx1, _, _, rfl, ha1, Z.cl, Z.nM, eflds_mem _ _ _, t1, ot1, bs1.map (·.1), kvsOf (bs1.map (·.2)), rfl, (by rw [List.map_map]; exact ht1), od1, pairs_bs hb1, fun Fa hF => ?_⟩
  rw [show mergeK [] (kvsOf (bs1.map (·.2))) = kvsOf (bs1.map (·.2)) from merge_nodup (bs1.map fun b : Bs => b.2) [] M1.nd]
  have e0 : Ex H (upd H Fa (.dK (kvsOf (bs1.map (·.2))))) := Ex.new hF
  have nSF : ∀ b, S b → H b ≠ none → b ≠ Fa := fun b _ z y => z (by rw [y]; exact hF)
  let ks := bs2.map fun b => b.2.1
  let tgt : Str → Ef := fun k => if (g1 k).isNo then f1 k else if (f1 k).isNo then g1 k else (f1 k).fol (g1 k)
  refine ⟨.ref a2, rfl, a2, C, dx2, _, _, rfl, e0 _ _ ha2, Z.cl, Z.nM, eflds_mem _ _ _, t2, rfl, ⟨_, .inl (.inr ⟨ot2, e0 _ _ ht2⟩)⟩, ?_⟩
  refine for_tup (K := K) (a := t2) (xs := bs2.map fun b => V.ref b.1) (fun i σ H5 => ∃ ms5 f5, (∃ v3 v4, σ = [some (.ref a1), some (.ref a2), some (.ref Fa), v3, v4]) ∧ Ex H H5 ∧ H5 Fa = some (.dK (kvsOf ms5)) ∧ MemE C (fun b => (S b ∧ H b ≠ none) ∨ (H b = none ∧ b ≠ Fa)) G H5 n ms5 f5 ∧ f5 = mixE ks i tgt f1) ?_ ?_ ?_ ?_
  · refine ⟨_, _, ⟨_, _, rfl⟩, e0, upd_same, ?_, mixE_zero.symm⟩
    exact M1.ch fun b o s _ r => ⟨.inl ⟨s, by rw [r]; exact fun z => nomatch z⟩, e0.go _ _ r (by assumption)⟩
  · exact fun i σ H5 _ ⟨_, _, _, ex, _⟩ => .inl (.inr ⟨ot2, ex _ _ ht2⟩)
  · rintro i y σ H5 hi ⟨ms5, f5, ⟨v3, v4, rfl⟩, ex, h5, M5, hf⟩
    obtain ⟨b, hi', rfl⟩ : ∃ b, bs2[i]? = some b ∧ y = .ref b.1 := by
      rw [List.getElem?_map] at hi
      obtain ⟨b, h1, h2⟩ := Option.map_eq_some_iff.mp hi
      exact ⟨b, h1, h2.symm⟩
    have hbm := List.mem_of_getElem? hi'
    have hik : ks[i]? = some b.2.1 := by
      show (bs2.map fun b => b.2.1)[i]? = _
      rw [List.getElem?_map, hi']
      rfl
    have fk : f5 b.2.1 = f1 b.2.1 := by rw [hf]; exact mixE_new nd2.1 hik
    have l5 : Rd H5 Fa (.dK (kvsOf ms5)) := .inl h5
    have ec2 : Ec C (fun b => (S b ∧ H b ≠ none) ∨ (H b = none ∧ b ≠ Fa)) G H5 n b.2.2 (g1 b.2.1) := (at2 b hbm).ch (fun c o s z r => ⟨.inl ⟨s, by rw [r]; exact fun z => nomatch z⟩, ex.go _ _ r z⟩) (Nat.le_refl _)
    have g1n : (g1 b.2.1).isNo = false := ec2.not_no
    refine ⟨b.1, _, rfl, .inl (.inl (ex _ _ (hb2 b hbm).2)), rfl, _, _, rfl, _, _, rfl, rfl, ?_⟩
    refine ⟨.str b.2.1, rfl, .ref Fa, rfl, Fa, valV ms5 b.2.1, rfl, .inl ⟨_, Sum.inr b.2.1, l5, rfl, (valV_inK ms5 b.2.1).symm⟩, _, rfl, ?_⟩
    cases e : valV ms5 b.2.1 with
    | none =>
      have fn : (f1 b.2.1).isNo = true := by rw [← fk, M5.no _ e]; rfl
      refine iteF ⟨b.2.2, rfl, .ref Fa, rfl, .str b.2.1, rfl, Fa, _, rfl, DPut.k (k := Sum.inr b.2.1) h5 ?_, putK ms5 b.2.1 b.2.2, fupE f5 b.2.1 (g1 b.2.1), ⟨_, _, rfl⟩, ex.mut hF h5, by rw [upd_same, putK_inK], ?_, ?_⟩
      · have := M5.len
        rw [show (kvsOf ms5).length = ms5.length from List.length_map ..]
        exact Nat.lt_of_le_of_lt (show ms5.length ≤ 5000 by omega) (by decide)
      · exact (M5.put (ks2 b hbm) ec2).off fun z => z.elim (fun z => z.2 hF) fun z => z.2 rfl
      · have z := mixE_succ (f := tgt) (g := f1) hik
        rw [show tgt b.2.1 = g1 b.2.1 from by show (if (g1 b.2.1).isNo then _ else if (f1 b.2.1).isNo then _ else _) = _; rw [g1n, fn]; rfl] at z
        rw [hf]
        exact z
    | some u =>
      have ec1 := M5.at' _ _ e
      rw [fk] at ec1
      have f1n : (f1 b.2.1).isNo = false := ec1.not_no
      refine iteT ⟨.ref Fa, rfl, .str b.2.1, rfl, Fa, u, rfl, .inl ⟨_, Sum.inr b.2.1, l5, rfl, by rw [valV_inK]; exact e.symm⟩, b.2.2, rfl, _, u, b.2.2, f1 b.2.1, g1 b.2.1, rfl, ec1, ec2, ex.tab _ _ Z.hR tb, fun r H6 e6 hr6 => ?_⟩
      have h6 := e6 Fa _ h5
      have er : Ec C (fun b => (S b ∧ H b ≠ none) ∨ (H b = none ∧ b ≠ Fa)) G H6 n r ((f1 b.2.1).fol (g1 b.2.1)) := hr6.imp fun c hc => hc.elim id fun hc => .inr ⟨fresh_back ex hc, (ne_of_none h5 hc).symm⟩
      refine ⟨.ref Fa, rfl, .str b.2.1, rfl, Fa, _, rfl, DPut.k (k := Sum.inr b.2.1) h6 ?_, putK ms5 b.2.1 r, fupE f5 b.2.1 ((f1 b.2.1).fol (g1 b.2.1)), ⟨_, _, rfl⟩, (ex.trans e6).mut hF h6, by rw [upd_same, putK_inK], ?_, ?_⟩
      · have := M5.len
        rw [show (kvsOf ms5).length = ms5.length from List.length_map ..]
        exact Nat.lt_of_le_of_lt (show ms5.length ≤ 5000 by omega) (by decide)
      · exact ((M5.ex e6).put (ks2 b hbm) er).off fun z => z.elim (fun z => z.2 hF) fun z => z.2 rfl
      · have z := mixE_succ (f := tgt) (g := f1) hik
        rw [show tgt b.2.1 = (f1 b.2.1).fol (g1 b.2.1) from by show (if (g1 b.2.1).isNo then _ else if (f1 b.2.1).isNo then _ else _) = _; rw [g1n, f1n]; rfl] at z
        rw [hf]
        exact z
  · rintro σ H5 ⟨ms5, f5, ⟨v3, v4, rfl⟩, ex, h5, M5, hf⟩
    have hml := M5.len
    refine ⟨.ref Fa, rfl, Fa, kvsOf ms5, rfl, h5, fun H6 p ts st hp hts hpt h6 prs => items_made M5 (ex.tab _ _ Z.hR tb) Z.hR hN (by omega) st h6 prs fun x H7 e7 M => ?_⟩
    refine kk _ _ (ex.trans e7) ?_
    have et : f5 = tgt := by
      rw [hf, List.length_map, ← List.length_map (as := bs2) (f := fun b : Bs => b.2.1)]
      exact mixE_all fun k hk => by
        show (if (g1 k).isNo then f1 k else _) = _
        rw [no2 k hk]
        rfl
    rw [et] at M
    exact (M.1 rfl).imp fun b hb => hb.elim (fun z => .inr (fresh_back ex z)) fun z => z.imp (fun z => z.1) fun z => z.1
end
end TP

namespace TP
open PySem PySem.Spec PyProof.Rows L2
theorem spInit_mono [TabL] {C Pt : Addr} {G : Gen} {vs : List V} {H : Hp} {Q1 Q2 : VK} {E : XK} (h : spInit C Pt G vs H Q1 E) (m : ∀ v H', Q1 v H' → Q2 v H') : spInit C Pt G vs H Q2 E := by
  obtain ⟨x, dx, ma, kd, av, mv, S, n, d, bs, e, h1, h2, h3, h4, h5, h6, h7, h8, h9, k⟩ := h
  exact ⟨x, dx, ma, kd, av, mv, S, n, d, bs, e, h1, h2, h3, h4, h5, h6, h7, h8, h9, fun H' t av' bs' a b c d e f g => m _ _ (k H' t av' bs' a b c d e f g)⟩
def Ef.kd : Ef → Str
  | .no => ""
  | .keep => "keep"
  | .drop => "drop"
  | .set _ => "set"
  | .merge _ => "merge"
  | .build _ => "build"
theorem Ec.fields {C : Addr} {S : Addr → Prop} {G : Gen} {H : Hp} {n : Nat} {v : V} {e : Ef} (h : Ec C S G H n v e) : ∃ a dx av t, v = .ref a ∧ S a ∧ H a = some (.ins C dx (eflds e.kd av t)) := by
  cases n with
  | zero => exact h.elim
  | succ n =>
    obtain ⟨a, dx, kd, av, t, bs, rfl, sa, ha, _, _, _, _, _, z⟩ := h
    refine ⟨a, dx, av, t, rfl, sa, ?_⟩
    cases e with
    | no => exact z.elim
    | keep => rw [z.1] at ha; exact ha
    | drop => rw [z.1] at ha; exact ha
    | set d => rw [z.1] at ha; exact ha
    | merge f => rw [z.1] at ha; exact ha
    | build f => rw [z.1] at ha; exact ha
theorem kd_drop {e : Ef} : e.kd = "drop" ↔ e.isDrop = true := by
  cases e <;> constructor <;> intro h <;> first | rfl | exact nomatch h | exact absurd h (by decide +kernel)
theorem dropK_inK (ms : List (Str × V)) (k : Str) : dropK (kvsOf ms) (Sum.inr k) = kvsOf (ms.filter fun p => decide (p.1 ≠ k)) := by
  unfold dropK kvsOf
  rw [List.filter_map]
  congr 1
  apply List.filter_congr
  intro p _
  show decide (Sum.inr p.1 ≠ Sum.inr k) = decide (p.1 ≠ k)
  by_cases c : p.1 = k
  · simp [c]
  · have : ¬ ((Sum.inr p.1 : Key) = Sum.inr k) := fun z => c (by injection z)
    simp [c, this]
theorem MemE.drop {C : Addr} {S : Addr → Prop} {G : Gen} {H : Hp} {n : Nat} {ms : List (Str × V)} {f : Str → Ef} (h : MemE C S G H n ms f) (k : Str) : MemE C S G H n (ms.filter fun p => decide (p.1 ≠ k)) (fupE f k .no) := by
  have sub : ∀ {j : Str} {u : V}, valV (ms.filter fun p => decide (p.1 ≠ k)) j = some u → valV ms j = some u ∧ j ≠ k := fun {j u} z => by
    have hm := valV_mem z
    rw [List.mem_filter] at hm
    exact ⟨valV_of_mem h.nd hm.1, of_decide_eq_true hm.2⟩
  refine ⟨h.nd.sublist (List.filter_sublist.map _), fun j hj => ?_, fun j hj => ?_, fun j u hu => ?_⟩
  · obtain ⟨p, hp, e⟩ := List.mem_map.mp hj
    exact h.ks j (List.mem_map.mpr ⟨p, (List.mem_filter.mp hp).1, e⟩)
  · unfold fupE
    by_cases z : j = k
    · rw [if_pos z]
    · rw [if_neg z]
      cases e : valV ms j with
      | none => exact h.no j e
      | some u =>
        have : j ∈ (ms.filter fun p => decide (p.1 ≠ k)).map (·.1) := List.mem_map.mpr ⟨(j, u), List.mem_filter.mpr ⟨valV_mem e, decide_eq_true z⟩, rfl⟩
        obtain ⟨w, hw⟩ := valV_some_of this
        rw [hj] at hw
        cases hw
  · obtain ⟨h1, h2⟩ := sub hu
    unfold fupE
    rw [if_neg h2]
    exact h.at' j u h1
theorem fupE_fupE (f : Str → Ef) (k : Str) (a b : Ef) : fupE (fupE f k a) k b = fupE f k b := by
  funext j
  unfold fupE
  by_cases z : j = k <;> simp [z]
theorem fupE_same {f : Str → Ef} {k : Str} {a : Ef} (h : f k = a) : fupE f k a = f := by
  funext j
  unfold fupE
  by_cases z : j = k
  · rw [if_pos z, z, h]
  · rw [if_neg z]
/-- a drop, a set or a build -/
def Ef.isBase : Ef → Bool
  | .drop => true
  | .set _ => true
  | .build _ => true
  | _ => false
def bfol (e : Ef) (g : Str → Ef) : Str → Ef := fun k => if (g k).isNo then e.mem k else if (Ef.fol (if (e.mem k).isNo then .drop else e.mem k) (g k)).isDrop then .no else Ef.fol (if (e.mem k).isNo then .drop else e.mem k) (g k)
theorem fol_base {e : Ef} (h : e.isBase = true) (g : Str → Ef) : e.fol (.merge g) = .build (bfol e g) := by
  cases e <;> first | rfl | cases h
def spBuilt [TabL] (C Pt : Addr) (G : Gen) (n : Nat) : Sp := fun vs H Q _ => ∃ (S : Addr → Prop) (v1 v2 : V) (e1 : Ef) (g : Str → Ef), vs = [v1, v2] ∧ Ec C S G H (n + 1) v1 e1 ∧ e1.isBase = true ∧ Ec C S G H (n + 1) v2 (.merge g) ∧ LamX.TabS H Pt qLam ∧ ∀ r H', Ex H H' → Ec C (fun b => S b ∨ H b = none) G H' (n + 1) r (e1.fol (.merge g)) → Q r H'
abbrev nBuilt : List Str := ["one", "other", "by_key", "key", "member", "before", "after"]
theorem scBuilt : FnScope nBuilt ["one", "other"] (defScope sBuilt) := ⟨rfl, rfl, rfl, by decide +kernel, rfl, by decide +kernel, by decide +kernel⟩
/-- what stands in the object of e -/
theorem Ec.base {C : Addr} {S : Addr → Prop} {G : Gen} {H : Hp} {n : Nat} {v : V} {e : Ef} (h : Ec C S G H (n + 1) v e) (b : e.isBase = true) : ∃ a dx av t bs, v = .ref a ∧ H a = some (.ins C dx (eflds e.kd av t)) ∧ TpX H t (bs.map fun b => V.ref b.1) ∧ BsAt S H bs ∧ MemE C S G H n (bs.map (·.2)) e.mem := by
  obtain ⟨a, dx, kd, av, t, bs, rfl, sa, ha, _, ht, hb, nd, ks, z⟩ := h
  cases e with
  | drop => obtain ⟨rfl, rfl, _⟩ := z; exact ⟨a, dx, av, t, [], rfl, ha, ht, hb, memE_of nd.1 ks (fun _ _ => rfl) fun b hb => nomatch hb⟩
  | set d => obtain ⟨rfl, rfl, _⟩ := z; exact ⟨a, dx, av, t, [], rfl, ha, ht, hb, memE_of nd.1 ks (fun _ _ => rfl) fun b hb => nomatch hb⟩
  | build f => obtain ⟨rfl, _, no, at'⟩ := z; exact ⟨a, dx, av, t, bs, rfl, ha, ht, hb, memE_of nd.1 ks no at'⟩
  | no => cases b
  | keep => cases b
  | merge f => cases b
section
variable [TabL] {P : Program} {w : World} {K : PySem.W.Frag} {mg : Str → Option Value} {base : Heap}
theorem ok_built {C Pt fI f ff : Addr} {fdI fd fdf : FuncData} {G : Gen} {n k : Nat} (hk : 3 ≤ k) (hG : G.KS.length ≤ 5000) (Z : EFacts K mg base C Pt fI fdI) (gI : FnOk P w K mg base CX0 2 fI fdI ["self", "kind", "atom", "members"] (spInit C Pt G)) (hN : G.C .non = true) (T : Bi mg)
    (Dd : Df K mg "built" sBuilt ["one", "other"] f fd) (Df' : Df K mg "following" sFol ["one", "other"] ff fdf) (gf : FnOk P w K mg base CX0 k ff fdf ["one", "other"] (spFol C Pt G n)) : FnOk P w K mg base CX0 (k + 1) f fd ["one", "other"] (spBuilt C Pt G n) := by
  refine Dd.F.ok scBuilt (fun vs H Q E h => ?_) (fun cdv A outer s H vs Q E hr h => ?_)
  · obtain ⟨_, v1, v2, _, _, rfl, _⟩ := h
    rfl
  obtain ⟨S, v1, v2, e1, g1, rfl, h1, hb1, h2, tb, kk⟩ := h
  have hu := hu_of hr
  have hr3 : Room (2 + 1) _ := hr.mono hk
  refine ⟨_, pss_cons (ps_set (i := 2) scBuilt.nd rfl (Or.inl rfl) (pe_callTy (call_dictT rfl) (by rfl) (T.of "dict") (by decide +kernel) (pa_cons (pe_fld (pv 0) rfl) pa_nil)))
    (pss_cons (ps_for PassesOwn.never rfl (pi_tup (pe_fld (pv 1) rfl)) (pg_tup rfl (pgs_cons (pg_name (i := 3) scBuilt.nd rfl (Or.inl rfl) (Or.inr rfl)) (pgs_cons (pg_name (i := 4) scBuilt.nd rfl (Or.inl rfl) (Or.inr rfl)) pgs_nil)))
      (pss_cons (ps_set (i := 5) scBuilt.nd rfl (Or.inl rfl) (pe_dpop2 (pv 2) (pv 3) (pe_make Z.mkC gI hr3 rfl Z.mgC Z.b .nil pass0 (pa_cons pe_str (pa_cons pe_non (pa_cons (pe_tup pa_nil) pa_nil)))) ⟨rfl, rfl, rfl, rfl⟩))
      (pss_cons (ps_set (i := 6) scBuilt.nd rfl (Or.inl rfl) (pe_call gf hr rfl Df'.m Df'.F.kp Df'.b .nil pass0 (pa_cons (pv 5) (pa_cons (pv 4) pa_nil))))
      (pss_one (ps_if (pt_cmpR op_ne (pe_fld (pv 6) rfl) pe_str (nomark _)) (pss_one (ps_dput hu (pv 2) (pv 3) (pv 6) rfl)) pss_nil)))))
    (pss_one (ps_ret (pe_make Z.mkC gI hr3 rfl Z.mgC Z.b .nil pass0 (pa_cons pe_str (pa_cons pe_non (pa_cons (LiI.pe_listItems rfl (pv 2) (by rfl) (T.of "list") (by decide +kernel)) pa_nil))))))), ?_⟩
  obtain ⟨a1, dx1, av1, t1, bs1, rfl, ha1, ⟨ot1, od1, ht1⟩, hbs1, M1⟩ := h1.base hb1
  obtain ⟨a2, dx2, kd2, av2, t2, bs2, rfl, sa2, ha2, st2, ⟨ot2, od2, ht2⟩, hb2, nd2, ks2, rfl, rfl, no2, at2⟩ := h2
  rw [fol_base hb1] at kk
  refine ⟨.ref a1, rfl, a1, C, dx1, _, _, rfl, ha1, Z.cl, Z.nM, eflds_mem _ _ _, t1, ot1, bs1.map (·.1), kvsOf (bs1.map (·.2)), rfl, (by rw [List.map_map]; exact ht1), od1, pairs_bs hbs1, fun Fa hF => ?_⟩
  rw [show mergeK [] (kvsOf (bs1.map (·.2))) = kvsOf (bs1.map (·.2)) from merge_nodup (bs1.map fun b : Bs => b.2) [] M1.nd]
  have e0 : Ex H (upd H Fa (.dK (kvsOf (bs1.map (·.2))))) := Ex.new hF
  let ks := bs2.map fun b => b.2.1
  refine ⟨.ref a2, rfl, a2, C, dx2, _, _, rfl, e0 _ _ ha2, Z.cl, Z.nM, eflds_mem _ _ _, t2, rfl, ⟨_, .inl (.inr ⟨ot2, e0 _ _ ht2⟩)⟩, ?_⟩
  refine for_tup (K := K) (a := t2) (xs := bs2.map fun b => V.ref b.1) (fun i σ H5 => ∃ ms5 f5, (∃ v3 v4 v5 v6, σ = [some (.ref a1), some (.ref a2), some (.ref Fa), v3, v4, v5, v6]) ∧ Ex H H5 ∧ H5 Fa = some (.dK (kvsOf ms5)) ∧ MemE C (fun b => (S b ∧ H b ≠ none) ∨ (H b = none ∧ b ≠ Fa)) G H5 n ms5 f5 ∧ f5 = mixE ks i (bfol e1 g1) e1.mem) ?_ ?_ ?_ ?_
  · refine ⟨_, _, ⟨_, _, _, _, rfl⟩, e0, upd_same, ?_, mixE_zero.symm⟩
    exact M1.ch fun b o s _ r => ⟨.inl ⟨s, by rw [r]; exact fun z => nomatch z⟩, e0.go _ _ r (by assumption)⟩
  · exact fun i σ H5 _ ⟨_, _, _, ex, _⟩ => .inl (.inr ⟨ot2, ex _ _ ht2⟩)
  · rintro i y σ H5 hi ⟨ms5, f5, ⟨v3, v4, v5, v6, rfl⟩, ex, h5, M5, hf⟩
    obtain ⟨b, hi', rfl⟩ : ∃ b, bs2[i]? = some b ∧ y = .ref b.1 := by
      rw [List.getElem?_map] at hi
      obtain ⟨b, h1, h2⟩ := Option.map_eq_some_iff.mp hi
      exact ⟨b, h1, h2.symm⟩
    have hbm := List.mem_of_getElem? hi'
    have hik : ks[i]? = some b.2.1 := by
      show (bs2.map fun b => b.2.1)[i]? = _
      rw [List.getElem?_map, hi']
      rfl
    have fk : f5 b.2.1 = e1.mem b.2.1 := by rw [hf]; exact mixE_new nd2.1 hik
    have l5 : Rd H5 Fa (.dK (kvsOf ms5)) := .inl h5
    have tb5 := ex.tab _ _ Z.hR tb
    refine ⟨b.1, _, rfl, .inl (.inl (ex _ _ (hb2 b hbm).2)), rfl, _, _, rfl, _, _, rfl, rfl, ?_⟩
    refine ⟨.ref Fa, rfl, Fa, rfl, .inl ⟨_, l5⟩, .str b.2.1, rfl, (by show 0 ≤ sizeLine; decide), fun p hp => ?_⟩
    intro x dx nx ndx ne
    refine spInit_mono (made (Q := fun z H3 => ∃ x, z = .ref x ∧ Made C G (upd H5 p (.tup [])) H3 "drop" (.sc .non) [] x) (S := fun _ => False) (n := 0) (d := .sc .non) (bs := []) (Dc.sc hN) rfl rfl (.inr upd_same) (fun b hb => nomatch hb) (Nat.zero_le _) ((Ex.new hp).tab _ _ Z.hR tb5) Z.hR (fun x H6 M => ⟨x, rfl, M⟩) x dx nx ndx ne) ?_
    rintro _ H6 ⟨rfl, x', hx', Md⟩
    cases hx'
    refine ⟨rfl, ?_⟩
    have e56 : Ex H5 H6 := (Ex.new hp).trans Md.ex
    have h6 := e56 Fa _ h5
    have ex6 := ex.trans e56
    have M6 := M5.ex e56
    have key : ∀ (H7 : Hp) (v : V) (ms7 : List (Str × V)) (eb : Ef), Ex H H7 → H7 Fa = some (.dK (kvsOf ms7)) → MemE C (fun b => (S b ∧ H b ≠ none) ∨ (H b = none ∧ b ≠ Fa)) G H7 n ms7 (fupE f5 b.2.1 .no) → Ec C (fun b => (S b ∧ H b ≠ none) ∨ (H b = none ∧ b ≠ Fa)) G H7 n v eb → eb = (if (e1.mem b.2.1).isNo then .drop else e1.mem b.2.1) →
        ∀ (r : V) (H8 : Hp), Ex H7 H8 → Ec C (fun c => ((S c ∧ H c ≠ none) ∨ (H c = none ∧ c ≠ Fa)) ∨ H7 c = none) G H8 n r (eb.fol (g1 b.2.1)) →
        ∃ a dx av t, r = .ref a ∧ H8 a = some (.ins C dx (eflds (eb.fol (g1 b.2.1)).kd av t)) ∧ Ex H H8 ∧ H8 Fa = some (.dK (kvsOf ms7)) ∧ (kvsOf ms7).length < sizeLine ∧
          ((eb.fol (g1 b.2.1)).isDrop = true → MemE C (fun b => (S b ∧ H b ≠ none) ∨ (H b = none ∧ b ≠ Fa)) G H8 n ms7 (fupE f5 b.2.1 .no) ∧ fupE f5 b.2.1 .no = mixE ks (i + 1) (bfol e1 g1) e1.mem) ∧
          ((eb.fol (g1 b.2.1)).isDrop = false → ∃ f8, MemE C (fun b => (S b ∧ H b ≠ none) ∨ (H b = none ∧ b ≠ Fa)) G (upd H8 Fa (.dK (kvsOf (putK ms7 b.2.1 r)))) n (putK ms7 b.2.1 r) f8 ∧ f8 = mixE ks (i + 1) (bfol e1 g1) e1.mem) := by
      intro H7 v ms7 eb ex7 h7 M7 ev he r H8 e8 hr8
      have er : Ec C (fun b => (S b ∧ H b ≠ none) ∨ (H b = none ∧ b ≠ Fa)) G H8 n r (eb.fol (g1 b.2.1)) := hr8.imp fun c hc => hc.elim id fun hc => .inr ⟨fresh_back ex7 hc, (ne_of_none h7 hc).symm⟩
      obtain ⟨a, dx, av, t, rfl, _, ha⟩ := er.fields
      have g1n : (g1 b.2.1).isNo = false := (at2 b hbm).not_no
      have z := mixE_succ (f := bfol e1 g1) (g := e1.mem) hik
      have hb' : bfol e1 g1 b.2.1 = if (eb.fol (g1 b.2.1)).isDrop then .no else eb.fol (g1 b.2.1) := by
        unfold bfol
        rw [g1n, he]
        rfl
      rw [← hf, hb'] at z
      have h8 := e8 Fa _ h7
      refine ⟨a, dx, av, t, rfl, ha, ex7.trans e8, h8, ?_, fun d => ?_, fun d => ?_⟩
      · have := M7.len
        rw [show (kvsOf ms7).length = ms7.length from List.length_map ..]
        exact Nat.lt_of_le_of_lt (show ms7.length ≤ 5000 by omega) (by decide)
      · rw [d] at z
        exact ⟨M7.ex e8, z⟩
      · rw [d] at z
        refine ⟨_, ((M7.ex e8).put (ks2 b hbm) er).off fun z => z.elim (fun z => z.2 hF) fun z => z.2 rfl, ?_⟩
        rw [fupE_fupE]
        exact z
    have tail : ∀ (H7 : Hp) (v : V) (ms7 : List (Str × V)) (eb : Ef), Ex H H7 → H7 Fa = some (.dK (kvsOf ms7)) → MemE C (fun b => (S b ∧ H b ≠ none) ∨ (H b = none ∧ b ≠ Fa)) G H7 n ms7 (fupE f5 b.2.1 .no) → Ec C (fun b => (S b ∧ H b ≠ none) ∨ (H b = none ∧ b ≠ Fa)) G H7 n v eb → eb = (if (e1.mem b.2.1).isNo then .drop else e1.mem b.2.1) → Ec C (fun b => (S b ∧ H b ≠ none) ∨ (H b = none ∧ b ≠ Fa)) G H7 n b.2.2 (g1 b.2.1) := fun H7 v ms7 eb ex7 _ _ _ _ => (at2 b hbm).ch (fun c o s z r => ⟨.inl ⟨s, by rw [r]; exact fun z => nomatch z⟩, ex7.go _ _ r z⟩) (Nat.le_refl _)
    refine ⟨kvsOf ms5, Sum.inr b.2.1, h6, rfl, fun v hv => ?_, fun hv => ?_⟩
    · rw [valV_inK] at hv
      rw [dropK_inK]
      have ec := M6.at' _ _ hv
      rw [fk] at ec
      have nF : ¬ ((S Fa ∧ H Fa ≠ none) ∨ (H Fa = none ∧ Fa ≠ Fa)) := fun z => z.elim (fun z => z.2 hF) fun z => z.2 rfl
      have ex7 : Ex H (upd H6 Fa (.dK (kvsOf (ms5.filter fun p => decide (p.1 ≠ b.2.1))))) := ex6.mut hF h6
      have he : e1.mem b.2.1 = (if (e1.mem b.2.1).isNo then .drop else e1.mem b.2.1) := by rw [ec.not_no]; rfl
      have M7 := ((M6.drop b.2.1).off (o := .dK (kvsOf (ms5.filter fun p => decide (p.1 ≠ b.2.1)))) nF)
      have ev := ec.off (o := .dK (kvsOf (ms5.filter fun p => decide (p.1 ≠ b.2.1)))) nF
      refine ⟨v, rfl, b.2.2, rfl, _, v, b.2.2, e1.mem b.2.1, g1 b.2.1, rfl, ev, tail _ v _ _ ex7 upd_same M7 ev he, ex7.tab _ _ Z.hR tb, fun r H8 e8 hr8 => ?_⟩
      obtain ⟨a, dx, av, t, rfl, ha, ex8, h8, hl8, k1, k2⟩ := key _ v _ _ ex7 upd_same M7 ev he r H8 e8 hr8
      refine ⟨_, rfl, a, C, dx, _, _, rfl, ha, Z.cl, Z.nK, eflds_kind _ _ _, rfl, _, rfl, ?_⟩
      by_cases c : ((e1.mem b.2.1).fol (g1 b.2.1)).isDrop = true
      · refine ifF (by simp [kd_drop.mpr c]) ⟨_, _, ⟨_, _, _, _, rfl⟩, ex8, h8, (k1 c).1, (k1 c).2⟩
      · have c' : ((e1.mem b.2.1).fol (g1 b.2.1)).isDrop = false := by simpa using c
        have nk : ¬ ((e1.mem b.2.1).fol (g1 b.2.1)).kd = "drop" := fun z => c (kd_drop.mp z)
        obtain ⟨f8, M8, ef8⟩ := k2 c'
        refine ifT (by simp [nk]) ⟨_, rfl, .ref Fa, rfl, .str b.2.1, rfl, Fa, _, rfl, DPut.k (k := Sum.inr b.2.1) h8 hl8, _, f8, ⟨_, _, _, _, rfl⟩, ex8.mut hF h8, by rw [upd_same, putK_inK], ?_, ef8⟩
        rw [putK_inK]
        exact M8
    · rw [valV_inK] at hv
      have fn := M6.no _ hv
      rw [fk] at fn
      have he : Ef.drop = (if (e1.mem b.2.1).isNo then .drop else e1.mem b.2.1) := by rw [fn]; rfl
      have M7 : MemE C (fun b => (S b ∧ H b ≠ none) ∨ (H b = none ∧ b ≠ Fa)) G H6 n ms5 (fupE f5 b.2.1 .no) := by
        rw [fupE_same (by rw [fk, fn])]
        exact M6
      have n1 : ∃ m, n = m + 1 := by
        cases n with
        | zero => exact (show False from at2 b hbm).elim
        | succ m => exact ⟨m, rfl⟩
      obtain ⟨m, rfl⟩ := n1
      have ev : Ec C (fun b => (S b ∧ H b ≠ none) ∨ (H b = none ∧ b ≠ Fa)) G H6 (m + 1) (.ref x) .drop := (Md.drop m).imp fun c hc => .inr ⟨fresh_back ex (fresh_back (Ex.new hp) hc), (ne_of_none (Ex.new hp Fa _ h5) hc).symm⟩
      refine ⟨.ref x, rfl, b.2.2, rfl, _, .ref x, b.2.2, .drop, g1 b.2.1, rfl, ev, tail _ (.ref x) _ _ ex6 h6 M7 ev he, ex6.tab _ _ Z.hR tb, fun r H8 e8 hr8 => ?_⟩
      obtain ⟨a, dx, av, t, rfl, ha, ex8, h8, hl8, k1, k2⟩ := key _ (.ref x) _ _ ex6 h6 M7 ev he r H8 e8 hr8
      refine ⟨_, rfl, a, C, dx, _, _, rfl, ha, Z.cl, Z.nK, eflds_kind _ _ _, rfl, _, rfl, ?_⟩
      by_cases c : ((Ef.drop).fol (g1 b.2.1)).isDrop = true
      · refine ifF (by simp [kd_drop.mpr c]) ⟨_, _, ⟨_, _, _, _, rfl⟩, ex8, h8, (k1 c).1, (k1 c).2⟩
      · have c' : ((Ef.drop).fol (g1 b.2.1)).isDrop = false := by simpa using c
        have nk : ¬ ((Ef.drop).fol (g1 b.2.1)).kd = "drop" := fun z => c (kd_drop.mp z)
        obtain ⟨f8, M8, ef8⟩ := k2 c'
        refine ifT (by simp [nk]) ⟨_, rfl, .ref Fa, rfl, .str b.2.1, rfl, Fa, _, rfl, DPut.k (k := Sum.inr b.2.1) h8 hl8, _, f8, ⟨_, _, _, _, rfl⟩, ex8.mut hF h8, by rw [upd_same, putK_inK], ?_, ef8⟩
        rw [putK_inK]
        exact M8
  · rintro σ H5 ⟨ms5, f5, ⟨v3, v4, v5, v6, rfl⟩, ex, h5, M5, hf⟩
    have hml := M5.len
    refine ⟨.ref Fa, rfl, Fa, kvsOf ms5, rfl, h5, fun H6 p ts st hp hts hpt h6 prs => items_made M5 (ex.tab _ _ Z.hR tb) Z.hR hN (by omega) st h6 prs fun x H7 e7 M => ?_⟩
    refine kk _ _ (ex.trans e7) ?_
    have et : f5 = bfol e1 g1 := by
      rw [hf, List.length_map, ← List.length_map (as := bs2) (f := fun b : Bs => b.2.1)]
      exact mixE_all fun k hk => by
        unfold bfol
        rw [no2 k hk]
        rfl
    rw [et] at M
    exact (M.2 rfl).imp fun b hb => hb.elim (fun z => .inr (fresh_back ex z)) fun z => z.imp (fun z => z.1) fun z => z.1
end
end TP

namespace TP
open PySem PySem.Spec PyProof.Rows L2
theorem kd_keep {e : Ef} : V.str e.kd = V.str "keep" ↔ e = .keep := by
  cases e <;> constructor <;> intro h <;> first | rfl | exact nomatch h | (injection h with h; exact absurd h (by decide +kernel))
theorem kd_merge {e : Ef} : V.str e.kd = V.str "merge" ↔ ∃ f, e = .merge f := by
  cases e with
  | merge f => exact ⟨fun _ => ⟨f, rfl⟩, fun _ => rfl⟩
  | no => exact ⟨fun h => by injection h with h; exact absurd h (by decide +kernel), fun ⟨f, h⟩ => nomatch h⟩
  | keep => exact ⟨fun h => by injection h with h; exact absurd h (by decide +kernel), fun ⟨f, h⟩ => nomatch h⟩
  | drop => exact ⟨fun h => by injection h with h; exact absurd h (by decide +kernel), fun ⟨f, h⟩ => nomatch h⟩
  | set a => exact ⟨fun h => by injection h with h; exact absurd (show ("set" : Str) = "merge" from h) (by decide +kernel), fun ⟨f, h⟩ => nomatch h⟩
  | build f => exact ⟨fun h => by injection h with h; exact absurd (show ("build" : Str) = "merge" from h) (by decide +kernel), fun ⟨f, h⟩ => nomatch h⟩
theorem fol_keep (e : Ef) : e.fol .keep = e := by cases e <;> rfl
theorem keep_fol (e : Ef) : Ef.keep.fol e = e := by cases e <;> rfl
theorem fol_other {e m : Ef} (h1 : m ≠ .keep) (h2 : ¬ ∃ f, m = .merge f) : e.fol m = m := by
  cases m with
  | keep => exact absurd rfl h1
  | merge f => exact absurd ⟨f, rfl⟩ h2
  | no => cases e <;> rfl
  | drop => cases e <;> rfl
  | set a => cases e <;> rfl
  | build f => cases e <;> rfl
theorem scFol : FnScope ["one", "other"] ["one", "other"] (defScope sFol) := ⟨rfl, rfl, rfl, by decide +kernel, rfl, by decide +kernel, by decide +kernel⟩
section
variable [TabL] {P : Program} {w : World} {K : PySem.W.Frag} {mg : Str → Option Value} {base : Heap}
theorem ok_fol' {C Pt fI f fm fb : Addr} {fdI fd fdm fdb : FuncData} {G : Gen} (hG : G.KS.length ≤ 5000) (Z : EFacts K mg base C Pt fI fdI) (gI : FnOk P w K mg base CX0 2 fI fdI ["self", "kind", "atom", "members"] (spInit C Pt G)) (hN : G.C .non = true) (T : Bi mg)
    (Dd : Df K mg "following" sFol ["one", "other"] f fd) (Dm : Df K mg "merged" sMerged ["one", "other"] fm fdm) (Db : Df K mg "built" sBuilt ["one", "other"] fb fdb) : ∀ n, FnOk P w K mg base CX0 (2 * n + 4) f fd ["one", "other"] (spFol C Pt G n)
  | 0 => fn_zero fun vs H Q E ⟨_, _, _, _, _, _, h, _⟩ => h
  | n + 1 => by
    have ih := ok_fol' hG Z gI hN T Dd Dm Db n
    have gm : FnOk P w K mg base CX0 (2 * n + 5) fm fdm ["one", "other"] (spMerged C Pt G n) := ok_merged (by omega) hG Z gI hN T Dm Dd ih
    have gb : FnOk P w K mg base CX0 (2 * n + 5) fb fdb ["one", "other"] (spBuilt C Pt G n) := ok_built (by omega) hG Z gI hN T Db Dd ih
    show FnOk P w K mg base CX0 ((2 * n + 5) + 1) f fd ["one", "other"] (spFol C Pt G (n + 1))
    refine Dd.F.ok scFol (fun vs H Q E h => ?_) (fun cdv A outer s H vs Q E hr h => ?_)
    · obtain ⟨_, v1, v2, _, _, rfl, _⟩ := h
      rfl
    obtain ⟨S, v1, v2, e1, e2, rfl, h1, h2, tb, k⟩ := h
    refine ⟨_, pss_cons (ps_if (pt_cmpR op_eq (pe_fld (pv 1) rfl) pe_str (nomark _)) (pss_one (ps_ret (pv 0))) pss_nil)
      (pss_cons (ps_if (PW.pt (pw_or (pt_cmpR op_eq (pe_fld (pv 0) rfl) pe_str (nomark _)) (pw_or1 (pt_cmpR op_ne (pe_fld (pv 1) rfl) pe_str (nomark _))))) (pss_one (ps_ret (pv 1))) pss_nil)
      (pss_cons (ps_if (pt_cmpR op_eq (pe_fld (pv 0) rfl) pe_str (nomark _)) (pss_one (ps_ret (pe_call gm hr rfl Dm.m Dm.F.kp Dm.b .nil pass0 (pa_cons (pv 0) (pa_cons (pv 1) pa_nil))))) pss_nil)
      (pss_one (ps_ret (pe_call gb hr rfl Db.m Db.F.kp Db.b .nil pass0 (pa_cons (pv 0) (pa_cons (pv 1) pa_nil))))))), ?_⟩
    obtain ⟨a1, dx1, av1, t1, rfl, s1, ha1⟩ := h1.fields
    obtain ⟨a2, dx2, av2, t2, rfl, s2, ha2⟩ := h2.fields
    have old : ∀ b, S b → S b ∨ H b = none := fun b z => .inl z
    refine ⟨.ref a2, rfl, a2, C, dx2, _, _, rfl, ha2, Z.cl, Z.nK, eflds_kind _ _ _, rfl, _, rfl, ?_⟩
    refine ite2 (fun c => ?_) fun c => ?_
    · have := kd_keep.mp (by simpa using c)
      subst this
      exact ⟨_, rfl, k _ H (Ex.refl H) (by rw [fol_keep]; exact h1.imp old)⟩
    have nk : e2 ≠ .keep := fun z => c (by simpa using kd_keep.mpr z)
    have other : e1.fol e2 = e2 → Q (.ref a2) H := fun z => k _ H (Ex.refl H) (by rw [z]; exact h2.imp old)
    refine ⟨.ref a1, rfl, a1, C, dx1, _, _, rfl, ha1, Z.cl, Z.nK, eflds_kind _ _ _, rfl, _, rfl, ?_⟩
    refine ite2 (fun c => ?_) fun c => ?_
    · have := kd_keep.mp (by simpa using c)
      subst this
      exact iteT ⟨_, rfl, other (keep_fol _)⟩
    have nk1 : e1 ≠ .keep := fun z => c (by simpa using kd_keep.mpr z)
    refine ⟨.ref a2, rfl, a2, C, dx2, _, _, rfl, ha2, Z.cl, Z.nK, eflds_kind _ _ _, rfl, _, rfl, ?_⟩
    refine ite2 (fun c => ?_) fun c => ?_
    · exact ⟨_, rfl, other (fol_other nk fun z => by simp [kd_merge.mpr z] at c)⟩
    obtain ⟨g, rfl⟩ := kd_merge.mp (by simpa using c)
    refine ⟨.ref a1, rfl, a1, C, dx1, _, _, rfl, ha1, Z.cl, Z.nK, eflds_kind _ _ _, rfl, _, rfl, ?_⟩
    refine ite2 (fun c => ?_) fun c => ?_
    · obtain ⟨f1, rfl⟩ := kd_merge.mp (by simpa using c)
      exact ⟨_, rfl, _, rfl, S, _, _, f1, g, rfl, h1, h2, tb, fun r H' e h => k r H' e h⟩
    · have b1 : e1.isBase = true := by
        have nn := h1.not_no
        cases e1 with
        | no => cases nn
        | keep => exact absurd rfl nk1
        | merge f => exact absurd (by simpa using kd_merge.mpr ⟨f, rfl⟩) c
        | drop => rfl
        | set a => rfl
        | build f => rfl
      exact ⟨_, rfl, _, rfl, S, _, _, e1, g, rfl, h1, b1, h2, tb, fun r H' e h => k r H' e h⟩
end
end TP

namespace TP
open PySem PySem.Spec PyProof.Rows L2
abbrev sAdd : Stmt := inClass (topS 17) 2
theorem scAdd : FnScope ["self", "other"] ["self", "other"] (defScope sAdd) := ⟨rfl, rfl, rfl, by decide +kernel, rfl, by decide +kernel, by decide +kernel⟩
section
variable [TabL] {P : Program} {w : World} {K : PySem.W.Frag} {mg : Str → Option Value} {base : Heap}
theorem ok_add {C Pt f ff : Addr} {fd fdf : FuncData} {G : Gen} {n k : Nat} (F : Fun K "__add__" "Effect.__add__" sAdd f fd) (Df' : Df K mg "following" sFol ["one", "other"] ff fdf) (gf : FnOk P w K mg base CX0 k ff fdf ["one", "other"] (spFol C Pt G n)) : FnOk P w K mg base CX0 (k + 1) f fd ["self", "other"] (spFol C Pt G n) := by
  refine F.ok scAdd (fun vs H Q E h => ?_) (fun cdv A outer s H vs Q E hr h => ?_)
  · obtain ⟨_, v1, v2, _, _, rfl, _⟩ := h
    rfl
  obtain ⟨S, v1, v2, e1, e2, rfl, h1, h2, tb, k⟩ := h
  refine ⟨_, pss_one (ps_ret (pe_call gf hr rfl Df'.m Df'.F.kp Df'.b .nil pass0 (pa_cons (pv 0) (pa_cons (pv 1) pa_nil)))), ?_⟩
  exact ⟨_, rfl, _, rfl, S, v1, v2, e1, e2, rfl, h1, h2, tb, k⟩
end
end TP

namespace TP
open PySem PySem.Spec PyProof.Rows L2
abbrev sCheckRow : Stmt := topS 9
/-- a row: its patches, each with a bound of its parts -/
structure RowAt (S : Addr → Prop) (G : Gen) (H : Hp) (n : Nat) (a : Addr) (rs : List (V × D × Nat)) : Prop where
  sq : H a = some (.lst (rs.map (·.1))) ∨ H a = some (.tup (rs.map (·.1)))
  dc : ∀ r ∈ rs, Dc S G H n r.1 r.2.1 ∧ PD r.2.1 r.2.2 ∧ PD r.2.1 200 ∧ DD r.2.1 8
  sum : (rs.map (·.2.2)).sum ≤ 200
  len : rs.length ≤ 5000
theorem RowAt.ex [TabL] {S G H H' n a rs} (h : RowAt S G H n a rs) (e : Ex H H') : RowAt S G H' n a rs := ⟨h.sq.imp (fun z => e _ _ z) fun z => e _ _ z, fun r hr => ⟨(h.dc r hr).1.ex e, (h.dc r hr).2⟩, h.sum, h.len⟩
def spRow [TabL] (G : Gen) (n : Nat) : Sp := fun vs H Q _ => ∃ (S : Addr → Prop) (a : Addr) (rs : List (V × D × Nat)), vs = [.ref a] ∧ RowAt S G H n a rs ∧ ∀ H', Ex H H' → Q .non H'
theorem scRow : FnScope ["row", "patch"] ["row"] (defScope sCheckRow) := ⟨rfl, rfl, rfl, by decide +kernel, rfl, by decide +kernel, by decide +kernel⟩
section
variable [TabL] {P : Program} {w : World} {K : PySem.W.Frag} {mg : Str → Option Value} {base : Heap}
variable {aCheck aWrong aAtom aElem aDepth aParts aCopied : Addr} {fCheck fWrong fAtom fElem fDepth fParts fCopied : FuncData}
theorem ok_row (R : Prog K mg aCheck aWrong aAtom aElem aDepth aParts aCopied fCheck fWrong fAtom fElem fDepth fParts fCopied) (T : Bi mg) {G : Gen} (hL : G.L ≤ 5000) (hG : G.KS.length < 64) (n : Nat) {f : Addr} {fd : FuncData} (Dd : Df K mg "check_row" sCheckRow ["row"] f fd) : FnOk P w K mg base CX0 (n + 4) f fd ["row"] (spRow G n) := by
  have gc : FnOk P w K mg base CX0 (n + 3) aCheck fCheck ["value"] (spCheck G n) := ok_check R T hL hG n
  have gp : FnOk P w K mg base CX0 (n + 3) aParts fParts ["document"] (spParts G n) := (ok_parts R.parts T (by omega) n).mono (by omega)
  obtain ⟨t2, mp⟩ := R.mp
  refine Dd.F.ok scRow (fun vs H Q E h => ?_) (fun cdv A outer s H vs Q E hr h => ?_)
  · obtain ⟨_, a, rs, rfl, _⟩ := h
    rfl
  obtain ⟨S, a, rs, rfl, hrow, k⟩ := h
  have hu := hu_of hr
  refine ⟨_, pss_cons (ps_for PassesOwn.never rfl (pi_seq (pv 0)) (pg_name (i := 1) scRow.nd rfl (Or.inl rfl)) (pss_one (ps_expr (pe_call gc hr rfl R.check.m R.check.F.kp R.check.b .nil pass0 (pa_cons (pv 1) pa_nil)))))
    (pss_one (ps_if (pt_cmpR op_gt (pe_callB (cr_sum rfl) (by rfl) (T.of "sum") (by decide +kernel) (pa_cons (pe_lc (own := [("patch", 1)]) (g := gName 1) (tt := tYes) rfl scRow.nd (pi_seq (pv 0)) (blkOk_by (N := ["row", "patch"]) (sc := defScope sCheckRow) (by decide +kernel))
      (fun _ _ _ _ _ => pg_name (i := 1) scRow.nd rfl (Or.inl rfl)) (fun _ _ _ _ _ => pts_nil) (fun _ _ _ _ _ => pe_call gp hr rfl R.parts.m R.parts.F.kp R.parts.b .nil pass0 (pa_cons (pv 1) pa_nil))) pa_nil)) (pe_glob (v := .int 200) rfl mp ⟨t2, rfl⟩) (nomark _)) (pss_one ps_never) pss_nil)), ?_⟩
  have fin : ∀ (H1 : Hp), Ex H H1 → ∀ ns : List Int, 0 ≤ ns.sum → ns.sum ≤ ((rs.map (·.2.2)).sum : Nat) → ¬ (200 : Int) < ns.sum := fun H1 e ns h0 h1 => by
    have := hrow.sum
    omega
  have get : ∀ (i : Nat) (y : V), (rs.map (·.1))[i]? = some y → ∃ r, rs[i]? = some r ∧ y = r.1 := fun i y hi => by
    rw [List.getElem?_map] at hi
    obtain ⟨r, h1, h2⟩ := Option.map_eq_some_iff.mp hi
    exact ⟨r, h1, h2.symm⟩
  have stepN : ∀ (i : Nat) (r : V × D × Nat) (ns : List Int) (j : Int), rs[i]? = some r → 0 ≤ ns.sum → ns.sum ≤ (((rs.take i).map (·.2.2)).sum : Nat) → 1 ≤ j → j ≤ r.2.2 → 0 ≤ (ns ++ [j]).sum ∧ (ns ++ [j]).sum ≤ (((rs.take (i + 1)).map (·.2.2)).sum : Nat) := fun i r ns j hi h0 h1 j0 j1 => by
    rw [List.sum_append, List.take_add_one, hi]
    simp
    simp at h1
    omega
  have hlen : ∀ (i : Nat) (r : V × D × Nat) (ns : List Int), rs[i]? = some r → ns.length = i → (ns.map V.int).length < sizeLine := fun i r ns hi hl => by
    have := (List.getElem?_eq_some_iff.mp hi).1
    have := hrow.len
    rw [List.length_map, hl]
    exact Nat.lt_of_le_of_lt (show i ≤ 5000 by omega) (by decide)
  rcases hrow.sq with sq | sq
  all_goals
    first
      | refine .inl ⟨.ref a, rfl, a, rfl, ⟨_, .inl (.inl sq)⟩, for_list (K := K) (a := a) (xs := rs.map (·.1)) (fun i σ H1 => (∃ x, σ = [some (.ref a), x]) ∧ Ex H H1) ⟨⟨_, rfl⟩, Ex.refl H⟩ (fun i σ H1 _ q => .inl (.inl (q.2 _ _ sq))) (fun i y σ H1 hi q => ?_) fun σ H1 q => ?_⟩
      | refine .inr ⟨.ref a, rfl, a, rfl, ⟨_, .inl (.inl sq)⟩, for_tup (K := K) (a := a) (xs := rs.map (·.1)) (fun i σ H1 => (∃ x, σ = [some (.ref a), x]) ∧ Ex H H1) ⟨⟨_, rfl⟩, Ex.refl H⟩ (fun i σ H1 _ q => .inl (.inl (q.2 _ _ sq))) (fun i y σ H1 hi q => ?_) fun σ H1 q => ?_⟩
    · obtain ⟨⟨x, rfl⟩, e1⟩ := q
      obtain ⟨r, hr', rfl⟩ := get i y hi
      obtain ⟨d1, d2, d3, d4⟩ := hrow.dc r (List.mem_of_getElem? hr')
      exact ⟨_, rfl, S, r.1, r.2.1, rfl, d1.ex e1, d3, d4, fun H2 e2 => ⟨⟨_, rfl⟩, e1.trans e2⟩⟩
    · obtain ⟨⟨x, rfl⟩, e1⟩ := q
      first
        | refine .inl ⟨.ref a, rfl, a, rfl, ⟨_, .inl (.inl (e1 _ _ sq))⟩, fun Da hD => lc_list (K := K) (a := a) (xs := rs.map (·.1)) (fun i H2 => Ex H1 H2 ∧ ∃ ns : List Int, H2 Da = some (.lst (ns.map V.int)) ∧ ns.length = i ∧ 0 ≤ ns.sum ∧ ns.sum ≤ (((rs.take i).map (·.2.2)).sum : Nat)) ⟨Ex.new hD, [], upd_same, rfl, by simp, by simp⟩ (fun i H2 _ q => .inl (.inl (q.1 _ _ (e1 _ _ sq)))) (fun i y H2 hi q => ?_) fun H2 q => ?_⟩
        | refine .inr ⟨.ref a, rfl, a, rfl, ⟨_, .inl (.inl (e1 _ _ sq))⟩, fun Da hD => lc_tup (K := K) (a := a) (xs := rs.map (·.1)) (fun i H2 => Ex H1 H2 ∧ ∃ ns : List Int, H2 Da = some (.lst (ns.map V.int)) ∧ ns.length = i ∧ 0 ≤ ns.sum ∧ ns.sum ≤ (((rs.take i).map (·.2.2)).sum : Nat)) ⟨Ex.new hD, [], upd_same, rfl, by simp, by simp⟩ (fun i H2 _ q => .inl (.inl (q.1 _ _ (e1 _ _ sq)))) (fun i y H2 hi q => ?_) fun H2 q => ?_⟩
      · obtain ⟨e2, ns, h2, hl, hb0, hb1⟩ := q
        obtain ⟨r, hr', rfl⟩ := get i y hi
        obtain ⟨d1, d2, d3, d4⟩ := hrow.dc r (List.mem_of_getElem? hr')
        refine ⟨rfl, t_yes ?_⟩
        refine ⟨_, rfl, S, r.1, r.2.1, r.2.2, rfl, (d1.ex e1).ex e2, d2, fun j H5 e5 j0 j1 => ?_⟩
        refine ⟨_, e5 Da _ h2, hlen i r ns hr' hl, Ex.mut (e2.trans e5) hD (e5 Da _ h2), ns ++ [j], ?_, ?_, (stepN i r ns j hr' hb0 hb1 j0 j1).1, (stepN i r ns j hr' hb0 hb1 j0 j1).2⟩
        · rw [upd_same, List.map_append]; rfl
        · rw [List.length_append, hl]; rfl
      · obtain ⟨e2, ns, h2, hl, hb0, hb1⟩ := q
        rw [List.length_map, List.take_length] at hb1
        refine ⟨Da, ns, rfl, .inl (.inl h2), _, _, rfl, rfl, _, rfl, ifF (decide_eq_false (fin H2 (e1.trans e2) ns hb0 hb1)) (k H2 (e1.trans e2))⟩
end
end TP

namespace TP
open PySem PySem.Spec PyProof.Rows L2
abbrev sEffect : Stmt := topS 18
abbrev sRowEffect : Stmt := topS 19
/-- what a row does, unchecked: its patches are documents -/
def spREff [TabL] (C Pt : Addr) (G : Gen) (n : Nat) : Sp := fun vs H Q _ => ∃ (S : Addr → Prop) (a : Addr) (rs : List (V × D)), vs = [.ref a] ∧ (H a = some (.lst (rs.map (·.1))) ∨ H a = some (.tup (rs.map (·.1)))) ∧ (∀ r ∈ rs, Dc S G H (n + 1) r.1 r.2) ∧ LamX.TabS H Pt qLam ∧ ∀ r H', Ex H H' → Ec C (Nw H) G H' (n + 1) r (rowE (rs.map (·.2))) → Q r H'
def spEff [TabL] (C Pt : Addr) (G : Gen) (n : Nat) : Sp := fun vs H Q _ => ∃ (S : Addr → Prop) (a : Addr) (rs : List (V × D × Nat)), vs = [.ref a] ∧ RowAt S G H (n + 1) a rs ∧ LamX.TabS H Pt qLam ∧ ∀ r H', Ex H H' → Ec C (Nw H) G H' (n + 1) r (rowE (rs.map (·.2.1))) → Q r H'
abbrev nREff : List Str := ["row", "total", "patch"]
theorem scREff : FnScope nREff ["row"] (defScope sRowEffect) := ⟨rfl, rfl, rfl, by decide +kernel, rfl, by decide +kernel, by decide +kernel⟩
theorem scEff : FnScope ["row"] ["row"] (defScope sEffect) := ⟨rfl, rfl, rfl, by decide +kernel, rfl, by decide +kernel, by decide +kernel⟩
section
variable [TabL] {P : Program} {w : World} {K : PySem.W.Frag} {mg : Str → Option Value} {base : Heap}
theorem ok_reff {C Pt fI f fp fa : Addr} {fdI fd fdp fda : FuncData} {G : Gen} {n k : Nat} (hk : 3 ≤ k) (Z : EFacts K mg base C Pt fI fdI) (gI : FnOk P w K mg base CX0 2 fI fdI ["self", "kind", "atom", "members"] (spInit C Pt G)) (hN : G.C .non = true) (T : Bi mg)
    (Dd : Df K mg "row_effect" sRowEffect ["row"] f fd)
    (Dp : Df K mg "patch_effect" sPE ["patch"] fp fdp) (gp : FnOk P w K mg base CX0 k fp fdp ["patch"] (spPE C Pt G (n + 1)))
    (ga : FnOk P w K mg base CX0 k fa fda ["self", "other"] (spFol C Pt G (n + 1))) (ba : Binds K fda ["self", "other"] []) (sf : PySem.W.selfFirst K C = true) (hf : PySem.W.findIn K (.ref C) (PySem.dunder "add") = some (some (.ref fa))) (fn : PySem.W.isFn K (.ref fa) = true) :
    FnOk P w K mg base CX0 (k + 1) f fd ["row"] (spREff C Pt G n) := by
  refine Dd.F.ok scREff (fun vs H Q E h => ?_) (fun cdv A outer s H vs Q E hr h => ?_)
  · obtain ⟨_, a, rs, rfl, _⟩ := h
    rfl
  obtain ⟨S, a, rs, rfl, hsq, hrow, tb, kq⟩ := h
  have hr3 : Room (2 + 1) _ := hr.mono hk
  refine ⟨_, pss_cons (ps_set (i := 1) scREff.nd rfl (Or.inl rfl) (pe_make Z.mkC gI hr3 rfl Z.mgC Z.b .nil pass0 (pa_cons pe_str (pa_cons pe_non (pa_cons (pe_tup pa_nil) pa_nil)))))
    (pss_cons (ps_for PassesOwn.never rfl (pi_seq (pv 0)) (pg_name (i := 2) scREff.nd rfl (Or.inl rfl))
      (pss_one (ps_set (i := 1) scREff.nd rfl (Or.inl rfl) (pe_op (op_addOwn (C := C) (E := E0) ga hr ba pass0 sf hf fn) (pv 1) (pe_call gp hr rfl Dp.m Dp.F.kp Dp.b .nil pass0 (pa_cons (pv 2) pa_nil))))))
    (pss_one (ps_ret (pv 1)))), ?_⟩
  refine ⟨(by show 0 ≤ sizeLine; decide), fun p hp => ?_⟩
  intro x dx nx ndx ne
  refine spInit_mono (made (Q := fun z H3 => ∃ x, z = .ref x ∧ Made C G (upd H p (.tup [])) H3 "keep" (.sc .non) [] x) (S := fun _ => False) (n := 0) (d := .sc .non) (bs := []) (Dc.sc hN) rfl rfl (.inr upd_same) (fun b hb => nomatch hb) (Nat.zero_le _) ((Ex.new hp).tab _ _ Z.hR tb) Z.hR (fun x H6 M => ⟨x, rfl, M⟩) x dx nx ndx ne) ?_
  rintro _ H3 ⟨rfl, x', hx', Md⟩
  cases hx'
  refine ⟨rfl, ?_⟩
  have e13 : Ex H H3 := (Ex.new hp).trans Md.ex
  have st : Ec C (Nw H) G H3 (n + 1) (.ref x) (rowE ((rs.take 0).map (·.2))) := (Md.keep n).imp fun b hb => fresh_back (Ex.new hp) hb
  have get : ∀ (i : Nat) (y : V), (rs.map (·.1))[i]? = some y → ∃ r, rs[i]? = some r ∧ y = r.1 := fun i y hi => by
    rw [List.getElem?_map] at hi
    obtain ⟨r, h1, h2⟩ := Option.map_eq_some_iff.mp hi
    exact ⟨r, h1, h2.symm⟩
  rcases hsq with sq | sq
  all_goals
    first
      | refine .inl ⟨.ref a, rfl, a, rfl, ⟨_, .inl (.inl (e13 _ _ sq))⟩, for_list (K := K) (a := a) (xs := rs.map (·.1)) (fun i σ H5 => ∃ z, (∃ x, σ = [some (.ref a), some z, x]) ∧ Ex H H5 ∧ Ec C (Nw H) G H5 (n + 1) z (rowE ((rs.take i).map (·.2)))) ⟨_, ⟨_, rfl⟩, e13, st⟩ (fun i σ H5 _ ⟨_, _, e, _⟩ => .inl (.inl (e _ _ sq))) (fun i y σ H5 hi q => ?_) fun σ H5 q => ?_⟩
      | refine .inr ⟨.ref a, rfl, a, rfl, ⟨_, .inl (.inl (e13 _ _ sq))⟩, for_tup (K := K) (a := a) (xs := rs.map (·.1)) (fun i σ H5 => ∃ z, (∃ x, σ = [some (.ref a), some z, x]) ∧ Ex H H5 ∧ Ec C (Nw H) G H5 (n + 1) z (rowE ((rs.take i).map (·.2)))) ⟨_, ⟨_, rfl⟩, e13, st⟩ (fun i σ H5 _ ⟨_, _, e, _⟩ => .inl (.inl (e _ _ sq))) (fun i y σ H5 hi q => ?_) fun σ H5 q => ?_⟩
    · obtain ⟨z, ⟨x, rfl⟩, e5, h5⟩ := q
      obtain ⟨r, hr', rfl⟩ := get i y hi
      have d1 := hrow r (List.mem_of_getElem? hr')
      refine ⟨_, rfl, _, rfl, S, r.1, r.2, rfl, d1.ex e5, e5.tab _ _ Z.hR tb, fun p6 H6 e6 h6 => ?_⟩
      have h56 := h5.ex e6
      obtain ⟨a1, dx1, av1, t1, rfl, _, ha1⟩ := h56.fields
      obtain ⟨a2, dx2, av2, t2, rfl, _, ha2⟩ := h6.fields
      have e56 := e5.trans e6
      refine ⟨a1, dx1, _, a2, dx2, _, rfl, rfl, ha1, ha2, Nw H, .ref a1, .ref a2, _, _, rfl, h56, h6.imp fun b hb => fresh_back e5 hb, e56.tab _ _ Z.hR tb, fun r7 H7 e7 h7 => ?_⟩
      obtain ⟨a3, _, _, _, rfl, _, _⟩ := h7.fields
      refine ⟨⟨a3, rfl⟩, .ref a3, ⟨_, rfl⟩, e56.trans e7, ?_⟩
      rw [List.take_add_one, hr']
      simp only [Option.toList_some, List.map_append, List.map_cons, List.map_nil]
      show Ec C (Nw H) G H7 (n + 1) _ (List.foldl (fun e p => e.fol (pef p)) .keep _)
      rw [List.foldl_append]
      exact h7.imp fun b hb => hb.elim id fun q => fresh_back e56 q
    · obtain ⟨z, ⟨x, rfl⟩, e5, h5⟩ := q
      rw [List.length_map, List.take_length] at h5
      exact ⟨z, rfl, kq z H5 e5 h5⟩
theorem ok_effect {C Pt f fr fe : Addr} {fd fdr fde : FuncData} {G : Gen} {n k : Nat} (hR : TabL.R Pt qLam)
    (Dd : Df K mg "effect" sEffect ["row"] f fd) (Dr : Df K mg "check_row" sCheckRow ["row"] fr fdr) (gr : FnOk P w K mg base CX0 k fr fdr ["row"] (spRow G (n + 1)))
    (De : Df K mg "row_effect" sRowEffect ["row"] fe fde) (ge : FnOk P w K mg base CX0 k fe fde ["row"] (spREff C Pt G n)) :
    FnOk P w K mg base CX0 (k + 1) f fd ["row"] (spEff C Pt G n) := by
  refine Dd.F.ok scEff (fun vs H Q E h => ?_) (fun cdv A outer s H vs Q E hr h => ?_)
  · obtain ⟨_, a, rs, rfl, _⟩ := h
    rfl
  obtain ⟨S, a, rs, rfl, hrow, tb, kq⟩ := h
  refine ⟨_, pss_cons (ps_expr (pe_call gr hr rfl Dr.m Dr.F.kp Dr.b .nil pass0 (pa_cons (pv 0) pa_nil)))
    (pss_one (ps_ret (pe_call ge hr rfl De.m De.F.kp De.b .nil pass0 (pa_cons (pv 0) pa_nil)))), ?_⟩
  refine ⟨_, rfl, S, a, rs, rfl, hrow, fun H1 e1 => ?_⟩
  have m : (rs.map fun r => (r.1, r.2.1)).map (·.1) = rs.map (·.1) := by rw [List.map_map]; rfl
  have m2 : (rs.map fun r => (r.1, r.2.1)).map (·.2) = rs.map (·.2.1) := by rw [List.map_map]; rfl
  refine ⟨_, rfl, S, a, rs.map fun r => (r.1, r.2.1), rfl, ?_, ?_, e1.tab _ _ hR tb, fun r H' e2 h2 => kq r H' (e1.trans e2) ?_⟩
  · rw [m]
    exact (hrow.ex e1).sq
  · intro r hr'
    obtain ⟨q, hq, rfl⟩ := List.mem_map.mp hr'
    exact ((hrow.ex e1).dc q hq).1
  · rw [m2] at h2
    exact h2.imp fun b hb => fresh_back e1 hb
end
end TP

namespace TP
open PySem PySem.Spec PyProof.Rows L2
abbrev sLRun : Stmt := topS 37
/-- the law's own run: the row is a list -/
def spLRun [TabL] (G : Gen) (n : Nat) : Sp := fun vs H Q _ => ∃ (S1 S2 : Addr → Prop) (v : V) (d : D) (a : Addr) (rs : List (V × D)), vs = [v, .ref a] ∧ Dc S1 G H n v d ∧ H a = some (.lst (rs.map (·.1))) ∧ (∀ r ∈ rs, Dc S2 G H n r.1 r.2) ∧ (∀ x, S1 x → S2 x → False) ∧ ∀ r H', Ex H H' → Dc (fun x => (S1 x ∧ H x ≠ none) ∨ H x = none) G H' n r (rowD d (rs.map (·.2))) → Q r H'
abbrev nLRun : List Str := ["_law_document", "_law_row_here", "_law_patch_here"]
theorem scLRun : FnScope nLRun ["_law_document", "_law_row_here"] (defScope sLRun) := ⟨rfl, rfl, rfl, by decide +kernel, rfl, by decide +kernel, by decide +kernel⟩
section
variable [TabL] {P : Program} {w : World} {K : PySem.W.Frag} {mg : Str → Option Value} {base : Heap}
theorem ok_lrun {G : Gen} {n k : Nat} {f fa : Addr} {fd fda : FuncData} (Dd : Df K mg "_law_run" sLRun ["_law_document", "_law_row_here"] f fd) (Da : Df K mg "_law_after" sLAfter ["_law_document", "_law_patch_here"] fa fda) (ga : FnOk P w K mg base CX0 k fa fda ["_law_document", "_law_patch_here"] (spPatched G n)) : FnOk P w K mg base CX0 (k + 1) f fd ["_law_document", "_law_row_here"] (spLRun G n) := by
  refine Dd.F.ok scLRun (fun vs H Q E h => ?_) (fun cdv A outer s H vs Q E hr h => ?_)
  · obtain ⟨_, _, v, d, a, rs, rfl, _⟩ := h
    rfl
  obtain ⟨S1, S2, v, d, a, rs, rfl, hv, sq, hrow, dis, kq⟩ := h
  refine ⟨_, pss_cons (ps_for PassesOwn.never rfl (pi_list (pv 1)) (pg_name (i := 2) scLRun.nd rfl (Or.inl rfl)) (pss_one (ps_set (i := 0) scLRun.nd rfl (Or.inl rfl) (pe_call ga hr rfl Da.m Da.F.kp Da.b .nil pass0 (pa_cons (pv 0) (pa_cons (pv 2) pa_nil))))))
    (pss_one (ps_ret (pv 0))), ?_⟩
  refine ⟨.ref a, rfl, a, rfl, ⟨_, .inl (.inl sq)⟩, for_list (K := K) (a := a) (xs := rs.map (·.1)) (fun i σ H5 => ∃ z, (∃ x, σ = [some z, some (.ref a), x]) ∧ Ex H H5 ∧ Dc (fun x => (S1 x ∧ H x ≠ none) ∨ H x = none) G H5 n z (rowD d ((rs.take i).map (·.2)))) ⟨v, ⟨_, rfl⟩, Ex.refl H, hv.alloc.imp fun x hx => .inl hx⟩ (fun i σ H5 _ ⟨_, _, e, _⟩ => .inl (.inl (e _ _ sq))) (fun i y σ H5 hi q => ?_) fun σ H5 q => ?_⟩
  · obtain ⟨z, ⟨x, rfl⟩, e5, h5⟩ := q
    obtain ⟨r, hr', rfl⟩ : ∃ r, rs[i]? = some r ∧ y = r.1 := by
      rw [List.getElem?_map] at hi
      obtain ⟨r, h1, h2⟩ := Option.map_eq_some_iff.mp hi
      exact ⟨r, h1, h2.symm⟩
    have d1 := hrow r (List.mem_of_getElem? hr')
    refine ⟨_, rfl, _, rfl, _, (fun x => S2 x ∧ H x ≠ none), z, r.1, _, r.2, rfl, h5, d1.alloc.ex e5, (fun x hx hx2 => hx.elim (fun q => dis x q.1 hx2.1) fun q => hx2.2 q), fun z2 H6 e6 h6 => ?_⟩
    refine ⟨z2, ⟨_, rfl⟩, e5.trans e6, ?_⟩
    rw [List.take_add_one, hr']
    simp only [Option.toList_some, List.map_append, List.map_cons, List.map_nil]
    show Dc _ G H6 n z2 (List.foldl D.app d _)
    rw [List.foldl_append]
    exact h6.imp fun b hb => .inr (fresh_back e5 hb)
  · obtain ⟨z, ⟨x, rfl⟩, e5, h5⟩ := q
    rw [List.length_map, List.take_length] at h5
    exact ⟨z, rfl, kq z H5 e5 h5⟩
end
end TP

namespace TP
open PySem PySem.Spec PyProof.Rows L2
abbrev sLRow : Stmt := topS 34
/-- a list compared with an empty one -/
def rNeNil (K : PySem.W.Frag) : R2 := fun x y H Q => ∃ p q xs, x = .ref p ∧ y = .ref q ∧ SqL K H p xs ∧ SqL K H q [] ∧ Q (.bl (decide (xs ≠ []))) H
theorem op_neNil {X : Cx} (hu : X.A.units + 64 < cLine) : OpR X (compareOp .NotEq) (rNeNil X.K) := by
  intro pins s σ H x y v u Q I rx ry h
  obtain ⟨p, q, xs, rfl, rfl, hp, hq, qq⟩ := h
  cases (show v = Value.ref p from rx)
  cases (show u = Value.ref q from ry)
  obtain ⟨us, r1, p1, _⟩ := I.list hp
  obtain ⟨ws, r2, p2, _⟩ := I.list hq
  have e2 : ws.toArray.size = 0 := by rw [List.size_toArray, ← r2.length]; rfl
  have e1 : us.toArray.size = xs.length := by rw [List.size_toArray, ← r1.length]
  by_cases c : xs = []
  · subst c
    refine SeqAt.RcNeAt.lists (e := fun _ => true) p1.isList p2.isList (by rw [e1, e2]; rfl) (by omega) (fun j h1 h2 => absurd h2 (by omega)) _ _ _ _ ?_
    rw [show ((List.range us.toArray.size).all fun _ => true) = true from List.all_eq_true.mpr fun _ _ => rfl]
    exact ⟨.bl false, H, I, by simp [L2.RelV], qq⟩
  · refine SeqAt.RcNeAt.lists_lengths p1.isList p2.isList (by rw [e1, e2]; exact bne_iff_ne.mpr fun z => c (List.length_eq_zero_iff.mp z)) (by omega) _ _ _ _ ?_
    rw [decide_eq_true c] at qq
    exact ⟨.bl true, H, I, by simp [L2.RelV], qq⟩
/-- a drawn row: patches, some of them again -/
def spLRow [TabL] (n : Nat) : Sp := fun vs H Q _ => ∃ (a : Addr) (b : Int), vs = [.ref a, .int b, .int n] ∧ StAt H a ∧ 0 < b ∧ b < 1000 ∧ ∀ p (rs : List (V × D)) H', Mv a H H' → H p = none → p ≠ sysModules → H' p = some (.lst (rs.map (·.1))) → (rs.length : Int) < b → (∀ r ∈ rs, Dn (fun x => Sl H x ∧ x ≠ p) H' (n + 1) (pB n) n r.1 r.2) → Q (.ref p) H'
abbrev nLRow : List Str := ["_law_s", "_law_most", "_law_deep", "_law_found", "_law_turn"]
theorem scLRow : FnScope nLRow ["_law_s", "_law_most", "_law_deep"] (defScope sLRow) := ⟨rfl, rfl, rfl, by decide +kernel, rfl, by decide +kernel, by decide +kernel⟩
section
variable [TabL] {P : Program} {w : World} {K : PySem.W.Frag} {mg : Str → Option Value} {base : Heap}
theorem ok_lrow {f fg fp : Addr} {fd fdg fdp : FuncData} {n k : Nat} (Dd : Df K mg "_law_row" sLRow ["_law_s", "_law_most", "_law_deep"] f fd) (Dg : Df K mg "_law_digit" sDigit ["_law_state_here", "_law_base"] fg fdg) (Dp : Df K mg "_law_patch" sPatch ["_law_s", "_law_deep"] fp fdp) (T : Bi mg)
    (gp : FnOk P w K mg base CX0 (k + 1) fp fdp ["_law_s", "_law_deep"] (spDraw n)) : FnOk P w K mg base CX0 (k + 2) f fd ["_law_s", "_law_most", "_law_deep"] (spLRow n) := by
  have gg : FnOk P w K mg base CX0 (k + 1) fg fdg ["_law_state_here", "_law_base"] spDigit := (ok_digit T Dg).mono (by omega)
  refine Dd.F.ok scLRow (fun vs H Q E h => ?_) (fun cdv A outer s H vs Q E hr h => ?_)
  · obtain ⟨a, b, rfl, _⟩ := h
    rfl
  obtain ⟨a, b, rfl, sa, b0, b1, kq⟩ := h
  refine ⟨_, pss_cons (ps_set (i := 3) scLRow.nd rfl (Or.inl rfl) (pe_lstS pa_nil))
    (pss_cons (ps_for PassesOwn.never rfl (pi_range1 (by rfl) (T.of "range") (pa_cons (pe_call gg hr rfl Dg.m Dg.F.kp Dg.b .nil pass0 (pa_cons (pv 0) (pa_cons (pv 1) pa_nil))) pa_nil)) (pg_name (i := 4) scLRow.nd rfl (Or.inl rfl))
      (pss_one (ps_if (PW.pt (pw_and (pt_cmpR (op_neNil hr.units) (pv 3) (pe_lst pa_nil) (nomark _)) (pw_and1 (pt_cmpR op_eq (pe_call gg hr rfl Dg.m Dg.F.kp Dg.b .nil pass0 (pa_cons (pv 0) (pa_cons pe_int pa_nil))) pe_int (nomark _)))))
        (pss_one (ps_expr (pe_bm PySem.F.plainAttrs_list PySem.F.slot_list_append PySem.F.type_list_append mt_append (pv 3) (pa_cons (pe_ix ix_list (pv 3) (pe_call gg hr rfl Dg.m Dg.F.kp Dg.b .nil pass0 (pa_cons (pv 0) (pa_cons (pe_callB call_len_seq (by rfl) (T.of "len") (by decide +kernel) (pa_cons (pv 3) pa_nil)) pa_nil))) (fun _ _ => rfl)) pa_nil))))
        (pss_one (ps_expr (pe_bm PySem.F.plainAttrs_list PySem.F.slot_list_append PySem.F.type_list_append mt_append (pv 3) (pa_cons (pe_call gp hr rfl Dp.m Dp.F.kp Dp.b .nil pass0 (pa_cons (pv 0) (pa_cons (pv 2) pa_nil))) pa_nil)))))))
    (pss_one (ps_ret (pv 3)))), ?_⟩
  refine ⟨(by show 0 ≤ sizeLine; decide), fun p hp np => ?_⟩
  have mF : Mv a H (upd H p (.lst [])) := (Mv.refl sa).new hp
  have npa : p ≠ a := fun z => sa.ne (by rw [← z]; exact hp)
  refine ⟨.ref a, rfl, _, rfl, a, b, rfl, mF.st, b0, b1, fun t H2 t0 t1 m2 same2 => ⟨t, rfl, by omega, by omega, ?_⟩⟩
  refine for_range (lo := 0) (n := t.toNat) (fun i σ H3 => (∃ x, σ = [some (.ref a), some (.int b), some (.int n), some (.ref p), x]) ∧ Mv a H H3 ∧ ∃ rs : List (V × D), rs.length = i ∧ H3 p = some (.lst (rs.map (·.1))) ∧ ∀ r ∈ rs, Dn (fun x => Sl H x ∧ x ≠ p) H3 (n + 1) (pB n) n r.1 r.2) ?_ ?_ ?_
  · refine ⟨⟨_, rfl⟩, mF.trans m2, [], rfl, ?_, fun r hr => nomatch hr⟩
    rw [same2 p npa, upd_same]
    rfl
  · rintro i σ H3 hi ⟨⟨x, rfl⟩, m3, rs, hl, h3, hd⟩
    have nS : ¬ (Sl H a ∧ a ≠ p) := fun z => sa.ne z.1.1
    have hlt : rs.length < 1000 := by omega
    have szl : ∀ (ys : List V), ys.length = rs.length → ys.length < sizeLine := fun ys e => Nat.lt_trans (by omega : ys.length < 1000) (by decide)
    -- after one more patch
    have fin : ∀ (r : V × D) (H5 : Hp), Mv a H H5 → H5 p = some (.lst (rs.map (·.1))) → (∀ r ∈ rs, Dn (fun x => Sl H x ∧ x ≠ p) H5 (n + 1) (pB n) n r.1 r.2) → Dn (fun x => Sl H x ∧ x ≠ p) H5 (n + 1) (pB n) n r.1 r.2 →
        Mv a H (upd H5 p (.lst (rs.map (·.1) ++ [r.1]))) ∧ ∃ rs' : List (V × D), rs'.length = i + 1 ∧ (upd H5 p (.lst (rs.map (·.1) ++ [r.1]))) p = some (.lst (rs'.map (·.1))) ∧ ∀ q ∈ rs', Dn (fun x => Sl H x ∧ x ≠ p) (upd H5 p (.lst (rs.map (·.1) ++ [r.1]))) (n + 1) (pB n) n q.1 q.2 := fun r H5 m5 h5 hd5 dr => by
      have keep : ∀ q : V × D, Dn (fun x => Sl H x ∧ x ≠ p) H5 (n + 1) (pB n) n q.1 q.2 → Dn (fun x => Sl H x ∧ x ≠ p) (upd H5 p (.lst (rs.map (·.1) ++ [r.1]))) (n + 1) (pB n) n q.1 q.2 := fun q dq =>
        ⟨Dc.mono (fun _ z => z) (fun b u s _ e => by rw [upd_ne s.2]; exact e) (Nat.le_refl _) dq.dc, dq.pd, dq.dd⟩
      refine ⟨m5.mut sa.ne hp h5, rs ++ [r], by rw [List.length_append, hl]; rfl, by rw [upd_same, List.map_append]; rfl, fun q hq => ?_⟩
      rcases List.mem_append.mp hq with hq | hq
      · exact keep q (hd5 q hq)
      · rw [List.mem_singleton.mp hq]
        exact keep r dr
    have drawn : ∀ H4, Mv a H H4 → H4 p = some (.lst (rs.map (·.1))) → (∀ r ∈ rs, Dn (fun x => Sl H x ∧ x ≠ p) H4 (n + 1) (pB n) n r.1 r.2) → ∀ v d H5, Mv a H4 H5 → Dn (Sl H4) H5 (n + 1) (pB n) n v d → Mv a H H5 ∧ H5 p = some (.lst (rs.map (·.1))) ∧ (∀ r ∈ rs, Dn (fun x => Sl H x ∧ x ≠ p) H5 (n + 1) (pB n) n r.1 r.2) ∧ Dn (fun x => Sl H x ∧ x ≠ p) H5 (n + 1) (pB n) n v d := fun H4 m4 h4 hd4 v d H5 m5 dn =>
      ⟨m4.trans m5, m5.ex p _ npa h4, fun r hr => (hd4 r hr).mv m5 nS, dn.imp fun x hx => ⟨⟨m4.free sa.ne hx.1, hx.2⟩, (ne_of_none h4 hx.1).symm⟩⟩
    refine ⟨.ref p, rfl, (by show 0 ≤ sizeLine; decide), fun q hq => ?_⟩
    have m4 := m3.new (o := .lst []) hq
    have npq : p ≠ q := ne_of_none h3 hq
    have h4 : (upd H3 q (.lst [])) p = some (.lst (rs.map (·.1))) := by rw [upd_ne npq]; exact h3
    have hd4 : ∀ r ∈ rs, Dn (fun x => Sl H x ∧ x ≠ p) (upd H3 q (.lst [])) (n + 1) (pB n) n r.1 r.2 := fun r hr => ⟨(hd r hr).dc.ex (Ex.new hq), (hd r hr).pd, (hd r hr).dd⟩
    refine ⟨p, q, rs.map (·.1), rfl, rfl, .inl (.inl h4), .inl (.inl upd_same), _, rfl, ?_⟩
    by_cases c : rs = []
    · subst c
      refine iteF ⟨.ref p, rfl, .inl ⟨rfl, _, .inl (.inl h4)⟩, .ref a, rfl, .int n, rfl, a, rfl, m4.st, fun v d H5 m5 dn => ?_⟩
      obtain ⟨a1, a2, a3, a4⟩ := drawn _ m4 h4 hd4 v d H5 m5 dn
      exact ⟨p, _, v, rfl, rfl, a2, szl _ (by rw [List.length_map]), ⟨_, rfl⟩, fin (v, d) H5 a1 a2 a3 a4⟩
    have c' : rs.map (·.1) ≠ [] := fun z => c (List.map_eq_nil_iff.mp z)
    refine ifT (decide_eq_true c') ?_
    refine ⟨.ref a, rfl, a, 3, rfl, m4.st, by decide, by decide, fun j H5 j0 j1 m5 same5 => ⟨rfl, _, rfl, ?_⟩⟩
    have mm5 := m4.trans m5
    have h5 := m5.ex p _ npa h4
    have hd5 : ∀ r ∈ rs, Dn (fun x => Sl H x ∧ x ≠ p) H5 (n + 1) (pB n) n r.1 r.2 := fun r hr => (hd4 r hr).mv m5 nS
    refine ite2 (fun cj => ?_) fun cj => ?_
    · have pos : 0 < rs.length := List.length_pos_iff.mpr c
      refine ⟨.ref p, rfl, .inl ⟨rfl, _, .inl (.inl h5)⟩, .ref p, rfl, .ref a, rfl, _, rfl, p, _, rfl, .inl (.inl (.inl h5)), a, ((rs.map (·.1)).length : Int), rfl, m5.st, ?_, ?_, fun j' H6 j0' j1' m6 same6 => ?_⟩
      · rw [List.length_map]; omega
      · rw [List.length_map]; omega
      have h6 : H6 p = some (.lst (rs.map (·.1))) := by rw [same6 p npa]; exact h5
      have hd6 : ∀ r ∈ rs, Dn (fun x => Sl H x ∧ x ≠ p) H6 (n + 1) (pB n) n r.1 r.2 := fun r hr => (hd5 r hr).mv m6 nS
      rw [List.length_map] at j1'
      obtain ⟨jn, rfl⟩ := Int.eq_ofNat_of_zero_le j0'
      have hlt' : jn < rs.length := by omega
      have gj : (rs.map (·.1))[jn]? = some (rs[jn]).1 := by rw [List.getElem?_map, List.getElem?_eq_getElem hlt']; rfl
      refine ⟨p, _, jn, _, rfl, rfl, .inl (.inl h6), atI_nat gj, ?_⟩
      exact ⟨p, _, _, rfl, rfl, h6, szl _ (by rw [List.length_map]), ⟨_, rfl⟩, fin (rs[jn]) H6 (mm5.trans m6) h6 hd6 (hd6 _ (List.getElem_mem hlt'))⟩
    · refine ⟨.ref p, rfl, .inl ⟨rfl, _, .inl (.inl h5)⟩, .ref a, rfl, .int n, rfl, a, rfl, mm5.st, fun v d H6 m6 dn => ?_⟩
      obtain ⟨a1, a2, a3, a4⟩ := drawn _ mm5 h5 hd5 v d H6 m6 dn
      exact ⟨p, _, v, rfl, rfl, a2, szl _ (by rw [List.length_map]), ⟨_, rfl⟩, fin (v, d) H6 a1 a2 a3 a4⟩
  · rintro σ H3 ⟨⟨x, rfl⟩, m3, rs, hl, h3, hd⟩
    exact ⟨_, rfl, kq p rs H3 m3 hp np h3 (by omega) hd⟩
end
end TP

namespace TP
open PySem PySem.Spec PyProof.Rows L2
abbrev sEqE : Stmt := inClass (topS 17) 1
/-! ### effects compared -/
theorem opR_or {X : Cx} {f : Value → Value → Sem Value} {r1 r2 : R2} (h1 : OpR X f r1) (h2 : OpR X f r2) : OpR X f (fun x y H Q => r1 x y H Q ∨ r2 x y H Q) :=
  fun pins s σ H x y v u Q I a b z => z.elim (fun z => h1 pins s σ H x y v u Q I a b z) fun z => h2 pins s σ H x y v u Q I a b z
theorem Ec.ext {C : Addr} {G : Gen} {S : Addr → Prop} {H H' : Hp} {n : Nat} {v : V} {e : Ef} (h : Ec C S G H n v e) (x : L2.Ext H H') : Ec C S G H' n v e := h.ch (fun b o s z r => ⟨s, x b o r⟩) (Nat.le_refl _)
/-- two objects that stand for one effect -/
def eqR (C : Addr) (G : Gen) (n : Nat) (a b : Addr) (H : Hp) : Prop := ∃ S S' e, Ec C S G H n (.ref a) e ∧ Ec C S' G H n (.ref b) e
theorem eqR_mon {C : Addr} {G : Gen} {n : Nat} : ∀ (a b : Addr) (H H' : Hp), L2.Ext H H' → eqR C G n a b H → eqR C G n a b H' := fun a b H H' x ⟨S, S', e, h1, h2⟩ => ⟨S, S', e, h1.ext x, h2.ext x⟩
def memD (C : Addr) (G : Gen) (n : Nat) : Eqv := fun x y H => DFlat x y H ∨ DIns C (eqR C G n) x y H
theorem mon_memD {C : Addr} {G : Gen} {n : Nat} : Mon (memD C G n) := Mon.or mon_flat (mon_ins eqR_mon)
theorem scEqE : FnScope ["self", "other"] ["self", "other"] (defScope sEqE) := ⟨rfl, rfl, rfl, by decide +kernel, rfl, by decide +kernel, by decide +kernel⟩
theorem eq_sc : ∀ {v : V}, isSc v = true → flatV v = true ∧ eqV v v = true
  | .non, _ => by simp [flatV, flatB, eqV]
  | .int _, _ => by simp [flatV, flatB, eqV]
  | .str _, _ => by simp [flatV, flatB, eqV]
theorem sc_scal : ∀ {v : V}, isSc v = true → scal v v = true
  | .non, _ => by simp [scal]
  | .int _, _ => by simp [scal]
  | .str _, _ => by simp [scal]
theorem prs_of {D : Eqv} {xs ys : List V} {H : Hp} (hl : xs.length = ys.length) (h : ∀ (i : Nat) (x y : V), xs[i]? = some x → ys[i]? = some y → D x y H) : Prs D xs ys H := ⟨hl, h⟩
/-- the members of two objects that stand for one effect -/
theorem prs_mem {C : Addr} {S S' : Addr → Prop} {G : Gen} {H : Hp} {n : Nat} {K : PySem.W.Frag} {bs cs : List Bs} {f : Str → Ef} (b1 : BsAt S H bs) (c1 : BsAt S' H cs) (nb : NdS (bs.map fun b => b.2.1)) (nc : NdS (cs.map fun b => b.2.1))
    (fb : ∀ k, k ∉ bs.map (fun b => b.2.1) → f k = .no) (fc : ∀ k, k ∉ cs.map (fun b => b.2.1) → f k = .no) (eb : ∀ b ∈ bs, Ec C S G H n b.2.2 (f b.2.1)) (ec : ∀ b ∈ cs, Ec C S' G H n b.2.2 (f b.2.1)) :
    Prs (DTup K (memD C G n)) (bs.map fun b => V.ref b.1) (cs.map fun b => V.ref b.1) H := by
  have inb : ∀ k, k ∈ bs.map (fun b => b.2.1) ↔ f k ≠ .no := fun k => by
    constructor
    · intro h z
      obtain ⟨b, hb, rfl⟩ := List.mem_map.mp h
      have := (eb b hb).not_no
      rw [z] at this
      cases this
    · exact fun h => Classical.byContradiction fun z => h (fb k z)
  have inc : ∀ k, k ∈ cs.map (fun b => b.2.1) ↔ f k ≠ .no := fun k => by
    constructor
    · intro h z
      obtain ⟨b, hb, rfl⟩ := List.mem_map.mp h
      have := (ec b hb).not_no
      rw [z] at this
      cases this
    · exact fun h => Classical.byContradiction fun z => h (fc k z)
  have keys : bs.map (fun b => b.2.1) = cs.map (fun b => b.2.1) := ndS_eq nb nc fun k => (inb k).trans (inc k).symm
  have hl : bs.length = cs.length := by simpa using congrArg List.length keys
  refine prs_of (by simpa using hl) fun i x y hx hy => ?_
  rw [List.getElem?_map] at hx hy
  obtain ⟨b, hb, rfl⟩ := Option.map_eq_some_iff.mp hx
  obtain ⟨c, hc, rfl⟩ := Option.map_eq_some_iff.mp hy
  have ek : b.2.1 = c.2.1 := by
    have := congrArg (fun l => l[i]?) keys
    simp only [List.getElem?_map, hb, hc, Option.map_some] at this
    exact Option.some.inj this
  have mb := List.mem_of_getElem? hb
  have mc := List.mem_of_getElem? hc
  refine ⟨b.1, c.1, [.str b.2.1, b.2.2], [.str c.2.1, c.2.2], rfl, rfl, .inl (.inl (b1 b mb).2), .inl (.inl (c1 c mc).2), prs_of rfl fun j x y hx hy => ?_⟩
  match j, hx, hy with
  | 0, hx, hy =>
    cases hx; cases hy
    rw [ek]
    exact .inl (by have := eq_sc (v := .str c.2.1) rfl; exact ⟨this.1, this.1, this.2⟩)
  | 1, hx, hy =>
    cases hx; cases hy
    have e1 := eb b mb
    have e2 := ec c mc
    rw [← ek] at e2
    obtain ⟨a1, dx1, av1, t1, h1, _, ha1⟩ := e1.fields
    obtain ⟨a2, dx2, av2, t2, h2, _, ha2⟩ := e2.fields
    rw [h1] at e1 ⊢
    rw [h2] at e2 ⊢
    exact .inr ⟨a1, a2, dx1, dx2, _, _, rfl, rfl, ha1, ha2, S, S', _, e1, e2⟩
  | j + 2, hx, hy => cases hx
/-- what two objects for one effect hold -/
theorem ec_two {C : Addr} {S S' : Addr → Prop} {G : Gen} {H : Hp} {n : Nat} {K : PySem.W.Frag} {a b : Addr} {e : Ef} (h1 : Ec C S G H (n + 1) (.ref a) e) (h2 : Ec C S' G H (n + 1) (.ref b) e) :
    ∃ dx dy av bv t u xs ys, H a = some (.ins C dx (eflds e.kd av t)) ∧ H b = some (.ins C dy (eflds e.kd bv u)) ∧ TpX H t xs ∧ TpX H u ys ∧ Prs (DTup K (memD C G n)) xs ys H ∧
      ((isSc av = true ∧ av = bv) ∨ ∃ p q zs, av = .ref p ∧ bv = .ref q ∧ H p = some (.tup zs) ∧ H q = some (.tup zs) ∧ ∀ z ∈ zs, isSc z = true) := by
  obtain ⟨a', dx, kd, av, t, bs, ea, sa, ha, st, ht, hb, nb, kb, h1⟩ := h1
  obtain ⟨b', dy, kd', bv, u, cs, eb, sb, hb', su, hu, hc, nc, kc, h2⟩ := h2
  cases ea; cases eb
  cases e with
  | no => exact h1.elim
  | keep =>
    obtain ⟨rfl, rfl, rfl⟩ := h1
    obtain ⟨rfl, rfl, rfl⟩ := h2
    exact ⟨dx, dy, _, _, t, u, _, _, ha, hb', ht, hu, prs_of rfl (fun i x y hx => nomatch hx), .inl ⟨rfl, rfl⟩⟩
  | drop =>
    obtain ⟨rfl, rfl, rfl⟩ := h1
    obtain ⟨rfl, rfl, rfl⟩ := h2
    exact ⟨dx, dy, _, _, t, u, _, _, ha, hb', ht, hu, prs_of rfl (fun i x y hx => nomatch hx), .inl ⟨rfl, rfl⟩⟩
  | set d =>
    obtain ⟨rfl, rfl, at1⟩ := h1
    obtain ⟨rfl, rfl, at2⟩ := h2
    refine ⟨dx, dy, _, _, t, u, _, _, ha, hb', ht, hu, prs_of rfl (fun i x y hx => nomatch hx), ?_⟩
    rcases at1 with ⟨e1, c1⟩ | ⟨p, zs, e1, rfl, _, hp, _, hz⟩
    · rcases at2 with ⟨e2, c2⟩ | ⟨q, ws, e2, rfl, _, hq, _, hw⟩
      · rw [e1] at e2
        cases e2
        exact .inl ⟨G.sc _ c1, rfl⟩
      · rw [e1] at e2; cases e2
    · rcases at2 with ⟨e2, c2⟩ | ⟨q, ws, e2, rfl, _, hq, _, hw⟩
      · rw [e1] at e2; cases e2
      · rw [e1] at e2
        cases e2
        exact .inr ⟨p, q, zs, rfl, rfl, hp, hq, fun z hz' => G.sc _ (hz z hz')⟩
  | merge f =>
    obtain ⟨rfl, rfl, f1, m1⟩ := h1
    obtain ⟨rfl, rfl, f2, m2⟩ := h2
    exact ⟨dx, dy, _, _, t, u, _, _, ha, hb', ht, hu, prs_mem hb hc nb nc f1 f2 m1 m2, .inl ⟨rfl, rfl⟩⟩
  | build f =>
    obtain ⟨rfl, rfl, f1, m1⟩ := h1
    obtain ⟨rfl, rfl, f2, m2⟩ := h2
    exact ⟨dx, dy, _, _, t, u, _, _, ha, hb', ht, hu, prs_mem hb hc nb nc f1 f2 m1 m2, .inl ⟨rfl, rfl⟩⟩
theorem tpx_ext {H H' : Hp} {t : Addr} {xs : List V} (x : L2.Ext H H') (h : TpX H t xs) : TpX H' t xs := let ⟨o, h1, h2⟩ := h; ⟨o, h1, x _ _ h2⟩
section
variable [TabL] {P : Program} {w : World} {K : PySem.W.Frag} {mg : Str → Option Value} {base : Heap}
theorem ok_eqE {C Pt fI f : Addr} {fdI fd : FuncData} {G : Gen} (Z : EFacts K mg base C Pt fI fdI) (IC : C8.InsC K C) (T : Bi mg) (F : Fun K "__eq__" "Effect.__eq__" sEqE f fd) (b : Binds K fd ["self", "other"] []) (he : PySem.W.findIn K (.ref C) "__eq__" = some (some (.ref f))) (hf : PySem.W.isFn K (.ref f) = true) :
    ∀ n, FnOk P w K mg base CX0 (3 * n + 1) f fd ["self", "other"] (spEq (eqR C G n))
  | 0 => fn_zero fun vs H Q E ⟨_, _, _, ⟨_, _, _, h, _⟩, _⟩ => h
  | n + 1 => by
    have ih := ok_eqE (G := G) Z IC T F b he hf n
    show FnOk P w K mg base CX0 ((3 * n + 3) + 1) f fd ["self", "other"] (spEq (eqR C G (n + 1)))
    refine F.ok scEqE (fun vs H Q E h => ?_) (fun cdv A outer s H vs Q E hr h => ?_)
    · obtain ⟨_, _, rfl, _⟩ := h
      rfl
    obtain ⟨x, y, rfl, ⟨S, S', e, h1, h2⟩, k⟩ := h
    obtain ⟨dx, dy, av, bv, t, u, xs, ys, hx, hy, ht, hu, prs, hat⟩ := ec_two (K := K) h1 h2
    refine ⟨_, pss_one (ps_ret (pe_and (pe_callB (C8.call_isC IC) (by rfl) (T.of "isinstance") (by decide +kernel) (pa_cons (pv 1) (pa_cons (pe_glob (v := .ref C) (by rfl) Z.mgC rfl) pa_nil)))
      (pe_and (pe_cmpR op_eq (pe_fld (pv 0) rfl) (pe_fld (pv 1) rfl) (nomark _))
      (pe_and (pe_cmpR (opR_or op_eq (op_eqG (rcG_tup mon_flat eqG_flat) (hr.mono (by omega)))) (pe_fld (pv 0) rfl) (pe_fld (pv 1) rfl) (nomark _))
      (pe_one (pe_cmpR (op_eqG (rcG_tup (mon_tup mon_memD) (eqG_tup mon_memD (EqG.or (eqG_flat.mono (Nat.zero_le _)) (eqG_ins (E := E0) ih he hf b pass0)))) hr) (pe_fld (pv 0) rfl) (pe_fld (pv 1) rfl) (nomark _))))))), ?_⟩
    refine ⟨.ref y, rfl, y, dy, _, rfl, hy, true, rfl, iteT ?_⟩
    refine ⟨.ref x, rfl, x, C, dx, _, _, rfl, hx, Z.cl, Z.nK, eflds_kind _ _ _, .ref y, rfl, y, C, dy, _, _, rfl, hy, Z.cl, Z.nK, eflds_kind _ _ _, rfl, _, rfl, ifT (decide_eq_true rfl) ?_⟩
    refine ⟨.ref x, rfl, x, C, dx, _, _, rfl, hx, Z.cl, Z.nA, eflds_atom _ _ _, .ref y, rfl, y, C, dy, _, _, rfl, hy, Z.cl, Z.nA, eflds_atom _ _ _, ?_⟩
    have last : ∀ H', L2.Ext H H' → tOp (rEqG (DTup K (DTup K (memD C G n)))) (tFld K (tVar 0) "members") (tFld K (tVar 1) "members") (start ["self", "other"] [.ref x, .ref y]) H' Q := fun H' x' => by
      refine ⟨.ref x, rfl, x, C, dx, _, _, rfl, x' _ _ hx, Z.cl, Z.nM, eflds_mem _ _ _, .ref y, rfl, y, C, dy, _, _, rfl, x' _ _ hy, Z.cl, Z.nM, eflds_mem _ _ _, ⟨t, u, xs, ys, rfl, rfl, ?_, ?_, Prs.mon (mon_tup mon_memD) x' prs⟩, fun H2 x2 => k H2 (Ext.trans x' x2)⟩
      · obtain ⟨o, _, z⟩ := ht; exact .inl (.inr ⟨o, x' _ _ z⟩)
      · obtain ⟨o, _, z⟩ := hu; exact .inl (.inr ⟨o, x' _ _ z⟩)
    rcases hat with ⟨sc, rfl⟩ | ⟨p, q, zs, rfl, rfl, hp, hq, hz⟩
    · exact .inl ⟨sc_scal sc, _, rfl, ifT (decide_eq_true rfl) (last H Ext.rfl')⟩
    · exact .inr ⟨⟨p, q, zs, zs, rfl, rfl, .inl (.inl hp), .inl (.inl hq), prs_of rfl fun i z z' h h' => by
        rw [h] at h'
        cases h'
        have := eq_sc (hz z (List.mem_of_getElem? h))
        exact ⟨this.1, this.1, this.2⟩⟩, fun H' x' => ⟨true, rfl, iteT (last H' x')⟩⟩
end
end TP

namespace TP
open PySem PySem.Spec PyProof.Rows L2
/-! ### != of objects whose class has its own == alone -/
/-- the class, as the heap holds it -/
def ClsNe (h : Heap) (C f : Addr) : Prop := ∃ of nm q N bs hdct sn sub ab col dd k0 k1 k2 k3 k5 newId mN, h.get? C = some (excClassObj nm q C N bs [.type "object"] hdct sn sub ab col dd k0 k1 k2 k3 k5 newId) ∧ h.Ns N mN ∧ mN "__eq__" = some (.ref f) ∧ h.get? f = some of ∧ of.cls = .type "function" ∧ mN "__ne__" = none
def isStrV : Value → Bool
  | .str _ _ => true
  | _ => false
theorem strKeys_of {es : Array DictEntry} (h : (es.toList.all fun e => isStrV e.key) = true) : StrKeys es := fun e he => by
  have := List.all_eq_true.mp h e (Array.mem_toList_iff.mpr he)
  cases hk : e.key with
  | str n t => exact ⟨n, t, rfl⟩
  | _ => rw [hk] at this; cases this
theorem clsNe_of {K : PySem.W.Frag} {h : Heap} {C f N : Addr} {of : Obj} {nm q : Str} {bs : List Value} {hdct : Bool} {sn : List Str} {sub : List Value} {ab : Bool} {col : Option Bool} {dd dN : Option Addr} {k0 k1 k2 k3 k5 : Option Value} {newId : String} {cN : Value} {es : Array DictEntry} {ep : Nat} {slN : Array (Option Value)}
    (X : K.In h) (lC : K.lookup C = some (excClassObj nm q C N bs [.type "object"] hdct sn sub ab col dd k0 k1 k2 k3 k5 newId)) (lN : K.lookup N = some ⟨cN, dN, .dict es ep, slN⟩) (sk : (es.toList.all fun e => isStrV e.key) = true) (e1 : nsFind es "__eq__" = some (.ref f)) (lf : K.lookup f = some of) (cf : of.cls = .type "function") (e2 : nsFind es "__ne__" = none) : ClsNe h C f :=
  ⟨of, nm, q, N, bs, hdct, sn, sub, ab, col, dd, k0, k1, k2, k3, k5, newId, nsFind es, X _ _ lC, ⟨_, es, ep, X _ _ lN, rfl, strKeys_of sk, fun _ => rfl⟩, e1, X _ _ lf, cf, e2⟩
def rNeOwn (C : Addr) (R : Addr → Addr → Hp → Prop) : R2 := fun x y H Q => ∃ a b dx dy fs gs, x = .ref a ∧ y = .ref b ∧ H a = some (.ins C dx fs) ∧ H b = some (.ins C dy gs) ∧ R a b H ∧ ∀ H', L2.Ext H H' → Q (.bl false) H'
theorem op_neOwn {X : Cx} {CX : CXT} {k : Nat} {f C : Addr} {fd : FuncData} {R : Addr → Addr → Hp → Prop} {E : XK} {ps : List Str}
    (G : FnOk X.prog X.w X.K X.mg X.base CX k f fd ps (spEq R)) (hr : Room (k + 1) X.A) (b : Binds X.K fd ps []) (px : Passes CX X E) (N : ∀ h : Heap, X.K.In h → ClsNe h C f) : OpR X (compareOp .NotEq) (rNeOwn C R) := by
  intro pins s σ H x y v u Q I rx ry h
  obtain ⟨a, c, dx, dy, fs, gs, rfl, rfl, ha, hc, hR, hq⟩ := h
  cases (show v = Value.ref a from rx)
  cases (show u = Value.ref c from ry)
  obtain ⟨oa, ia⟩ := inst_at I ha
  obtain ⟨oc, ic⟩ := inst_at I hc
  obtain ⟨of, nm, q, Na, bs, hdct, sn, sub, ab, col, dd, k0, k1, k2, k3, k5, newId, mN, n1, n2, n3, n4, n5, n6⟩ := N _ I.kIn
  have hr1 : Room k X.A.in1 := (Sub.in1 (X := X) ⟨hr, rfl⟩).room
  have own : s.heap.OwnEqNoNe a C f "object" [.type "object"] := ⟨_, of, nm, q, Na, bs, hdct, sn, sub, ab, col, dd, k0, k1, k2, k3, k5, newId, mN, some (.builtin "object.__eq__"), ia.at_, ia.cls, n1, n2, n3, n4, n5, rfl, rfl, n6⟩
  refine PySem.compareOp_ne_ownEq PySem.F.cmp_object own ic.at_ ic.cls (by have := hr.un; omega) ?_
  have hs : spEq R [.ref a, .ref c] H (fun v H' => v = .bl true ∧ L2.Ext H H') E := ⟨a, c, rfl, hR, fun H' x => ⟨rfl, x⟩⟩
  have e0 := I.env0
  refine PySem.wpAny_call (PySem.codeAny_mono (G.run X.A.in1 X.stack s H ⟨[.ref a, .ref c], []⟩ [.ref a, .ref c] [.ref a, .ref c] _ E hr1 ⟨e0.frames, e0.mod, e0.bs, e0.bsz, e0.funs, e0.frf, e0.hok, e0.bare⟩ ?_ (.cons rx (.cons ry .nil)) hs) ?_)
  · have := G.len _ _ _ _ hs
    exact b s [.ref a, .ref c] I.kIn (by simpa using this)
  · rintro r s2 h
    match r, h with
    | .ok (.ret u), h =>
      obtain ⟨v2, H2, I2, rv, hv, x⟩ := I.after h
      subst hv
      cases (show u = Value.bool true from rv)
      exact ⟨true, rfl, .bl false, H2, I2, rfl, hq H2 x⟩
    | .error e, h => exact px pins σ H _ e s2 I h
    | .ok .next, h => exact h.elim
    | .ok .brk, h => exact h.elim
    | .ok .cont, h => exact h.elim
end TP

namespace TP
open PySem PySem.Spec PyProof.Rows L2
/-! ### values of two kinds that decline -/
theorem rc_eq_no {M : Model} {A : Around} {E : Value → Shared → Prop} {s : Shared} {a b : Value} {Ta Tb ida idb : String} {Q : Value → Shared → Prop} (ta : s.TypeIs a Ta) (tb : s.TypeIs b Tb) (ne : (Value.type Ta != Value.type Tb) = true) (sub : isSubtype (.type Tb) (.type Ta) = pure false)
    (sa : Slot Ta (cmpInfo .Eq).2.1 ida) (sb : Slot Tb (cmpInfo .Eq).2.2 idb) (one : oneThing? .Eq a b = none) (hu : A.units < cLine)
    (h1 : ∀ Q : Value → Shared → Prop, Q .notImplemented s → wpAny M A (call (.builtin ida) [a, b]) Q E s) (h2 : ∀ Q : Value → Shared → Prop, Q .notImplemented s → wpAny M A (call (.builtin idb) [b, a]) Q E s)
    (hs : ∀ Q : Bool → Shared → Prop, Q false s → wpAny M A (isSame a b) Q E s) (q : Q (.bool false) s) : wpAny M A (richCompare .Eq a b) Q E s := by
  unfold richCompare
  refine wpAny_holding (wpAny_bind (wpAny_cRoomFor hu ?_))
  rw [one]
  refine wpAny_bind (wpAny_typeOf ta (wpAny_bind (wpAny_typeOf tb ?_)))
  simp only [ne, if_true, sub]
  refine wpAny_bind (wpAny_pure ?_)
  simp only [Bool.false_eq_true, if_false, Bool.not_false, if_true]
  refine wpAny_bind (wpAny_tryCompare_declines ta sa (h1 _ ⟨rfl, ?_⟩))
  refine wpAny_bind (wpAny_tryCompare_declines tb sb (h2 _ ⟨rfl, ?_⟩))
  refine wpAny_bind (wpAny_rule (wpAny_bind (hs _ (wpAny_pure q))))
theorem rc_ne_no {M : Model} {A : Around} {E : Value → Shared → Prop} {s : Shared} {a b : Value} {Ta Tb ida idb : String} {Q : Value → Shared → Prop} (ta : s.TypeIs a Ta) (tb : s.TypeIs b Tb) (ne : (Value.type Ta != Value.type Tb) = true) (sub : isSubtype (.type Tb) (.type Ta) = pure false)
    (sa : Slot Ta (cmpInfo .NotEq).2.1 ida) (sb : Slot Tb (cmpInfo .NotEq).2.2 idb) (one : oneThing? .NotEq a b = none) (hu : A.units < cLine)
    (h1 : ∀ Q : Value → Shared → Prop, Q .notImplemented s → wpAny M A (call (.builtin ida) [a, b]) Q E s) (h2 : ∀ Q : Value → Shared → Prop, Q .notImplemented s → wpAny M A (call (.builtin idb) [b, a]) Q E s)
    (hs : ∀ Q : Bool → Shared → Prop, Q false s → wpAny M A (isSame a b) Q E s) (q : Q (.bool true) s) : wpAny M A (richCompare .NotEq a b) Q E s := by
  unfold richCompare
  refine wpAny_holding (wpAny_bind (wpAny_cRoomFor hu ?_))
  rw [one]
  refine wpAny_bind (wpAny_typeOf ta (wpAny_bind (wpAny_typeOf tb ?_)))
  simp only [ne, if_true, sub]
  refine wpAny_bind (wpAny_pure ?_)
  simp only [Bool.false_eq_true, if_false, Bool.not_false, if_true]
  refine wpAny_bind (wpAny_tryCompare_declines ta sa (h1 _ ⟨rfl, ?_⟩))
  refine wpAny_bind (wpAny_tryCompare_declines tb sb (h2 _ ⟨rfl, ?_⟩))
  refine wpAny_bind (wpAny_rule (wpAny_bind (hs _ (wpAny_pure q))))
/-! ### a dict declines what is no dict -/
section
variable {prog : Program} {w : World} {A : Around} {E : Value → Shared → Prop} {s : Shared} {a : Addr} {v : Value} {T : String}
theorem dict_eq_no (ta : s.TypeIs (.ref a) "dict") (tv : s.TypeIs v T) (sub : isSubtype (.type T) (.type "dict") = pure false) (Q : Value → Shared → Prop) (q : Q .notImplemented s) : wpAny (model prog w) A (call (.builtin "dict.__eq__") [.ref a, v]) Q E s := by
  refine wpAny_call_entry PySem.F.slot_dict_eq ta PySem.F.entry_dict_eq ?_ (PySem.F.args_dict_eq_2 _ _)
  refine wpAny_bind ?_
  unfold Builtin.Dict.dictSlotArgs
  refine wpAny_bind (wpAny_notOrdered_dict ta (wpAny_pure (wpAny_bind (wpAny_isInstance (T := T) tv sub ?_))))
  simp only [Bool.not_false, if_true]
  exact wpAny_bind (wpAny_rule (wpAny_pure ⟨_, rfl, q⟩))
theorem dict_ne_no (ta : s.TypeIs (.ref a) "dict") (tv : s.TypeIs v T) (sub : isSubtype (.type T) (.type "dict") = pure false) (Q : Value → Shared → Prop) (q : Q .notImplemented s) : wpAny (model prog w) A (call (.builtin "dict.__ne__") [.ref a, v]) Q E s := by
  refine wpAny_call_entry PySem.F.slot_dict_ne ta PySem.F.entry_dict_ne ?_ (PySem.F.args_dict_ne_2 _ _)
  refine wpAny_bind ?_
  unfold Builtin.Dict.dictSlotArgs
  refine wpAny_bind (wpAny_notOrdered_dict ta (wpAny_pure (wpAny_bind (wpAny_isInstance (T := T) tv sub ?_))))
  simp only [Bool.not_false, if_true]
  exact wpAny_bind (wpAny_rule (wpAny_pure ⟨_, rfl, q⟩))
theorem none_eq_no {a : Addr} (Q : Value → Shared → Prop) (q : Q .notImplemented s) : wpAny (model prog w) A (call (.builtin "NoneType.__eq__") [.none, .ref a]) Q E s := by
  refine wpAny_call_entry PySem.F.slot_NoneType_eq rfl PySem.F.entry_NoneType_eq ?_ (PySem.F.args_NoneType_eq_2 _ _)
  exact wpAny_bind (wpAny_pure (wpAny_pure ⟨_, rfl, q⟩))
theorem none_ne_no {a : Addr} (Q : Value → Shared → Prop) (q : Q .notImplemented s) : wpAny (model prog w) A (call (.builtin "NoneType.__ne__") [.none, .ref a]) Q E s := by
  refine wpAny_call_entry PySem.F.slot_NoneType_ne rfl PySem.F.entry_NoneType_ne ?_ (PySem.F.args_NoneType_ne_2 _ _)
  exact wpAny_bind (wpAny_pure (wpAny_pure ⟨_, rfl, q⟩))
theorem int_eq_no {a : Addr} {i : Int} {t : Tok} {o : Obj} {es : Array DictEntry} {n : Nat} (ho : s.heap.get? a = some o) (hd : o.data = .dict es n) (Q : Value → Shared → Prop) (q : Q .notImplemented s) : wpAny (model prog w) A (call (.builtin "int.__eq__") [.int i t, .ref a]) Q E s := by
  refine wpAny_call_entry PySem.F.slot_int_eq rfl PySem.F.entry_int_eq ?_ (PySem.F.args_int_eq_2 _ _)
  refine wpAny_bind (wpAny_pure (wpAny_bind (wpAny_pure (wpAny_bind ?_))))
  refine wpAny_bind (wpAny_load ho ?_)
  simp only [hd]
  exact wpAny_pure (wpAny_bind (wpAny_rule (wpAny_pure ⟨_, rfl, q⟩)))
theorem str_eq_no {a : Addr} {x : Str} {t : Tok} {o : Obj} {es : Array DictEntry} {n : Nat} (ho : s.heap.get? a = some o) (hd : o.data = .dict es n) (Q : Value → Shared → Prop) (q : Q .notImplemented s) : wpAny (model prog w) A (call (.builtin "str.__eq__") [.str x t, .ref a]) Q E s := by
  refine wpAny_call_entry PySem.F.slot_str_eq rfl PySem.F.entry_str_eq ?_ (PySem.F.args_str_eq_2 _ _)
  refine wpAny_bind (wpAny_bind (wpAny_pure (wpAny_bind (wpAny_pure (wpAny_pure (wpAny_bind ?_))))))
  refine wpAny_bind (wpAny_load ho ?_)
  simp only [hd]
  exact wpAny_pure (wpAny_bind (wpAny_rule (wpAny_pure ⟨_, rfl, q⟩)))
theorem list_eq_no {l a : Addr} (tl : s.TypeIs (.ref l) "list") (ta : s.TypeIs (.ref a) "dict") (Q : Value → Shared → Prop) (q : Q .notImplemented s) : wpAny (model prog w) A (call (.builtin "list.__eq__") [.ref l, .ref a]) Q E s := by
  refine wpAny_call_entry PySem.F.slot_list_eq tl PySem.F.entry_list_eq ?_ (PySem.F.args_list_eq_2 _ _)
  refine wpAny_bind (wpAny_pure (wpAny_bind (wpAny_isInstance (T := "dict") ta (by rfl) ?_)))
  exact wpAny_pure ⟨_, rfl, q⟩
theorem int_ne_no {a : Addr} {i : Int} {t : Tok} {o : Obj} {es : Array DictEntry} {n : Nat} (ho : s.heap.get? a = some o) (hd : o.data = .dict es n) (Q : Value → Shared → Prop) (q : Q .notImplemented s) : wpAny (model prog w) A (call (.builtin "int.__ne__") [.int i t, .ref a]) Q E s := by
  refine wpAny_call_entry PySem.F.slot_int_ne rfl PySem.F.entry_int_ne ?_ (PySem.F.args_int_ne_2 _ _)
  refine wpAny_bind (wpAny_pure (wpAny_bind (wpAny_pure (wpAny_bind ?_))))
  refine wpAny_bind (wpAny_load ho ?_)
  simp only [hd]
  exact wpAny_pure (wpAny_bind (wpAny_rule (wpAny_pure ⟨_, rfl, q⟩)))
theorem str_ne_no {a : Addr} {x : Str} {t : Tok} {o : Obj} {es : Array DictEntry} {n : Nat} (ho : s.heap.get? a = some o) (hd : o.data = .dict es n) (Q : Value → Shared → Prop) (q : Q .notImplemented s) : wpAny (model prog w) A (call (.builtin "str.__ne__") [.str x t, .ref a]) Q E s := by
  refine wpAny_call_entry PySem.F.slot_str_ne rfl PySem.F.entry_str_ne ?_ (PySem.F.args_str_ne_2 _ _)
  refine wpAny_bind (wpAny_bind (wpAny_pure (wpAny_bind (wpAny_pure (wpAny_pure (wpAny_bind ?_))))))
  refine wpAny_bind (wpAny_load ho ?_)
  simp only [hd]
  exact wpAny_pure (wpAny_bind (wpAny_rule (wpAny_pure ⟨_, rfl, q⟩)))
theorem list_ne_no {l a : Addr} (tl : s.TypeIs (.ref l) "list") (ta : s.TypeIs (.ref a) "dict") (Q : Value → Shared → Prop) (q : Q .notImplemented s) : wpAny (model prog w) A (call (.builtin "list.__ne__") [.ref l, .ref a]) Q E s := by
  refine wpAny_call_entry PySem.F.slot_list_ne tl PySem.F.entry_list_ne ?_ (PySem.F.args_list_ne_2 _ _)
  refine wpAny_bind (wpAny_pure (wpAny_bind (wpAny_isInstance (T := "dict") ta (by rfl) ?_)))
  exact wpAny_pure ⟨_, rfl, q⟩
end

/-! ### == of any two documents -/
open Classical in
noncomputable def deq (d e : D) : Bool := decide (d = e)
open Classical in
theorem deq_t {d e : D} (h : d = e) : deq d e = true := by unfold deq; exact decide_eq_true h
open Classical in
theorem deq_f {d e : D} (h : d ≠ e) : deq d e = false := by unfold deq; exact decide_eq_false h
open Classical in
theorem deq_iff {d e : D} : deq d e = true ↔ d = e := by unfold deq; exact decide_eq_true_iff
theorem bool_of {b c : Bool} (h : b = true ↔ c = true) : b = c := by cases b <;> cases c <;> simp_all
section
variable {P : Program} {w : World} {A : Around} {s : Shared}
theorem eqP_rc {v u : Value} {k : Bool} (ne : (v == u) = false) (h : (∃ a, v = .ref a) ∨ ∃ a, u = .ref a) (rc : ∀ (E Q : Value → Shared → Prop), Q (.bool k) s → wpAny (model P w) A (richCompare .Eq v u) Q E s) : SeqAt.EqP P w A s v u k := by
  intro E Q q
  unfold eqBool
  refine wpAny_holding ?_
  rw [ne]
  simp only [Bool.false_eq_true, if_false]
  have fin : wpAny (model P w) A (do let r ← richCompare .Eq v u; truthOfDropped r) Q E s := wpAny_bind (rc _ _ (by show wpAny _ _ (truthOfDropped (.bool k)) Q E s; exact wpAny_pure q))
  rcases h with ⟨a, rfl⟩ | ⟨a, rfl⟩
  · exact fin
  · cases v <;> exact fin
end
section
variable {X : Cx} {pins : List (Addr × Obj)} {σ : L2.St} {H : Hp} {s : Shared}
theorem dk_obj (I : Inv X pins σ H s) {a : Addr} {kvs : List (Key × V)} (h : H a = some (.dK kvs)) : s.TypeIs (.ref a) "dict" ∧ ∃ o es n, s.heap.get? a = some o ∧ o.data = .dict es n ∧ o.cls = .type "dict" := by
  obtain ⟨_, _, _, _, da⟩ := dk_rd I.hok (.inl h)
  have t := da.typeIs
  obtain ⟨o, es, n, h1, h2, h3, _⟩ := da
  obtain ⟨o', g1, g2⟩ := t
  rw [h1] at g1
  cases g1
  exact ⟨⟨o, h1, g2⟩, o, es, n, h1, h3, g2⟩
/-- an atom and a dict -/
theorem sc_dict (I : Inv X pins σ H s) {A : Around} (hu : A.units < cLine) {x : V} {v : Value} {a : Addr} {kvs : List (Key × V)} (hx : isSc x = true) (r : RelV x v) (h : H a = some (.dK kvs)) : SeqAt.EqP X.prog X.w A s v (.ref a) false ∧ SeqAt.EqP X.prog X.w A s (.ref a) v false := by
  obtain ⟨ta, o, es, n, ho, hd, _⟩ := dk_obj I h
  cases x with
  | non =>
    cases (show v = Value.none from r)
    exact ⟨eqP_rc rfl (.inr ⟨_, rfl⟩) fun E Q q => rc_eq_no (Ta := "NoneType") (Tb := "dict") rfl ta (by decide) (by rfl) PySem.F.slot_NoneType_eq PySem.F.slot_dict_eq_refl rfl hu (fun Q q => none_eq_no Q q) (fun Q q => dict_eq_no (T := "NoneType") (v := .none) ta rfl (by rfl) Q q) (fun Q q => wpAny_pure q) q,
      eqP_rc rfl (.inl ⟨_, rfl⟩) fun E Q q => rc_eq_no (Ta := "dict") (Tb := "NoneType") ta rfl (by decide) (by rfl) PySem.F.slot_dict_eq PySem.F.slot_NoneType_eq_refl rfl hu (fun Q q => dict_eq_no (T := "NoneType") (v := .none) ta rfl (by rfl) Q q) (fun Q q => none_eq_no Q q) (fun Q q => wpAny_pure q) q⟩
  | int i =>
    obtain ⟨t, rfl⟩ := (show ∃ t, v = Value.int i t from r)
    exact ⟨eqP_rc rfl (.inr ⟨_, rfl⟩) fun E Q q => rc_eq_no (Ta := "int") (Tb := "dict") rfl ta (by decide) (by rfl) PySem.F.slot_int_eq PySem.F.slot_dict_eq_refl rfl hu (fun Q q => int_eq_no ho hd Q q) (fun Q q => dict_eq_no (T := "int") (v := .int i t) ta rfl (by rfl) Q q) (fun Q q => wpAny_pure q) q,
      eqP_rc rfl (.inl ⟨_, rfl⟩) fun E Q q => rc_eq_no (Ta := "dict") (Tb := "int") ta rfl (by decide) (by rfl) PySem.F.slot_dict_eq PySem.F.slot_int_eq_refl rfl hu (fun Q q => dict_eq_no (T := "int") (v := .int i t) ta rfl (by rfl) Q q) (fun Q q => int_eq_no ho hd Q q) (fun Q q => wpAny_pure q) q⟩
  | str y =>
    obtain ⟨t, rfl⟩ := (show ∃ t, v = Value.str y t from r)
    exact ⟨eqP_rc rfl (.inr ⟨_, rfl⟩) fun E Q q => rc_eq_no (Ta := "str") (Tb := "dict") rfl ta (by decide) (by rfl) PySem.F.slot_str_eq PySem.F.slot_dict_eq_refl rfl hu (fun Q q => str_eq_no ho hd Q q) (fun Q q => dict_eq_no (T := "str") (v := .str y t) ta rfl (by rfl) Q q) (fun Q q => wpAny_pure q) q,
      eqP_rc rfl (.inl ⟨_, rfl⟩) fun E Q q => rc_eq_no (Ta := "dict") (Tb := "str") ta rfl (by decide) (by rfl) PySem.F.slot_dict_eq PySem.F.slot_str_eq_refl rfl hu (fun Q q => dict_eq_no (T := "str") (v := .str y t) ta rfl (by rfl) Q q) (fun Q q => str_eq_no ho hd Q q) (fun Q q => wpAny_pure q) q⟩
  | _ => cases hx
/-- a list and a dict -/
theorem ls_dict (I : Inv X pins σ H s) {A : Around} (hu : A.units < cLine) {l a : Addr} {xs : List V} {kvs : List (Key × V)} (hl : H l = some (.lst xs)) (h : H a = some (.dK kvs)) : SeqAt.EqP X.prog X.w A s (.ref l) (.ref a) false ∧ SeqAt.EqP X.prog X.w A s (.ref a) (.ref l) false := by
  obtain ⟨ta, o, es, n, ho, hd, hc⟩ := dk_obj I h
  obtain ⟨us, _, p1, _⟩ := I.list (.inl (.inl hl))
  obtain ⟨ol, g1, g2⟩ : s.TypeIs (.ref l) "list" := p1.isList.typeIs
  have tl : s.TypeIs (.ref l) "list" := ⟨ol, g1, g2⟩
  have ne : l ≠ a := fun z => by rw [z, h] at hl; cases hl
  refine ⟨SeqAt.eqP_refs ne fun E Q q => rc_eq_no (Ta := "list") (Tb := "dict") tl ta (by decide) (by rfl) PySem.F.slot_list_eq PySem.F.slot_dict_eq_refl rfl hu (fun Q q => list_eq_no tl ta Q q) (fun Q q => dict_eq_no (T := "list") ta tl (by rfl) Q q) (fun Q q => wpAny_isSame_ref_other ne g1 ho (by rw [g2]; decide) q) q,
    SeqAt.eqP_refs ne.symm fun E Q q => rc_eq_no (Ta := "dict") (Tb := "list") ta tl (by decide) (by rfl) PySem.F.slot_dict_eq PySem.F.slot_list_eq_refl rfl hu (fun Q q => dict_eq_no (T := "list") ta tl (by rfl) Q q) (fun Q q => list_eq_no tl ta Q q) (fun Q q => wpAny_isSame_ref_other ne.symm ho g1 (by rw [hc]; decide) q) q⟩
/-- two atoms -/
theorem sc_at {A : Around} {x y : V} {v u : Value} (hx : isSc x = true) (hy : isSc y = true) (r : RelV x v) (r' : RelV y u) : SeqAt.EqAt A s v u (deq (.sc x) (.sc y)) := by
  have no : x ≠ y → deq (.sc x) (.sc y) = false := fun n => deq_f fun z => n (by injection z)
  by_cases e : x = y
  · subst e
    rw [deq_t rfl]
    exact eqAt_same r r' (flat_sc hx)
  · rw [no e]
    cases x with
    | non =>
      cases (show v = Value.none from r)
      cases y with
      | non => exact absurd rfl e
      | int j => obtain ⟨t, rfl⟩ := (show ∃ t, u = Value.int j t from r'); exact SeqAt.EqAt.none_int _ _
      | str z => obtain ⟨t, rfl⟩ := (show ∃ t, u = Value.str z t from r'); exact SeqAt.EqAt.none_str _ _
      | _ => cases hy
    | int i =>
      obtain ⟨t, rfl⟩ := (show ∃ t, v = Value.int i t from r)
      cases y with
      | non => cases (show u = Value.none from r'); exact SeqAt.EqAt.int_none _ _
      | int j =>
        obtain ⟨t', rfl⟩ := (show ∃ t, u = Value.int j t from r')
        have := SeqAt.EqAt.int_int (A := A) (s := s) i t j t'
        rwa [show (i == j) = false from beq_eq_false_iff_ne.mpr fun z => e (by rw [z])] at this
      | str z => obtain ⟨t', rfl⟩ := (show ∃ t, u = Value.str z t from r'); exact SeqAt.EqAt.int_str _ _ _ _
      | _ => cases hy
    | str i =>
      obtain ⟨t, rfl⟩ := (show ∃ t, v = Value.str i t from r)
      cases y with
      | non => cases (show u = Value.none from r'); exact SeqAt.EqAt.str_none _ _
      | int j => obtain ⟨t', rfl⟩ := (show ∃ t, u = Value.int j t from r'); exact SeqAt.EqAt.str_int _ _ _ _
      | str z =>
        obtain ⟨t', rfl⟩ := (show ∃ t, u = Value.str z t from r')
        have := SeqAt.EqAt.str_str (A := A) (s := s) i t z t'
        rwa [show (i == z) = false from beq_eq_false_iff_ne.mpr fun q => e (by rw [q])] at this
      | _ => cases hy
    | _ => cases hx
theorem sc_sc {A : Around} {x y : V} {v u : Value} (hx : isSc x = true) (hy : isSc y = true) (r : RelV x v) (r' : RelV y u) : SeqAt.EqP X.prog X.w A s v u (deq (.sc x) (.sc y)) := (sc_at hx hy r r').eqP
/-- an atom and a list -/
theorem sc_list (I : Inv X pins σ H s) {A : Around} (hu : A.units < cLine) {x : V} {v : Value} {a : Addr} {xs : List V} (hx : isSc x = true) (r : RelV x v) (h : H a = some (.lst xs)) : SeqAt.EqP X.prog X.w A s v (.ref a) false ∧ SeqAt.EqP X.prog X.w A s (.ref a) v false := by
  obtain ⟨us, _, p1, _⟩ := I.list (.inl (.inl h))
  have l := p1.isList
  cases x with
  | non => cases (show v = Value.none from r); exact ⟨(SeqAt.EqAt.none_list l hu).eqP, (SeqAt.EqAt.list_none l hu).eqP⟩
  | int i => obtain ⟨t, rfl⟩ := (show ∃ t, v = Value.int i t from r); exact ⟨(SeqAt.EqAt.int_list _ _ l hu).eqP, (SeqAt.EqAt.list_int _ _ l hu).eqP⟩
  | str i => obtain ⟨t, rfl⟩ := (show ∃ t, v = Value.str i t from r); exact ⟨(SeqAt.EqAt.str_list _ _ l hu).eqP, (SeqAt.EqAt.list_str _ _ l hu).eqP⟩
  | _ => cases hx
theorem vals_at : ∀ {zs : List V} {us : List Value}, Vals zs us → ∀ j (h1 : j < us.length), ∃ h : j < zs.length, RelV zs[j] us[j]
  | _, _, .nil, j, h1 => absurd h1 (Nat.not_lt_zero j)
  | _, _, .cons r _, 0, _ => ⟨Nat.zero_lt_succ _, r⟩
  | _, _, .cons _ rs, j + 1, h1 => let ⟨h, q⟩ := vals_at rs j (Nat.lt_of_succ_lt_succ h1); ⟨Nat.succ_lt_succ h, q⟩
/-- two lists of atoms -/
theorem ls_ls (I : Inv X pins σ H s) {A : Around} (hu : A.units + 1 < cLine) {a b : Addr} {xs ys : List V} (h : H a = some (.lst xs)) (h' : H b = some (.lst ys)) (hx : ∀ x ∈ xs, isSc x = true) (hy : ∀ y ∈ ys, isSc y = true) : SeqAt.EqP X.prog X.w A s (.ref a) (.ref b) (deq (.ls xs) (.ls ys)) := by
  by_cases e : a = b
  · subst e
    rw [h] at h'
    cases h'
    rw [deq_t rfl]
    exact (SeqAt.EqAt.same _).eqP
  obtain ⟨us, r1, p1, _⟩ := I.list (.inl (.inl h))
  obtain ⟨ws, r2, p2, _⟩ := I.list (.inl (.inl h'))
  by_cases hl : xs.length = ys.length
  · have hl' : us.length = ws.length := by rw [← r1.length, ← r2.length, hl]
    refine SeqAt.eqP_refs e fun E Q q => SeqAt.rcP_lists (e := fun j => deq (.sc (xs.getD j .non)) (.sc (ys.getD j .non))) p1.isList p2.isList (by rw [List.size_toArray, List.size_toArray, hl']) (by omega) (fun j h1 h2 => ?_) E Q ?_
    · have h1 : j < us.length := by simpa using h1
      have h2 : j < ws.length := by simpa using h2
      obtain ⟨k1, q1⟩ := vals_at r1 j h1
      obtain ⟨k2, q2⟩ := vals_at r2 j h2
      have := sc_sc (X := X) (s := s) (A := A.in1) (hx _ (List.getElem_mem k1)) (hy _ (List.getElem_mem k2)) q1 q2
      simpa [List.getD_eq_getElem?_getD, k1, k2] using this
    · have : deq (.ls xs) (.ls ys) = (List.range us.toArray.size).all fun j => deq (.sc (xs.getD j .non)) (.sc (ys.getD j .non)) := by
        refine bool_of ?_
        rw [deq_iff, List.all_eq_true, List.size_toArray, ← r1.length]
        constructor
        · intro z j _
          injection z with z
          rw [z]
          exact deq_t rfl
        · intro z
          congr 1
          refine List.ext_getElem hl fun j h1 h2 => ?_
          have := deq_iff.mp (z j (List.mem_range.mpr h1))
          injection this with this
          simpa [List.getD_eq_getElem?_getD, h1, h2] using this
      rw [← this]
      exact q
  · rw [deq_f fun z => hl (by injection z with z; rw [z])]
    refine SeqAt.eqP_refs e fun E Q q => SeqAt.RcAt.lists_lengths p1.isList p2.isList ?_ (by omega) _ _ E Q q
    rw [List.size_toArray, List.size_toArray, ← r1.length, ← r2.length]
    exact bne_iff_ne.mpr hl
/-- one value stands for one document -/
theorem dc_det {S S' : Addr → Prop} {G G' : Gen} {H : Hp} : ∀ {n m : Nat} {v : V} {d e : D}, Dc S G H n v d → Dc S' G' H m v e → d = e
  | 0, _, _, _, _, h, _ => (show False from h).elim
  | _ + 1, 0, _, _, _, _, h => (show False from h).elim
  | n + 1, m + 1, v, d, e, h, h' => by
    rcases h with ⟨hv, rfl⟩ | ⟨a, xs, rfl, s1, r, hx, rfl⟩ | ⟨a, ms, f, rfl, s1, r, nd, ks, rfl, no, at'⟩
    · rcases h' with ⟨_, rfl⟩ | ⟨b, ys, rfl, _⟩ | ⟨b, ms', f', rfl, _⟩
      · rfl
      · exact nomatch G.sc _ hv
      · exact nomatch G.sc _ hv
    · rcases h' with ⟨hv, _⟩ | ⟨b, ys, z, s', r', hy, rfl⟩ | ⟨b, ms', f', z, s', r', _⟩
      · exact nomatch G'.sc _ hv
      · cases z; rw [r] at r'; cases r'; rfl
      · cases z; rw [r] at r'; cases r'
    · rcases h' with ⟨hv, _⟩ | ⟨b, ys, z, s', r', hy, rfl⟩ | ⟨b, ms', f', z, s', r', nd', ks', rfl, no', at''⟩
      · exact nomatch G'.sc _ hv
      · cases z; rw [r] at r'; cases r'
      · cases z
        rw [r] at r'
        have e' : kvsOf ms = kvsOf ms' := by injection r' with r'; injection r'
        have vv : ∀ j, valV ms' j = valV ms j := fun j => by rw [← valV_inK, ← valV_inK, e']
        congr 1
        funext k
        cases hk : valV ms k with
        | none => rw [no k hk, no' k (by rw [vv]; exact hk)]
        | some u => exact dc_det (at' k u hk) (at'' k u (by rw [vv]; exact hk))
theorem hits_dec {Pg : Program} {w : World} {A : Around} {S S' : Addr → Prop} {G G' : Gen} {n m : Nat} {ms' : List (Str × V)} {f f' : Str → D} (M' : Mem S' G' H m ms' f') {vb : List (Key × Value)} (rb : KV (kvsOf ms') vb)
    (run : ∀ (x y : V) (d e : D) (v u : Value), Dc S G H n x d → Dc S' G' H m y e → RelV x v → RelV y u → SeqAt.EqP Pg w A s v u (deq d e)) : ∀ {ms : List (Str × V)} {va : List (Key × Value)}, KV (kvsOf ms) va → (∀ p ∈ ms, Dc S G H n p.2 (f p.1)) → ∃ r, PySem.W.KeqHitsP Pg w A s vb va r ∧ (r = true ↔ ∀ p ∈ ms, f p.1 = f' p.1)
  | [], _, .nil, _ => ⟨true, .nil, ⟨fun _ p hp => (nomatch hp), fun _ => rfl⟩⟩
  | p :: ms, _, .cons (b := q) ⟨hk, rv⟩ rs, h => by
    obtain ⟨r, hr, hi⟩ := hits_dec M' rb run rs fun p hp => h p (List.mem_cons_of_mem _ hp)
    have hp := h p List.mem_cons_self
    have ro := KV.val rb q.1
    rw [← hk] at ro
    have ro : RelO (valV (kvsOf ms') (Sum.inr p.1)) (valueAt vb q.1) := by rw [← hk]; exact ro
    rw [valV_inK] at ro
    obtain ⟨qk, qv⟩ := q
    cases e : valV ms' p.1 with
    | none =>
      rw [e] at ro
      have nn : valueAt vb qk = none := by
        cases z : valueAt vb qk with
        | none => rfl
        | some y => rw [z] at ro; exact ro.elim
      refine ⟨false, .miss nn, ⟨fun z => (nomatch z), fun z => ?_⟩⟩
      have := z p List.mem_cons_self
      rw [M'.no _ e] at this
      have ne := hp.ne_nil
      rw [this] at ne
      cases ne
    | some u =>
      rw [e] at ro
      obtain ⟨y, hy, ry⟩ : ∃ y, valueAt vb qk = some y ∧ RelV u y := by
        cases z : valueAt vb qk with
        | none => rw [z] at ro; exact ro.elim
        | some y => rw [z] at ro; exact ⟨y, rfl, ro⟩
      refine ⟨_, .hit hy (run _ _ _ _ _ _ hp (M'.at' _ _ e) rv ry) hr, ?_⟩
      rw [Bool.and_eq_true, deq_iff, hi]
      constructor
      · rintro ⟨z1, z2⟩ p' hp'
        rcases List.mem_cons.mp hp' with rfl | hp'
        · exact z1
        · exact z2 p' hp'
      · exact fun z => ⟨z p List.mem_cons_self, fun p' hp' => z p' (List.mem_cons_of_mem _ hp')⟩
/-- same members -/
theorem ob_iff {S S' : Addr → Prop} {G G' : Gen} {n m : Nat} {ms ms' : List (Str × V)} {f f' : Str → D} (h : Mem S G H n ms f) (h' : Mem S' G' H m ms' f') : D.ob f = D.ob f' ↔ ms.length = ms'.length ∧ ∀ p ∈ ms, f p.1 = f' p.1 := by
  constructor
  · intro e
    injection e with e
    subst e
    exact ⟨(ob_keys h h').1, fun _ _ => rfl⟩
  · rintro ⟨hl, z⟩
    congr 1
    funext k
    by_cases hk : k ∈ ms.map (·.1)
    · obtain ⟨p, hp, rfl⟩ := List.mem_map.mp hk
      exact z p hp
    · rw [h.no k (valV_none_of hk)]
      have sub : ∀ j ∈ ms.map (·.1), j ∈ ms'.map (·.1) := fun j hj => by
        obtain ⟨p, hp, rfl⟩ := List.mem_map.mp hj
        refine Classical.byContradiction fun n => ?_
        have e := z p hp
        rw [h'.no p.1 (valV_none_of n)] at e
        have ne := (h.at' p.1 p.2 (valV_of_mem h.nd hp)).ne_nil
        rw [e] at ne
        cases ne
      refine (h'.no k (valV_none_of fun hk' => ?_)).symm
      have := sub_len (xs := k :: ms.map (·.1)) (ys := ms'.map (·.1)) (List.nodup_cons.mpr ⟨hk, h.nd⟩) (fun j hj => (List.mem_cons.mp hj).elim (fun e => by rw [e]; exact hk') (sub j))
      rw [List.length_cons, List.length_map, List.length_map] at this
      omega
/-- any two documents compared -/
theorem docs_dec (I : Inv X pins σ H s) {S S' : Addr → Prop} {G G' : Gen} : ∀ (n m : Nat) (A : Around) (x y : V) (d e : D) (v u : Value), A.units + n + 1 < cLine → Dc S G H n x d → Dc S' G' H m y e → RelV x v → RelV y u → SeqAt.EqP X.prog X.w A s v u (deq d e)
  | 0, _, _, _, _, _, _, _, _, _, h, _, _, _ => (show False from h).elim
  | _ + 1, 0, _, _, _, _, _, _, _, _, _, h, _, _ => (show False from h).elim
  | n + 1, m + 1, A, x, y, d, e, v, u, hu, h, h', rx, ry => by
    rcases id h with ⟨hx, rfl⟩ | ⟨a, xs, rfl, s1, r, hx, rfl⟩ | ⟨a, ms, f, rfl, s1, r, nd, ks, rfl, no, at'⟩
    · rcases id h' with ⟨hy, rfl⟩ | ⟨b, ys, rfl, s', r', hy, rfl⟩ | ⟨b, ms', f', rfl, s', r', nd', ks', rfl, no', at''⟩
      · exact sc_sc (G.sc _ hx) (G'.sc _ hy) rx ry
      · cases (show u = Value.ref b from ry)
        rw [deq_f (show D.sc x ≠ D.ls ys from fun z => nomatch z)]
        exact (sc_list I (by omega) (G.sc _ hx) rx r').1
      · cases (show u = Value.ref b from ry)
        rw [deq_f (show D.sc x ≠ D.ob f' from fun z => nomatch z)]
        exact (sc_dict I (by omega) (G.sc _ hx) rx r').1
    · cases (show v = Value.ref a from rx)
      rcases id h' with ⟨hy, rfl⟩ | ⟨b, ys, rfl, s', r', hy, rfl⟩ | ⟨b, ms', f', rfl, s', r', nd', ks', rfl, no', at''⟩
      · rw [deq_f (show D.ls xs ≠ D.sc y from fun z => nomatch z)]
        exact (sc_list I (by omega) (G'.sc _ hy) ry r).2
      · cases (show u = Value.ref b from ry)
        exact ls_ls I (by omega) r r' (fun x z => G.sc _ (hx.2 x z)) fun y z => G'.sc _ (hy.2 y z)
      · cases (show u = Value.ref b from ry)
        rw [deq_f (show D.ls xs ≠ D.ob f' from fun z => nomatch z)]
        exact (ls_dict I (by omega) r r').1
    · cases (show v = Value.ref a from rx)
      rcases id h' with ⟨hy, rfl⟩ | ⟨b, ys, rfl, s', r', hy, rfl⟩ | ⟨b, ms', f', rfl, s', r', nd', ks', rfl, no', at''⟩
      · rw [deq_f (show D.ob f ≠ D.sc y from fun z => nomatch z)]
        exact (sc_dict I (by omega) (G'.sc _ hy) ry r).2
      · cases (show u = Value.ref b from ry)
        rw [deq_f (show D.ob f ≠ D.ls ys from fun z => nomatch z)]
        exact (ls_dict I (by omega) r' r).2
      · cases (show u = Value.ref b from ry)
        by_cases e : a = b
        · subst e
          rw [deq_t (dc_det h h')]
          exact (SeqAt.EqAt.same _).eqP
        have M : Mem S G H n ms f := ⟨nd, ks, no, at'⟩
        have M' : Mem S' G' H m ms' f' := ⟨nd', ks', no', at''⟩
        obtain ⟨_, ya, va, ra, da⟩ := dk_rd I.hok (.inl r)
        obtain ⟨_, yb, vb, rb, db⟩ := dk_rd I.hok (.inl r')
        obtain ⟨b', hb, hi⟩ := hits_dec (A := A.in1) (f := f) M' rb (fun x y d e v u h1 h2 r1 r2 => docs_dec I n m A.in1 x y d e v u (show A.units + 1 + n + 1 < cLine by omega) h1 h2 r1 r2) ra fun p hp => M.at' p.1 p.2 (valV_of_mem nd hp)
        refine SeqAt.eqP_refs e fun E Q q => PySem.W.rcP_dicts (knd := mixKind X.prog X.w) (r := b') ya yb da db (by omega) (fun _ => hb) E Q ?_
        have : (va.length == vb.length && b') = deq (.ob f) (.ob f') := by
          refine bool_of ?_
          rw [Bool.and_eq_true, deq_iff, ob_iff M M', hi, beq_iff_eq, ← ra.length, ← rb.length, List.length_map, List.length_map]
        rw [this]
        exact q
end
end TP

namespace TP
open PySem PySem.Spec PyProof.Rows L2
section
variable {X : Cx}
def rEqD2 : R2 := fun x y H Q => ∃ (S S' : Addr → Prop) (G G' : Gen) (n m : Nat) (d e : D), n ≤ 40 ∧ Dc S G H n x d ∧ Dc S' G' H m y e ∧ Q (.bl (deq d e)) H
def rNeD2 : R2 := fun x y H Q => ∃ (S S' : Addr → Prop) (G G' : Gen) (n m : Nat) (d e : D), n ≤ 40 ∧ Dc S G H n x d ∧ Dc S' G' H m y e ∧ Q (.bl (!deq d e)) H
theorem deq_sc (x y : V) : deq (.sc x) (.sc y) = decide (x = y) := by
  refine bool_of ?_
  rw [deq_iff, decide_eq_true_iff]
  exact ⟨fun z => by injection z, fun z => by rw [z]⟩
theorem scal_two : ∀ {x y : V}, isSc x = true → isSc y = true → scal x y = true
  | .non, .non, _, _ => by simp [scal]
  | .non, .int _, _, _ => by simp [scal]
  | .non, .str _, _, _ => by simp [scal]
  | .int _, .non, _, _ => by simp [scal]
  | .int _, .int _, _, _ => by simp [scal]
  | .int _, .str _, _, _ => by simp [scal]
  | .str _, .non, _, _ => by simp [scal]
  | .str _, .int _, _, _ => by simp [scal]
  | .str _, .str _, _, _ => by simp [scal]
theorem ls_items {A : Around} {s : Shared} {xs ys : List V} {us ws : List Value} (hl : xs.length = ys.length) (r1 : Vals xs us) (r2 : Vals ys ws) (hx : ∀ x ∈ xs, isSc x = true) (hy : ∀ y ∈ ys, isSc y = true) : ∀ (j : Nat) (h1 : j < us.length) (h2 : j < ws.length), SeqAt.EqAt A s us[j] ws[j] (deq (.sc (xs.getD j .non)) (.sc (ys.getD j .non))) := fun j h1 h2 => by
  obtain ⟨k1, q1⟩ := vals_at r1 j h1
  obtain ⟨k2, q2⟩ := vals_at r2 j h2
  have := sc_at (A := A) (s := s) (hx _ (List.getElem_mem k1)) (hy _ (List.getElem_mem k2)) q1 q2
  simpa [List.getD_eq_getElem?_getD, k1, k2] using this
theorem ls_all {xs ys : List V} (hl : xs.length = ys.length) : deq (.ls xs) (.ls ys) = (List.range xs.length).all fun j => deq (.sc (xs.getD j .non)) (.sc (ys.getD j .non)) := by
  refine bool_of ?_
  rw [deq_iff, List.all_eq_true]
  constructor
  · intro z j _
    injection z with z
    rw [z]
    exact deq_t rfl
  · intro z
    congr 1
    refine List.ext_getElem hl fun j h1 h2 => ?_
    have := deq_iff.mp (z j (List.mem_range.mpr h1))
    injection this with this
    simpa [List.getD_eq_getElem?_getD, h1, h2] using this
theorem op_neD2 (hu : X.A.units + 64 < cLine) : OpR X (compareOp .NotEq) rNeD2 := by
  intro pins s σ H x y v u Q I rx ry h
  obtain ⟨S, S', G, G', n, m, d, e, hn, h, h', q⟩ := h
  cases n with
  | zero => exact (show False from h).elim
  | succ n =>
  cases m with
  | zero => exact (show False from h').elim
  | succ m =>
    have fin : ∀ b : Bool, Q (.bl b) H → EP X pins σ Q (.bool b) s := fun b z => ⟨.bl b, H, I, rfl, z⟩
    have hu0 : X.A.units < cLine := by omega
    rcases id h with ⟨hx, rfl⟩ | ⟨a, xs, rfl, s1, r, hx, rfl⟩ | ⟨a, ms, f, rfl, s1, r, nd, ks, rfl, no, at'⟩
    · have cx := G.sc _ hx
      rcases id h' with ⟨hy, rfl⟩ | ⟨b, ys, rfl, s', r', hy, rfl⟩ | ⟨b, ms', f', rfl, s', r', nd', ks', rfl, no', at''⟩
      · refine op_ne pins s σ H x y v u Q I rx ry ⟨scal_two cx (G'.sc _ hy), ?_⟩
        rw [deq_sc] at q
        exact q
      · cases (show u = Value.ref b from ry)
        rw [deq_f (show D.sc x ≠ D.ls ys from fun z => nomatch z)] at q
        obtain ⟨us, _, p1, _⟩ := I.list (.inl (.inl r'))
        have l := p1.isList
        cases x with
        | non => cases (show v = Value.none from rx); exact SeqAt.RcNeAt.none_list l hu0 _ _ _ _ (fin _ q)
        | int i => obtain ⟨t, rfl⟩ := (show ∃ t, v = Value.int i t from rx); exact SeqAt.RcNeAt.int_list _ _ l hu0 _ _ _ _ (fin _ q)
        | str i => obtain ⟨t, rfl⟩ := (show ∃ t, v = Value.str i t from rx); exact SeqAt.RcNeAt.str_list _ _ l hu0 _ _ _ _ (fin _ q)
        | _ => cases cx
      · cases (show u = Value.ref b from ry)
        rw [deq_f (show D.sc x ≠ D.ob f' from fun z => nomatch z)] at q
        obtain ⟨ta, o, es, n, ho, hd, _⟩ := dk_obj I r'
        cases x with
        | non => cases (show v = Value.none from rx); exact rc_ne_no (Ta := "NoneType") (Tb := "dict") rfl ta (by decide) (by rfl) PySem.F.slot_NoneType_ne PySem.F.slot_dict_ne_refl rfl hu0 (fun Q q => none_ne_no Q q) (fun Q q => dict_ne_no (T := "NoneType") (v := .none) ta rfl (by rfl) Q q) (fun Q q => wpAny_pure q) (fin _ q)
        | int i => obtain ⟨t, rfl⟩ := (show ∃ t, v = Value.int i t from rx); exact rc_ne_no (Ta := "int") (Tb := "dict") rfl ta (by decide) (by rfl) PySem.F.slot_int_ne PySem.F.slot_dict_ne_refl rfl hu0 (fun Q q => int_ne_no ho hd Q q) (fun Q q => dict_ne_no (T := "int") (v := .int i t) ta rfl (by rfl) Q q) (fun Q q => wpAny_pure q) (fin _ q)
        | str i => obtain ⟨t, rfl⟩ := (show ∃ t, v = Value.str i t from rx); exact rc_ne_no (Ta := "str") (Tb := "dict") rfl ta (by decide) (by rfl) PySem.F.slot_str_ne PySem.F.slot_dict_ne_refl rfl hu0 (fun Q q => str_ne_no ho hd Q q) (fun Q q => dict_ne_no (T := "str") (v := .str i t) ta rfl (by rfl) Q q) (fun Q q => wpAny_pure q) (fin _ q)
        | _ => cases cx
    · cases (show v = Value.ref a from rx)
      obtain ⟨us, r1, p1, _⟩ := I.list (.inl (.inl r))
      have l := p1.isList
      rcases id h' with ⟨hy, rfl⟩ | ⟨b, ys, rfl, s', r', hy, rfl⟩ | ⟨b, ms', f', rfl, s', r', nd', ks', rfl, no', at''⟩
      · rw [deq_f (show D.ls xs ≠ D.sc y from fun z => nomatch z)] at q
        have cy := G'.sc _ hy
        cases y with
        | non => cases (show u = Value.none from ry); exact SeqAt.RcNeAt.list_none l hu0 _ _ _ _ (fin _ q)
        | int i => obtain ⟨t, rfl⟩ := (show ∃ t, u = Value.int i t from ry); exact SeqAt.RcNeAt.list_int _ _ l hu0 _ _ _ _ (fin _ q)
        | str i => obtain ⟨t, rfl⟩ := (show ∃ t, u = Value.str i t from ry); exact SeqAt.RcNeAt.list_str _ _ l hu0 _ _ _ _ (fin _ q)
        | _ => cases cy
      · cases (show u = Value.ref b from ry)
        obtain ⟨ws, r2, p2, _⟩ := I.list (.inl (.inl r'))
        by_cases hl : xs.length = ys.length
        · refine SeqAt.RcNeAt.lists (e := fun j => deq (.sc (xs.getD j .non)) (.sc (ys.getD j .non))) l p2.isList (by rw [List.size_toArray, List.size_toArray, ← r1.length, ← r2.length, hl]) hu0 (fun j h1 h2 => ?_) _ _ _ _ ?_
          · simpa using ls_items hl r1 r2 (fun x z => G.sc _ (hx.2 x z)) (fun y z => G'.sc _ (hy.2 y z)) j (by simpa using h1) (by simpa using h2)
          · rw [ls_all hl] at q
            rw [List.size_toArray, ← r1.length]
            exact fin _ q
        · rw [deq_f (show D.ls xs ≠ D.ls ys from fun z => hl (by injection z with z; rw [z]))] at q
          refine SeqAt.RcNeAt.lists_lengths l p2.isList (by rw [List.size_toArray, List.size_toArray, ← r1.length, ← r2.length]; exact bne_iff_ne.mpr hl) hu0 _ _ _ _ (fin _ q)
      · cases (show u = Value.ref b from ry)
        rw [deq_f (show D.ls xs ≠ D.ob f' from fun z => nomatch z)] at q
        obtain ⟨ta, o, es, n, ho, hd, hc⟩ := dk_obj I r'
        have tl : s.TypeIs (.ref a) "list" := l.typeIs
        obtain ⟨ol, g1, g2⟩ := id tl
        have ne : a ≠ b := fun z => by rw [z, r'] at r; cases r
        exact rc_ne_no (Ta := "list") (Tb := "dict") tl ta (by decide) (by rfl) PySem.F.slot_list_ne PySem.F.slot_dict_ne_refl rfl hu0 (fun Q q => list_ne_no tl ta Q q) (fun Q q => dict_ne_no (T := "list") ta tl (by rfl) Q q) (fun Q q => wpAny_isSame_ref_other ne g1 ho (by rw [g2]; decide) q) (fin _ q)
    · cases (show v = Value.ref a from rx)
      obtain ⟨ta, o, es, no', ho, hd, hc⟩ := dk_obj I r
      rcases id h' with ⟨hy, rfl⟩ | ⟨b, ys, rfl, s', r', hy, rfl⟩ | ⟨b, ms', f', rfl, s', r', nd', ks', rfl, no', at''⟩
      · rw [deq_f (show D.ob f ≠ D.sc y from fun z => nomatch z)] at q
        have cy := G'.sc _ hy
        cases y with
        | non => cases (show u = Value.none from ry); exact rc_ne_no (Ta := "dict") (Tb := "NoneType") ta rfl (by decide) (by rfl) PySem.F.slot_dict_ne PySem.F.slot_NoneType_ne_refl rfl hu0 (fun Q q => dict_ne_no (T := "NoneType") (v := .none) ta rfl (by rfl) Q q) (fun Q q => none_ne_no Q q) (fun Q q => wpAny_pure q) (fin _ q)
        | int i => obtain ⟨t, rfl⟩ := (show ∃ t, u = Value.int i t from ry); exact rc_ne_no (Ta := "dict") (Tb := "int") ta rfl (by decide) (by rfl) PySem.F.slot_dict_ne PySem.F.slot_int_ne_refl rfl hu0 (fun Q q => dict_ne_no (T := "int") (v := .int i t) ta rfl (by rfl) Q q) (fun Q q => int_ne_no ho hd Q q) (fun Q q => wpAny_pure q) (fin _ q)
        | str i => obtain ⟨t, rfl⟩ := (show ∃ t, u = Value.str i t from ry); exact rc_ne_no (Ta := "dict") (Tb := "str") ta rfl (by decide) (by rfl) PySem.F.slot_dict_ne PySem.F.slot_str_ne_refl rfl hu0 (fun Q q => dict_ne_no (T := "str") (v := .str i t) ta rfl (by rfl) Q q) (fun Q q => str_ne_no ho hd Q q) (fun Q q => wpAny_pure q) (fin _ q)
        | _ => cases cy
      · cases (show u = Value.ref b from ry)
        rw [deq_f (show D.ob f ≠ D.ls ys from fun z => nomatch z)] at q
        obtain ⟨ws, r2, p2, _⟩ := I.list (.inl (.inl r'))
        have tl : s.TypeIs (.ref b) "list" := p2.isList.typeIs
        obtain ⟨ol, g1, g2⟩ := id tl
        have ne : a ≠ b := fun z => by rw [z, r'] at r; cases r
        exact rc_ne_no (Ta := "dict") (Tb := "list") ta tl (by decide) (by rfl) PySem.F.slot_dict_ne PySem.F.slot_list_ne_refl rfl hu0 (fun Q q => dict_ne_no (T := "list") ta tl (by rfl) Q q) (fun Q q => list_ne_no tl ta Q q) (fun Q q => wpAny_isSame_ref_other ne ho g1 (by rw [hc]; decide) q) (fin _ q)
      · cases (show u = Value.ref b from ry)
        have M : Mem S G H n ms f := ⟨nd, ks, no, at'⟩
        have M' : Mem S' G' H m ms' f' := ⟨nd', ks', no', at''⟩
        obtain ⟨_, ya, va, ra, da⟩ := dk_rd I.hok (.inl r)
        obtain ⟨_, yb, vb, rb, db⟩ := dk_rd I.hok (.inl r')
        obtain ⟨b', hb, hi⟩ := hits_dec (A := X.A.in1) (Pg := X.prog) (w := X.w) (s := s) (f := f) M' rb (fun x y d e v u h1 h2 r1 r2 => docs_dec I n m _ x y d e v u (show X.A.units + 1 + n + 1 < cLine by omega) h1 h2 r1 r2) ra fun p hp => M.at' p.1 p.2 (valV_of_mem nd hp)
        have e : (va.length == vb.length && b') = deq (.ob f) (.ob f') := by
          refine bool_of ?_
          rw [Bool.and_eq_true, deq_iff, ob_iff M M', hi, beq_iff_eq, ← ra.length, ← rb.length, List.length_map, List.length_map]
        refine wpAny_richCompare_same_room (op := .NotEq) da.typeIs db.typeIs PySem.F.slot_dict_ne (wpAny_call_entry PySem.F.slot_dict_ne da.typeIs PySem.F.entry_dict_ne ?_ (PySem.F.args_dict_ne_2 _ _)) (by omega)
        refine wpAny_bind ?_
        unfold Builtin.Dict.dictSlotArgs
        refine wpAny_bind (wpAny_notOrdered_dict da.typeIs (wpAny_pure (wpAny_bind (wpAny_isInstance (T := "dict") db.typeIs PySem.F.sub_dict_dict ?_))))
        simp only [Bool.not_true, Bool.false_eq_true, if_false]
        refine wpAny_bind (wpAny_pure (wpAny_bind (wpAny_pure (wpAny_bind (PySem.W.samePairsP (r := b') ya yb da db (fun _ => ?_) ?_)))))
        · exact hb
        · rw [e]
          refine wpAny_pure ⟨_, rfl, (fun x => nomatch x), ?_⟩
          have z : (deq (.ob f) (.ob f') == false) = !deq (.ob f) (.ob f') := by cases deq (.ob f) (.ob f') <;> rfl
          rw [z]
          exact fin _ q
theorem op_eqD2 (hu : X.A.units + 64 < cLine) : OpR X (compareOp .Eq) rEqD2 := by
  intro pins s σ H x y v u Q I rx ry h
  obtain ⟨S, S', G, G', n, m, d, e, hn, h, h', q⟩ := h
  cases n with
  | zero => exact (show False from h).elim
  | succ n =>
  cases m with
  | zero => exact (show False from h').elim
  | succ m =>
    have fin : ∀ b : Bool, Q (.bl b) H → EP X pins σ Q (.bool b) s := fun b z => ⟨.bl b, H, I, rfl, z⟩
    have hu0 : X.A.units < cLine := by omega
    rcases id h with ⟨hx, rfl⟩ | ⟨a, xs, rfl, s1, r, hx, rfl⟩ | ⟨a, ms, f, rfl, s1, r, nd, ks, rfl, no, at'⟩
    · have cx := G.sc _ hx
      rcases id h' with ⟨hy, rfl⟩ | ⟨b, ys, rfl, s', r', hy, rfl⟩ | ⟨b, ms', f', rfl, s', r', nd', ks', rfl, no', at''⟩
      · refine op_eq pins s σ H x y v u Q I rx ry ⟨scal_two cx (G'.sc _ hy), ?_⟩
        rw [deq_sc] at q
        exact q
      · cases (show u = Value.ref b from ry)
        rw [deq_f (show D.sc x ≠ D.ls ys from fun z => nomatch z)] at q
        obtain ⟨us, _, p1, _⟩ := I.list (.inl (.inl r'))
        have l := p1.isList
        cases x with
        | non => cases (show v = Value.none from rx); exact SeqAt.RcAt.none_list l hu0 _ _ _ _ (fin _ q)
        | int i => obtain ⟨t, rfl⟩ := (show ∃ t, v = Value.int i t from rx); exact SeqAt.RcAt.int_list _ _ l hu0 _ _ _ _ (fin _ q)
        | str i => obtain ⟨t, rfl⟩ := (show ∃ t, v = Value.str i t from rx); exact SeqAt.RcAt.str_list _ _ l hu0 _ _ _ _ (fin _ q)
        | _ => cases cx
      · cases (show u = Value.ref b from ry)
        rw [deq_f (show D.sc x ≠ D.ob f' from fun z => nomatch z)] at q
        obtain ⟨ta, o, es, n, ho, hd, _⟩ := dk_obj I r'
        cases x with
        | non => cases (show v = Value.none from rx); exact rc_eq_no (Ta := "NoneType") (Tb := "dict") rfl ta (by decide) (by rfl) PySem.F.slot_NoneType_eq PySem.F.slot_dict_eq_refl rfl hu0 (fun Q q => none_eq_no Q q) (fun Q q => dict_eq_no (T := "NoneType") (v := .none) ta rfl (by rfl) Q q) (fun Q q => wpAny_pure q) (fin _ q)
        | int i => obtain ⟨t, rfl⟩ := (show ∃ t, v = Value.int i t from rx); exact rc_eq_no (Ta := "int") (Tb := "dict") rfl ta (by decide) (by rfl) PySem.F.slot_int_eq PySem.F.slot_dict_eq_refl rfl hu0 (fun Q q => int_eq_no ho hd Q q) (fun Q q => dict_eq_no (T := "int") (v := .int i t) ta rfl (by rfl) Q q) (fun Q q => wpAny_pure q) (fin _ q)
        | str i => obtain ⟨t, rfl⟩ := (show ∃ t, v = Value.str i t from rx); exact rc_eq_no (Ta := "str") (Tb := "dict") rfl ta (by decide) (by rfl) PySem.F.slot_str_eq PySem.F.slot_dict_eq_refl rfl hu0 (fun Q q => str_eq_no ho hd Q q) (fun Q q => dict_eq_no (T := "str") (v := .str i t) ta rfl (by rfl) Q q) (fun Q q => wpAny_pure q) (fin _ q)
        | _ => cases cx
    · cases (show v = Value.ref a from rx)
      obtain ⟨us, r1, p1, _⟩ := I.list (.inl (.inl r))
      have l := p1.isList
      rcases id h' with ⟨hy, rfl⟩ | ⟨b, ys, rfl, s', r', hy, rfl⟩ | ⟨b, ms', f', rfl, s', r', nd', ks', rfl, no', at''⟩
      · rw [deq_f (show D.ls xs ≠ D.sc y from fun z => nomatch z)] at q
        have cy := G'.sc _ hy
        cases y with
        | non => cases (show u = Value.none from ry); exact SeqAt.RcAt.list_none l hu0 _ _ _ _ (fin _ q)
        | int i => obtain ⟨t, rfl⟩ := (show ∃ t, u = Value.int i t from ry); exact SeqAt.RcAt.list_int _ _ l hu0 _ _ _ _ (fin _ q)
        | str i => obtain ⟨t, rfl⟩ := (show ∃ t, u = Value.str i t from ry); exact SeqAt.RcAt.list_str _ _ l hu0 _ _ _ _ (fin _ q)
        | _ => cases cy
      · cases (show u = Value.ref b from ry)
        obtain ⟨ws, r2, p2, _⟩ := I.list (.inl (.inl r'))
        by_cases hl : xs.length = ys.length
        · refine SeqAt.rcP_lists (e := fun j => deq (.sc (xs.getD j .non)) (.sc (ys.getD j .non))) l p2.isList (by rw [List.size_toArray, List.size_toArray, ← r1.length, ← r2.length, hl]) hu0 (fun j h1 h2 => ?_) _ _ ?_
          · have := ls_items hl r1 r2 (A := X.A.in1) (s := s) (fun x z => G.sc _ (hx.2 x z)) (fun y z => G'.sc _ (hy.2 y z)) j (by simpa using h1) (by simpa using h2)
            simpa using this.eqP (prog := X.prog) (w := X.w)
          · rw [ls_all hl] at q
            rw [List.size_toArray, ← r1.length]
            exact fin _ q
        · rw [deq_f (show D.ls xs ≠ D.ls ys from fun z => hl (by injection z with z; rw [z]))] at q
          refine SeqAt.RcAt.lists_lengths l p2.isList (by rw [List.size_toArray, List.size_toArray, ← r1.length, ← r2.length]; exact bne_iff_ne.mpr hl) hu0 _ _ _ _ (fin _ q)
      · cases (show u = Value.ref b from ry)
        rw [deq_f (show D.ls xs ≠ D.ob f' from fun z => nomatch z)] at q
        obtain ⟨ta, o, es, n, ho, hd, hc⟩ := dk_obj I r'
        have tl : s.TypeIs (.ref a) "list" := l.typeIs
        obtain ⟨ol, g1, g2⟩ := id tl
        have ne : a ≠ b := fun z => by rw [z, r'] at r; cases r
        exact rc_eq_no (Ta := "list") (Tb := "dict") tl ta (by decide) (by rfl) PySem.F.slot_list_eq PySem.F.slot_dict_eq_refl rfl hu0 (fun Q q => list_eq_no tl ta Q q) (fun Q q => dict_eq_no (T := "list") ta tl (by rfl) Q q) (fun Q q => wpAny_isSame_ref_other ne g1 ho (by rw [g2]; decide) q) (fin _ q)
    · cases (show v = Value.ref a from rx)
      obtain ⟨ta, o, es, no', ho, hd, hc⟩ := dk_obj I r
      rcases id h' with ⟨hy, rfl⟩ | ⟨b, ys, rfl, s', r', hy, rfl⟩ | ⟨b, ms', f', rfl, s', r', nd', ks', rfl, no', at''⟩
      · rw [deq_f (show D.ob f ≠ D.sc y from fun z => nomatch z)] at q
        have cy := G'.sc _ hy
        cases y with
        | non => cases (show u = Value.none from ry); exact rc_eq_no (Ta := "dict") (Tb := "NoneType") ta rfl (by decide) (by rfl) PySem.F.slot_dict_eq PySem.F.slot_NoneType_eq_refl rfl hu0 (fun Q q => dict_eq_no (T := "NoneType") (v := .none) ta rfl (by rfl) Q q) (fun Q q => none_eq_no Q q) (fun Q q => wpAny_pure q) (fin _ q)
        | int i => obtain ⟨t, rfl⟩ := (show ∃ t, u = Value.int i t from ry); exact rc_eq_no (Ta := "dict") (Tb := "int") ta rfl (by decide) (by rfl) PySem.F.slot_dict_eq PySem.F.slot_int_eq_refl rfl hu0 (fun Q q => dict_eq_no (T := "int") (v := .int i t) ta rfl (by rfl) Q q) (fun Q q => int_eq_no ho hd Q q) (fun Q q => wpAny_pure q) (fin _ q)
        | str i => obtain ⟨t, rfl⟩ := (show ∃ t, u = Value.str i t from ry); exact rc_eq_no (Ta := "dict") (Tb := "str") ta rfl (by decide) (by rfl) PySem.F.slot_dict_eq PySem.F.slot_str_eq_refl rfl hu0 (fun Q q => dict_eq_no (T := "str") (v := .str i t) ta rfl (by rfl) Q q) (fun Q q => str_eq_no ho hd Q q) (fun Q q => wpAny_pure q) (fin _ q)
        | _ => cases cy
      · cases (show u = Value.ref b from ry)
        rw [deq_f (show D.ob f ≠ D.ls ys from fun z => nomatch z)] at q
        obtain ⟨ws, r2, p2, _⟩ := I.list (.inl (.inl r'))
        have tl : s.TypeIs (.ref b) "list" := p2.isList.typeIs
        obtain ⟨ol, g1, g2⟩ := id tl
        have ne : a ≠ b := fun z => by rw [z, r'] at r; cases r
        exact rc_eq_no (Ta := "dict") (Tb := "list") ta tl (by decide) (by rfl) PySem.F.slot_dict_eq PySem.F.slot_list_eq_refl rfl hu0 (fun Q q => dict_eq_no (T := "list") ta tl (by rfl) Q q) (fun Q q => list_eq_no tl ta Q q) (fun Q q => wpAny_isSame_ref_other ne ho g1 (by rw [hc]; decide) q) (fin _ q)
      · cases (show u = Value.ref b from ry)
        have M : Mem S G H n ms f := ⟨nd, ks, no, at'⟩
        have M' : Mem S' G' H m ms' f' := ⟨nd', ks', no', at''⟩
        obtain ⟨_, ya, va, ra, da⟩ := dk_rd I.hok (.inl r)
        obtain ⟨_, yb, vb, rb, db⟩ := dk_rd I.hok (.inl r')
        obtain ⟨b', hb, hi⟩ := hits_dec (A := X.A.in1) (Pg := X.prog) (w := X.w) (s := s) (f := f) M' rb (fun x y d e v u h1 h2 r1 r2 => docs_dec I n m _ x y d e v u (show X.A.units + 1 + n + 1 < cLine by omega) h1 h2 r1 r2) ra fun p hp => M.at' p.1 p.2 (valV_of_mem nd hp)
        have e : (va.length == vb.length && b') = deq (.ob f) (.ob f') := by
          refine bool_of ?_
          rw [Bool.and_eq_true, deq_iff, ob_iff M M', hi, beq_iff_eq, ← ra.length, ← rb.length, List.length_map, List.length_map]
        refine PySem.W.rcP_dicts (knd := mixKind X.prog X.w) (r := b') ya yb da db hu0 (fun _ => hb) _ _ ?_
        rw [e]
        exact fin _ q
end
end TP

namespace TP
open PySem PySem.Spec PyProof.Rows L2
/-! ### != of lists whose items are compared inside one model -/
section
open PySem.SeqAt
open AutoSeq1 (wpAny_loadPart')
open MeetsSeq MeetsSeq2 MeetsSeq3 SeqRoads2
variable {prog : Program} {w : World}
theorem neP_loop (l b : Addr) (xs ys : Array Value) (n m : Nat) (dx dy : Option Addr) (sx sy : Array (Option Value)) (same : xs.size = ys.size) (c : Nat → Bool) : ∀ k i : Nat, i + k = xs.size →
    MeetsIn prog w (Builtin.«list.__eq__.loop» ⟨[.ref l, .ref b, rawInt i, rawInt 3], []⟩) (fun A R s => s.heap.get? l = some { cls := .type "list", dict := dx, data := .seq xs n, slots := sx } ∧ s.heap.get? b = some { cls := .type "list", dict := dy, data := .seq ys m, slots := sy } ∧
      (∀ j (p : j < xs.size) (q : j < ys.size), EqP prog w A.in1 s xs[j] ys[j] (c j)) ∧ R (.ok (.ret (.bool (!((List.range xs.size).drop i).all c)))) s)
  | 0, i, hk => by
    intro A R s z
    obtain ⟨h0, gg, dd, tk, ost⟩ := s
    obtain ⟨z1, z2, _, z4⟩ := z
    have w1 : xs[((i : Nat) : Int).toNat]? = none := by simp; omega
    have w2 : ys[((i : Nat) : Int).toNat]? = none := by simp; omega
    wp_walk using wpAny_loadPart' z1, wpAny_loadPart' z2
    rw [w1, w2]
    wp_walk using wpAny_loadPart' z1, wpAny_loadPart' z2
    have w3 : (List.range xs.size).drop i = [] := List.drop_of_length_le (by simp; omega)
    rw [w3] at z4
    show R (.ok (.ret (.bool (xs.size != ys.size)))) _
    rw [same]
    simpa using z4
  | k + 1, i, hk => by
    intro A R s z
    obtain ⟨h0, gg, dd, tk, ost⟩ := s
    obtain ⟨z1, z2, z3, z4⟩ := z
    have lt1 : i < xs.size := by omega
    have lt2 : i < ys.size := by omega
    have w1 : xs[((i : Nat) : Int).toNat]? = some xs[i] := by simp [lt1]
    have w2 : ys[((i : Nat) : Int).toNat]? = some ys[i] := by simp [lt2]
    have w3 : (List.range xs.size).drop i = i :: (List.range xs.size).drop (i + 1) := by simp [List.drop_eq_getElem_cons, lt1]
    rw [w3, List.all_cons] at z4
    wp_walk using wpAny_loadPart' z1, wpAny_loadPart' z2
    rw [w1, w2]
    refine wpAny_bind (z3 i lt1 lt2 _ _ ?_)
    have w4 : ((i : Int) + 1) = ((i + 1 : Nat) : Int) := by push_cast; rfl
    cases w5 : c i with
    | true =>
      rw [w5] at z4
      wp_walk
      rw [w4]
      refine ⟨plainId_quiet plain_eq_loop _, codeAny_builtin entry_eq_loop ?_⟩
      rw [Around.under_plainId plain_eq_loop _]
      exact neP_loop l b xs ys n m dx dy sx sy same c k (i + 1) (by omega) A R _ ⟨z1, z2, z3, by simpa using z4⟩
    | false =>
      rw [w5] at z4
      wp_walk using wpAny_loadPart' z1, wpAny_loadPart' z2
      rw [w1, w2]
      wp_walk
      simpa using z4
theorem neP_list (l b : Addr) (xs ys : Array Value) (n m : Nat) (dx dy : Option Addr) (sx sy : Array (Option Value)) (same : xs.size = ys.size) (c : Nat → Bool) :
    MeetsIn prog w (Builtin.«list.__ne__» ⟨[.ref l, .ref b], []⟩) (fun A R s => s.heap.get? l = some { cls := .type "list", dict := dx, data := .seq xs n, slots := sx } ∧ s.heap.get? b = some { cls := .type "list", dict := dy, data := .seq ys m, slots := sy } ∧
      (∀ j (p : j < xs.size) (q : j < ys.size), EqP prog w A.in1 s xs[j] ys[j] (c j)) ∧ R (.ok (.ret (.bool (!(List.range xs.size).all c)))) s) := by
  intro A R s z
  obtain ⟨h0, gg, dd, tk, ost⟩ := s
  obtain ⟨z1, z2, z3, z4⟩ := z
  have sub := AutoSeq1.sub_list_list
  have nne : ¬ (xs.size != ys.size) = true := by simp [same]
  wp_walk using wpAny_loadPart' z1, wpAny_loadPart' z2
  refine ⟨plainId_quiet plain_eq_loop _, codeAny_builtin entry_eq_loop ?_⟩
  rw [Around.under_plainId plain_eq_loop _]
  exact neP_loop l b xs ys n m dx dy sx sy same c xs.size 0 (by omega) A R _ ⟨z1, z2, z3, by simpa using z4⟩
theorem rcNeP_lists {A : Around} {s : Shared} {l b : Addr} {xs ys : Array Value} {c : Nat → Bool} (hl : s.heap.IsList l xs) (hb : s.heap.IsList b ys) (same : xs.size = ys.size) (hu : A.units < cLine)
    (he : ∀ j (p : j < xs.size) (q : j < ys.size), EqP prog w A.in1 s xs[j] ys[j] (c j)) (E Q : Value → Shared → Prop) (h : Q (.bool (!(List.range xs.size).all c)) s) : wpAny (model prog w) A (richCompare .NotEq (.ref l) (.ref b)) Q E s := by
  obtain ⟨⟨cx, dx, tx, sx⟩, ox, ex, n, fx⟩ := id hl
  obtain ⟨⟨cy, dy, ty, sy⟩, oy, ey, m, fy⟩ := id hb
  simp only at ex fx ey fy
  subst ex fx ey fy
  have t1 : s.TypeIs (.ref l) "list" := ⟨_, ox, rfl⟩
  have t2 : s.TypeIs (.ref b) "list" := ⟨_, oy, rfl⟩
  refine wpAny_richCompare_same_room (op := .NotEq) t1 t2 F.slot_list_ne (call_meetsIn F.slot_list_ne t1 F.entry_list_ne (F.args_list_ne_2 _ _) (neP_list l b xs ys n m dx dy sx sy same c) ⟨ox, oy, he, ?_⟩) hu
  exact (show Value.bool (!(List.range xs.size).all c) ≠ Value.notImplemented ∧ Q (.bool (!(List.range xs.size).all c)) s from ⟨(fun x => nomatch x), h⟩)
end
/-! ### a list with one document, or with none -/
/-- d: what it holds; .nil: nothing -/
def LdAt (S : Addr → Prop) (G : Gen) (H : Hp) (n : Nat) (a : Addr) (d : D) : Prop := (d = .nil ∧ H a = some (.lst [])) ∨ ∃ u, H a = some (.lst [u]) ∧ Dc S G H n u d
theorem LdAt.ex [TabL] {S G H H' n a d} (e : Ex H H') (h : LdAt S G H n a d) : LdAt S G H' n a d := Or.imp (fun ⟨z, r⟩ => ⟨z, e _ _ r⟩) (fun ⟨u, r, h⟩ => ⟨u, e _ _ r, h.ex e⟩) h
theorem LdAt.imp {S S' : Addr → Prop} {G H n a d} (i : ∀ x, S x → S' x) (h : LdAt S G H n a d) : LdAt S' G H n a d := Or.imp id (fun ⟨u, r, h⟩ => ⟨u, r, h.imp i⟩) h
theorem LdAt.lst {S G H n a d} (h : LdAt S G H n a d) : ∃ us, H a = some (.lst us) ∧ us.length ≤ 1 := h.elim (fun ⟨_, r⟩ => ⟨_, r, by decide⟩) fun ⟨u, r, _⟩ => ⟨_, r, by show 1 ≤ 1; decide⟩
section
variable {X : Cx} {pins : List (Addr × Obj)} {σ : L2.St} {H : Hp} {s : Shared}
/-- how two of them compare, without the question whether they are one list -/
theorem ld_items (I : Inv X pins σ H s) {S S' : Addr → Prop} {G G' : Gen} {n m : Nat} {A : Around} {a b : Addr} {d e : D} (hu : A.units + n + 3 < cLine) (h : LdAt S G H n a d) (h' : LdAt S' G' H m b e) :
    ∃ us ws : List Value, s.heap.IsList a us.toArray ∧ s.heap.IsList b ws.toArray ∧ ((us.length ≠ ws.length ∧ deq d e = false) ∨ (us.length = ws.length ∧ (∀ j (h1 : j < us.toArray.size) (h2 : j < ws.toArray.size), SeqAt.EqP X.prog X.w A s us.toArray[j] ws.toArray[j] (deq d e)) ∧ ((List.range us.toArray.size).all fun _ => deq d e) = deq d e)) := by
  have nil_ne : ∀ {S G H n v d}, Dc S G H n v d → d ≠ .nil := fun h z => by have := h.ne_nil; rw [z] at this; cases this
  rcases h with ⟨rfl, r⟩ | ⟨u, r, hd⟩ <;> rcases h' with ⟨rfl, r'⟩ | ⟨v, r', hd'⟩
  · obtain ⟨us, r1, p1, _⟩ := I.list (.inl (.inl r))
    obtain ⟨ws, r2, p2, _⟩ := I.list (.inl (.inl r'))
    cases r1; cases r2
    refine ⟨_, _, p1.isList, p2.isList, .inr ⟨rfl, fun j h1 => absurd h1 (by simp), ?_⟩⟩
    rw [deq_t rfl]
    rfl
  · obtain ⟨us, r1, p1, _⟩ := I.list (.inl (.inl r))
    obtain ⟨ws, r2, p2, _⟩ := I.list (.inl (.inl r'))
    refine ⟨_, _, p1.isList, p2.isList, .inl ⟨?_, deq_f fun z => nil_ne hd' z.symm⟩⟩
    rw [← r1.length, ← r2.length]
    simp
  · obtain ⟨us, r1, p1, _⟩ := I.list (.inl (.inl r))
    obtain ⟨ws, r2, p2, _⟩ := I.list (.inl (.inl r'))
    refine ⟨_, _, p1.isList, p2.isList, .inl ⟨?_, deq_f (nil_ne hd)⟩⟩
    rw [← r1.length, ← r2.length]
    simp
  · obtain ⟨us, r1, p1, _⟩ := I.list (.inl (.inl r))
    obtain ⟨ws, r2, p2, _⟩ := I.list (.inl (.inl r'))
    obtain ⟨x, rfl, rx⟩ := vals1 r1
    obtain ⟨y, rfl, ry⟩ := vals1 r2
    refine ⟨_, _, p1.isList, p2.isList, .inr ⟨rfl, fun j h1 h2 => ?_, ?_⟩⟩
    · have hj : j = 0 := by simp at h1; omega
      subst hj
      exact docs_dec I n m A u v d e x y (by omega) hd hd' rx ry
    · simp
theorem ld_det {S S' : Addr → Prop} {G G' : Gen} {n m : Nat} {a : Addr} {d e : D} (h : LdAt S G H n a d) (h' : LdAt S' G' H m a e) : d = e := by
  rcases h with ⟨rfl, r⟩ | ⟨u, r, hd⟩ <;> rcases h' with ⟨rfl, r'⟩ | ⟨v, r', hd'⟩
  · rfl
  · rw [r] at r'; cases r'
  · rw [r] at r'; cases r'
  · rw [r] at r'; cases r'
    exact dc_det hd hd'
theorem ld_dec (I : Inv X pins σ H s) {S S' : Addr → Prop} {G G' : Gen} {n m : Nat} {A : Around} {a b : Addr} {d e : D} (hu : A.units + n + 4 < cLine) (h : LdAt S G H n a d) (h' : LdAt S' G' H m b e) : SeqAt.EqP X.prog X.w A s (.ref a) (.ref b) (deq d e) := by
  by_cases c : a = b
  · subst c
    rw [deq_t (ld_det h h')]
    exact (SeqAt.EqAt.same _).eqP
  obtain ⟨us, ws, p1, p2, q⟩ := ld_items (A := A.in1) I (show A.units + 1 + n + 3 < cLine by omega) h h'
  refine SeqAt.eqP_refs c fun E Q k => ?_
  rcases q with ⟨q1, q2⟩ | ⟨q1, q2, q3⟩
  · rw [q2] at k
    exact SeqAt.RcAt.lists_lengths p1 p2 (by rw [List.size_toArray, List.size_toArray]; exact bne_iff_ne.mpr q1) (by omega) _ _ _ _ k
  · exact SeqAt.rcP_lists (e := fun _ => deq d e) p1 p2 (by rw [List.size_toArray, List.size_toArray, q1]) (by omega) q2 E Q (by rw [q3]; exact k)
end
section
variable {X : Cx}
/-- one != other, of two such lists -/
def rNeLD : R2 := fun x y H Q => ∃ (S S' : Addr → Prop) (G G' : Gen) (n m : Nat) (a b : Addr) (d e : D), x = .ref a ∧ y = .ref b ∧ n ≤ 40 ∧ LdAt S G H n a d ∧ LdAt S' G' H m b e ∧ Q (.bl (!deq d e)) H
def rEqLD : R2 := fun x y H Q => ∃ (S S' : Addr → Prop) (G G' : Gen) (n m : Nat) (a b : Addr) (d e : D), x = .ref a ∧ y = .ref b ∧ n ≤ 40 ∧ LdAt S G H n a d ∧ LdAt S' G' H m b e ∧ Q (.bl (deq d e)) H
theorem op_neLD (hu : X.A.units + 64 < cLine) : OpR X (compareOp .NotEq) rNeLD := by
  intro pins s σ H x y v u Q I rx ry h
  obtain ⟨S, S', G, G', n, m, a, b, d, e, rfl, rfl, hn, h, h', q⟩ := h
  cases (show v = Value.ref a from rx)
  cases (show u = Value.ref b from ry)
  obtain ⟨us, ws, p1, p2, c⟩ := ld_items (A := X.A.in1) I (show X.A.units + 1 + n + 3 < cLine by omega) h h'
  rcases c with ⟨q1, q2⟩ | ⟨q1, q2, q3⟩
  · rw [q2] at q
    exact SeqAt.RcNeAt.lists_lengths p1 p2 (by rw [List.size_toArray, List.size_toArray]; exact bne_iff_ne.mpr q1) (by omega) _ _ _ _ ⟨.bl true, H, I, rfl, q⟩
  · exact rcNeP_lists (c := fun _ => deq d e) p1 p2 (by rw [List.size_toArray, List.size_toArray, q1]) (by omega) q2 _ _ ⟨.bl (!deq d e), H, I, by rw [q3]; rfl, q⟩
theorem op_eqLD (hu : X.A.units + 64 < cLine) : OpR X (compareOp .Eq) rEqLD := by
  intro pins s σ H x y v u Q I rx ry h
  obtain ⟨S, S', G, G', n, m, a, b, d, e, rfl, rfl, hn, h, h', q⟩ := h
  cases (show v = Value.ref a from rx)
  cases (show u = Value.ref b from ry)
  obtain ⟨us, ws, p1, p2, c⟩ := ld_items (A := X.A.in1) I (show X.A.units + 1 + n + 3 < cLine by omega) h h'
  rcases c with ⟨q1, q2⟩ | ⟨q1, q2, q3⟩
  · rw [q2] at q
    exact SeqAt.RcAt.lists_lengths p1 p2 (by rw [List.size_toArray, List.size_toArray]; exact bne_iff_ne.mpr q1) (by omega) _ _ _ _ ⟨.bl false, H, I, rfl, q⟩
  · exact SeqAt.rcP_lists (e := fun _ => deq d e) p1 p2 (by rw [List.size_toArray, List.size_toArray, q1]) (by omega) q2 _ _ ⟨.bl (deq d e), H, I, by rw [q3]; rfl, q⟩
/-- == of two lists of such lists, as many in each -/
noncomputable def deqL : List D → List D → Bool
  | [], [] => true
  | d :: ds, e :: es => deq d e && deqL ds es
  | _, _ => false
theorem deqL_iff : ∀ {ds es : List D}, deqL ds es = true ↔ ds = es
  | [], [] => by simp [deqL]
  | [], _ :: _ => by simp [deqL]
  | _ :: _, [] => by simp [deqL]
  | d :: ds, e :: es => by simp [deqL, deq_iff, deqL_iff (ds := ds) (es := es)]
theorem deqL_all {f : Nat → Bool} : ∀ {ds es : List D} (k : Nat), ds.length = es.length → (∀ j (h1 : j < ds.length) (h2 : j < es.length), f (k + j) = deq ds[j] es[j]) → ((List.range' k ds.length).all f) = deqL ds es
  | [], [], _, _, _ => rfl
  | [], _ :: _, _, h, _ => by cases h
  | _ :: _, [], _, h, _ => by cases h
  | d :: ds, e :: es, k, h, hf => by
    have h0 := hf 0 (by simp) (by simp)
    have ih := deqL_all (f := f) (ds := ds) (es := es) (k + 1) (by simpa using h) fun j h1 h2 => by
      have := hf (j + 1) (by simpa using h1) (by simpa using h2)
      rw [show k + 1 + j = k + (j + 1) by omega]
      simpa using this
    rw [List.length_cons, List.range'_succ, List.all_cons, ih]
    simp only [Nat.add_zero] at h0
    rw [h0]
    rfl
def rEqLL : R2 := fun x y H Q => ∃ (S S' : Addr → Prop) (G G' : Gen) (n m : Nat) (a b : Addr) (as bs : List (Addr × D)), x = .ref a ∧ y = .ref b ∧ n ≤ 40 ∧ a ≠ b ∧ H a = some (.lst (as.map fun p => V.ref p.1)) ∧ H b = some (.lst (bs.map fun p => V.ref p.1)) ∧ as.length = bs.length ∧
  (∀ p ∈ as, LdAt S G H n p.1 p.2) ∧ (∀ p ∈ bs, LdAt S' G' H m p.1 p.2) ∧ Q (.bl (deqL (as.map (·.2)) (bs.map (·.2)))) H
theorem op_eqLL (hu : X.A.units + 64 < cLine) : OpR X (compareOp .Eq) rEqLL := by
  intro pins s σ H x y v u Q I rx ry h
  obtain ⟨S, S', G, G', n, m, a, b, as, bs, rfl, rfl, hn, nab, ha, hb, hl, h, h', q⟩ := h
  cases (show v = Value.ref a from rx)
  cases (show u = Value.ref b from ry)
  obtain ⟨us, r1, p1, _⟩ := I.list (.inl (.inl ha))
  obtain ⟨ws, r2, p2, _⟩ := I.list (.inl (.inl hb))
  have l1 : us.length = as.length := by rw [← r1.length, List.length_map]
  have l2 : ws.length = bs.length := by rw [← r2.length, List.length_map]
  refine SeqAt.rcP_lists (e := fun j => deq (as.map (·.2) |>.getD j .nil) (bs.map (·.2) |>.getD j .nil)) p1.isList p2.isList (by rw [List.size_toArray, List.size_toArray, l1, l2, hl]) (by omega) (fun j h1 h2 => ?_) _ _ ⟨.bl _, H, I, rfl, ?_⟩
  · have k1 : j < as.length := by rw [List.size_toArray, l1] at h1; exact h1
    have k2 : j < bs.length := by rw [← hl]; exact k1
    obtain ⟨y1, hy1, ry1⟩ := vals_get r1 (j := j) (x := V.ref (as[j]).1) (by rw [List.getElem?_map, List.getElem?_eq_getElem k1]; rfl)
    obtain ⟨y2, hy2, ry2⟩ := vals_get r2 (j := j) (x := V.ref (bs[j]).1) (by rw [List.getElem?_map, List.getElem?_eq_getElem k2]; rfl)
    cases (show y1 = Value.ref _ from ry1)
    cases (show y2 = Value.ref _ from ry2)
    have e1 : us.toArray[j] = Value.ref (as[j]).1 := by
      have := (List.getElem?_eq_some_iff.mp hy1).2
      simpa using this
    have e2 : ws.toArray[j] = Value.ref (bs[j]).1 := by
      have := (List.getElem?_eq_some_iff.mp hy2).2
      simpa using this
    rw [e1, e2]
    have := ld_dec (A := X.A.in1) I (show X.A.units + 1 + n + 4 < cLine by omega) (h _ (List.getElem_mem k1)) (h' _ (List.getElem_mem k2))
    simpa [List.getD_eq_getElem?_getD, k1, k2] using this
  · have e := deqL_all (f := fun j => deq (as.map (·.2) |>.getD j .nil) (bs.map (·.2) |>.getD j .nil)) (ds := as.map (·.2)) (es := bs.map (·.2)) 0 (by rw [List.length_map, List.length_map, hl]) fun j h1 h2 => by
      simp only [Nat.zero_add]
      simp only [List.length_map] at h1 h2
      simp [List.getD_eq_getElem?_getD, h1, h2]
    rw [List.length_map] at e
    rw [List.size_toArray, l1, List.range_eq_range', e]
    exact q
end
end TP

namespace TP
open PySem PySem.Spec PyProof.Rows L2
/-! ### == by an own __eq__, as a decision -/
section
open PySem.SeqAt
open AutoSeq1 (wpAny_loadPart')
variable {prog : Program} {w : World} {A : Around} {R : Result → Shared → Prop}
theorem tuple_eqB (l b : Addr) (items items2 : Array Value) (n n2 : Nat) (dd dd2 : Option Addr) (sl sl2 : Array (Option Value)) (J : List Value → List Value → Shared → Prop)
    (turn : ∀ u us v vs s, J (u :: us) (v :: vs) s → wpAny (model prog w) A.in1 (eqBool u v) (fun r s' => (r = true ∧ J us vs s') ∨ (r = false ∧ R (.ok (.ret (.bool false))) s')) (fun e s' => R (.error e) s') s)
    (fin : ∀ us vs s, (us = [] ∨ vs = []) → J us vs s → R (.ok (.ret (.bool (us.length == vs.length)))) s) {s : Shared} (hl1 : s.heap.get? l = some { cls := .type "tuple", dict := dd, data := .seq items n, slots := sl }) (hb1 : s.heap.get? b = some { cls := .type "tuple", dict := dd2, data := .seq items2 n2, slots := sl2 }) (h : J items.toList items2.toList s) :
    wpAny (model prog w) A.in1 (Builtin.«tuple.__eq__» ⟨[.ref l, .ref b], []⟩) (GQ.FinOf prog w A R) (fun e s' => R (.error e) s') s := by
  have f2 := AutoSeq1.sub_tuple_tuple
  have h0 := h
  obtain ⟨hp, g, d, tk, os⟩ := s
  wp_walk using wpAny_loadPart' hl1, wpAny_loadPart' hb1, wpAny_forIn_list _ (fun rest b s' => b.1 = none ∧ ∃ us vs, rest = us.zip vs ∧ (us.length == vs.length) = (items.size == items2.size) ∧ J us vs s') _
  case turn =>
    rintro ⟨y, x⟩ rest b s' ⟨hb', us, vs, hz, hl, hI⟩
    match us, vs, hz, hl, hI with
    | [], _, hz, _, _ => simp at hz
    | _ :: _, [], hz, _, _ => simp at hz
    | u :: us, v :: vs, hz, hl, hI =>
      simp only [List.zip_cons_cons, List.cons.injEq, Prod.mk.injEq] at hz
      obtain ⟨⟨rfl, rfl⟩, rfl⟩ := hz
      refine wpAny_bind (wpAny_mono (turn _ _ _ _ s' hI) (fun r s2 q2 => ?_) fun _ _ x => x)
      rcases q2 with ⟨rfl, q2⟩ | ⟨rfl, q2⟩
      · wp_walk
        exact ⟨rfl, us, vs, rfl, by simpa using hl, q2⟩
      · wp_walk
        exact q2
  case fin =>
    rintro ⟨b1, b2⟩ s' ⟨hb', us, vs, hz, hl, hI⟩
    simp only at hb'
    subst hb'
    have e : us = [] ∨ vs = [] := by
      cases us with
      | nil => exact .inl rfl
      | cons u us =>
        cases vs with
        | nil => exact .inr rfl
        | cons v vs => simp at hz
    have hR : R (.ok (.ret (.bool (us.length == vs.length)))) s' := fin us vs s' e hI
    rw [hl] at hR
    wp_walk
    simpa [Builtin.Tuple.tupleCompareSizes] using hR
  case h =>
    exact ⟨rfl, _, _, rfl, by simp, h0⟩
end
section
variable {prog : Program} {w : World} {A : Around} {E : Value → Shared → Prop} {s : Shared}
theorem rc_tupB {l b : Addr} {items items2 : Array Value} {Q : Value → Shared → Prop} (hu : A.units < cLine) (J : List Value → List Value → Shared → Prop) (hl : s.heap.IsTuple l items) (hb : s.heap.IsTuple b items2)
    (turn : ∀ u us v vs s, J (u :: us) (v :: vs) s → wpAny (model prog w) A.in1 (eqBool u v) (fun r s' => (r = true ∧ J us vs s') ∨ (r = false ∧ Q (.bool false) s')) E s)
    (fin : ∀ us vs s, (us = [] ∨ vs = []) → J us vs s → Q (.bool (us.length == vs.length)) s) (h : J items.toList items2.toList s) : wpAny (model prog w) A (richCompare .Eq (.ref l) (.ref b)) Q E s := by
  obtain ⟨⟨cls, dd, data, sl⟩, ho, hc, n, hd⟩ := id hl
  obtain ⟨⟨cls2, dd2, data2, sl2⟩, ho2, hc2, n2, hd2⟩ := id hb
  simp only at hc hd hc2 hd2
  subst hc hd hc2 hd2
  refine wpAny_richCompare_same_room (op := .Eq) ⟨_, ho, rfl⟩ ⟨_, ho2, rfl⟩ F.slot_tuple_eq (GQ.call_here F.slot_tuple_eq ⟨_, ho, rfl⟩ F.entry_tuple_eq (F.args_tuple_eq_2 _ _) ?_) hu
  exact tuple_eqB (R := wants (fun v s' => v ≠ .notImplemented ∧ Q v s') E) l b items items2 n n2 dd dd2 sl sl2 J (fun u us v vs s' q => wpAny_mono (turn u us v vs s' q) (fun r s2 z => z.imp id fun ⟨z1, z2⟩ => ⟨z1, (show (Value.bool false ≠ Value.notImplemented) ∧ Q (Value.bool false) s2 from ⟨(fun x => nomatch x), z2⟩)⟩) fun _ _ x => x) (fun us vs s' e q => ⟨(fun x => nomatch x), fin us vs s' e q⟩) ho ho2 h
end
/-- how two values compare, by the abstract heap -/
abbrev EqvB := V → V → Bool → Hp → Prop
def MonB (D : EqvB) : Prop := ∀ x y r H H', L2.Ext H H' → D x y r H → D x y r H'
def EqB (X : Cx) (n : Nat) (D : EqvB) : Prop :=
  ∀ (A : Around) (pins : List (Addr × Obj)) (s : Shared) (σ : L2.St) (H : Hp) (x y : V) (r : Bool) (u v : Value), Sub X n A → Inv X pins σ H s → RelV x u → RelV y v → D x y r H →
    wpAny (model X.prog X.w) A (eqBool u v) (fun r' s' => r' = r ∧ ∃ H', Inv X pins σ H' s' ∧ L2.Ext H H') X.xe s
def RcB (X : Cx) (n : Nat) (D : EqvB) : Prop :=
  ∀ (A : Around) (pins : List (Addr × Obj)) (s : Shared) (σ : L2.St) (H : Hp) (x y : V) (r : Bool) (u v : Value), Sub X n A → Inv X pins σ H s → RelV x u → RelV y v → D x y r H →
    wpAny (model X.prog X.w) A (richCompare .Eq u v) (fun r' s' => r' = .bool r ∧ ∃ H', Inv X pins σ H' s' ∧ L2.Ext H H') X.xe s
def orB (D D' : EqvB) : EqvB := fun x y r H => D x y r H ∨ D' x y r H
section
variable {X : Cx} {n m : Nat} {D D' : EqvB}
theorem EqB.mono (h : EqB X n D) (hn : n ≤ m) : EqB X m D := fun A pins s σ H x y r u v sb => h A pins s σ H x y r u v (sb.mono hn)
theorem RcB.mono (h : RcB X n D) (hn : n ≤ m) : RcB X m D := fun A pins s σ H x y r u v sb => h A pins s σ H x y r u v (sb.mono hn)
theorem EqB.or (h : EqB X n D) (h' : EqB X n D') : EqB X n (orB D D') := fun A pins s σ H x y r u v sb I rx ry d => by
  rcases d with d | d
  · exact h A pins s σ H x y r u v sb I rx ry d
  · exact h' A pins s σ H x y r u v sb I rx ry d
theorem RcB.or (h : RcB X n D) (h' : RcB X n D') : RcB X n (orB D D') := fun A pins s σ H x y r u v sb I rx ry d => by
  rcases d with d | d
  · exact h A pins s σ H x y r u v sb I rx ry d
  · exact h' A pins s σ H x y r u v sb I rx ry d
theorem MonB.or (h : MonB D) (h' : MonB D') : MonB (orB D D') := fun x y r H H' e d => d.elim (fun d => .inl (h x y r H H' e d)) fun d => .inr (h' x y r H H' e d)
/-- two atoms -/
def ScB : EqvB := fun x y r _ => isSc x = true ∧ isSc y = true ∧ (r = true ↔ x = y)
theorem mon_scB : MonB ScB := fun _ _ _ _ _ _ d => d
theorem eqB_sc : EqB X 0 ScB := by
  intro A pins s σ H x y r u v sb I rx ry ⟨hx, hy, e⟩
  have q := sc_at (A := A) (s := s) hx hy rx ry X.prog X.w X.xe (fun r' s' => r' = r ∧ ∃ H', Inv X pins σ H' s' ∧ L2.Ext H H')
  refine q ⟨bool_of ?_, H, I, Ext.rfl'⟩
  rw [deq_iff, e]
  exact ⟨fun z => by injection z, fun z => by rw [z]⟩
/-- item by item, as far as they are equal -/
def PrsB (D : EqvB) (H : Hp) : List V → List V → Bool → Prop
  | [], ys, r => r = ys.isEmpty
  | _ :: _, [], r => r = false
  | x :: xs, y :: ys, r => (D x y true H ∧ PrsB D H xs ys r) ∨ (D x y false H ∧ r = false)
theorem PrsB.mon (hD : MonB D) {H H' : Hp} (e : L2.Ext H H') : ∀ {xs ys : List V} {r : Bool}, PrsB D H xs ys r → PrsB D H' xs ys r
  | [], _, _, p => p
  | _ :: _, [], _, p => p
  | _ :: _, _ :: _, _, p => p.imp (fun ⟨h, q⟩ => ⟨hD _ _ _ _ _ e h, PrsB.mon hD e q⟩) fun ⟨h, q⟩ => ⟨hD _ _ _ _ _ e h, q⟩
def DTupB (K : PySem.W.Frag) (D : EqvB) : EqvB := fun x y r H => ∃ a b xs ys, x = .ref a ∧ y = .ref b ∧ SqT K H a xs ∧ SqT K H b ys ∧ PrsB D H xs ys r
theorem mon_tupB {K : PySem.W.Frag} (hD : MonB D) : MonB (DTupB K D) := fun x y r H H' e d => by
  obtain ⟨a, b, xs, ys, hx, hy, h1, h2, p⟩ := d
  exact ⟨a, b, xs, ys, hx, hy, h1.ext e, h2.ext e, p.mon hD e⟩
theorem rcB_tup (hD : MonB D) (h : EqB X n D) : RcB X (n + 1) (DTupB X.K D) := by
  intro A pins s σ H x y r u v sb I rx ry d
  obtain ⟨a, b, xs, ys, rfl, rfl, ha, hb, p⟩ := d
  cases rx
  cases ry
  obtain ⟨its, r1, e, z⟩ := I.tuple ha
  obtain ⟨its2, r2, e2, z2⟩ := I.tuple hb
  refine rc_tupB sb.room.units0 (fun us vs s' => ∃ xs ys H', Vals xs us ∧ Vals ys vs ∧ Inv X pins σ H' s' ∧ L2.Ext H H' ∧ PrsB D H' xs ys r) e e2 ?_ ?_ ⟨xs, ys, H, by simpa using r1, by simpa using r2, I, Ext.rfl', p⟩
  · rintro u us v vs s' ⟨xs, ys, H1, rs, rt, I1, e1, p1⟩
    cases rs with
    | cons ru rs =>
      cases rt with
      | cons rv rt =>
        rcases p1 with ⟨d1, p1⟩ | ⟨d1, rfl⟩
        · refine wpAny_mono (h A.in1 pins s' σ H1 _ _ true u v sb.in1 I1 ru rv d1) (fun r' s2 q => ?_) fun _ _ x => x
          obtain ⟨rfl, H2, I2, e2⟩ := q
          exact .inl ⟨rfl, _, _, H2, rs, rt, I2, e1.trans e2, p1.mon hD e2⟩
        · refine wpAny_mono (h A.in1 pins s' σ H1 _ _ false u v sb.in1 I1 ru rv d1) (fun r' s2 q => ?_) fun _ _ x => x
          obtain ⟨rfl, H2, I2, e2⟩ := q
          exact .inr ⟨rfl, rfl, H2, I2, e1.trans e2⟩
  · rintro us vs s' ev ⟨xs, ys, H1, rs, rt, I1, e1, p1⟩
    refine ⟨?_, H1, I1, e1⟩
    congr 1
    cases rs with
    | nil =>
      rw [show r = ys.isEmpty from p1]
      cases rt <;> rfl
    | cons _ rs =>
      cases rt with
      | nil => rw [show r = false from p1]; rfl
      | cons _ _ => rcases ev with ev | ev <;> cases ev
theorem RcB.eqB (h : RcB X n D) (hr : ∀ x y r H, D x y r H → ∃ a b, x = .ref a ∧ y = .ref b ∧ (a = b → r = true)) : EqB X n D := by
  intro A pins s σ H x y r u v sb I rx ry d
  obtain ⟨a, b, rfl, rfl, hq⟩ := hr _ _ _ _ d
  cases rx
  cases ry
  by_cases hab : a = b
  · subst hab
    rw [hq rfl]
    exact SeqAt.EqAt.same (A := A) (s := s) (.ref a) X.prog X.w X.xe _ ⟨rfl, H, I, Ext.rfl'⟩
  · refine GQ.eqBool_refG hab (wpAny_mono (h A pins s σ H (.ref a) (.ref b) _ _ _ sb I rfl rfl d) (fun r' s' q => ?_) fun _ _ x => x)
    obtain ⟨hr', q⟩ := q
    exact ⟨r, hr', rfl, q⟩
/-- a tuple and an atom -/
def DScT (K : PySem.W.Frag) : EqvB := fun x y r H => r = false ∧ ((isSc x = true ∧ ∃ b ys, y = .ref b ∧ SqT K H b ys) ∨ (isSc y = true ∧ ∃ a xs, x = .ref a ∧ SqT K H a xs))
theorem rcB_scT : RcB X 1 (DScT X.K) := by
  intro A pins s σ H x y r u v sb I rx ry d
  obtain ⟨rfl, ⟨hx, b, ys, rfl, hb⟩ | ⟨hy, a, xs, rfl, ha⟩⟩ := d
  · cases ry
    obtain ⟨its, r1, e, z⟩ := I.tuple hb
    have k := sb.room.units0
    have fin : (Value.bool false = Value.bool false ∧ ∃ H', Inv X pins σ H' s ∧ L2.Ext H H') := ⟨rfl, H, I, Ext.rfl'⟩
    cases x with
    | non => cases (show u = Value.none from rx); exact SeqAt.RcAt.none_tuple e k X.prog X.w X.xe _ fin
    | int i => obtain ⟨t, rfl⟩ := (show ∃ t, u = Value.int i t from rx); exact SeqAt.RcAt.int_tuple _ _ e k X.prog X.w X.xe _ fin
    | str i => obtain ⟨t, rfl⟩ := (show ∃ t, u = Value.str i t from rx); exact SeqAt.RcAt.str_tuple _ _ e k X.prog X.w X.xe _ fin
    | _ => cases hx
  · cases rx
    obtain ⟨its, r1, e, z⟩ := I.tuple ha
    have k := sb.room.units0
    have fin : (Value.bool false = Value.bool false ∧ ∃ H', Inv X pins σ H' s ∧ L2.Ext H H') := ⟨rfl, H, I, Ext.rfl'⟩
    cases y with
    | non => cases (show v = Value.none from ry); exact SeqAt.RcAt.tuple_none e k X.prog X.w X.xe _ fin
    | int i => obtain ⟨t, rfl⟩ := (show ∃ t, v = Value.int i t from ry); exact SeqAt.RcAt.tuple_int _ _ e k X.prog X.w X.xe _ fin
    | str i => obtain ⟨t, rfl⟩ := (show ∃ t, v = Value.str i t from ry); exact SeqAt.RcAt.tuple_str _ _ e k X.prog X.w X.xe _ fin
    | _ => cases hy
/-- instances of one class -/
def DInsB (C : Addr) (R : Addr → Addr → Bool → Hp → Prop) : EqvB := fun x y r H => ∃ a b dx dy fs gs, x = .ref a ∧ y = .ref b ∧ H a = some (.ins C dx fs) ∧ H b = some (.ins C dy gs) ∧ R a b r H
theorem mon_insB {C : Addr} {R : Addr → Addr → Bool → Hp → Prop} (hR : ∀ a b r H H', L2.Ext H H' → R a b r H → R a b r H') : MonB (DInsB C R) := fun x y r H H' e d => by
  obtain ⟨a, b, dx, dy, fs, gs, hx, hy, h1, h2, q⟩ := d
  exact ⟨a, b, dx, dy, fs, gs, hx, hy, e _ _ h1, e _ _ h2, hR a b r H H' e q⟩
/-- what the own == promises -/
def spEqB (R : Addr → Addr → Bool → Hp → Prop) : Sp := fun vs H Q _ => ∃ a b r, vs = [.ref a, .ref b] ∧ R a b r H ∧ ∀ H', L2.Ext H H' → Q (.bl r) H'
theorem rcB_ins {CX : CXT} {C f : Addr} {fd : FuncData} {ps : List Str} {R : Addr → Addr → Bool → Hp → Prop} {E : XK} (F : FnOk X.prog X.w X.K X.mg X.base CX n f fd ps (spEqB R))
    (hs : PySem.W.findIn X.K (.ref C) "__eq__" = some (some (.ref f))) (hf : PySem.W.isFn X.K (.ref f) = true) (hb : Binds X.K fd ps []) (hx : Passes CX X E) : RcB X n (DInsB C R) := by
  intro A pins s σ H x y r u v sb I rx ry d
  obtain ⟨a, b, dx, dy, fs, gs, rfl, rfl, ha, hb', hr⟩ := d
  cases rx
  cases ry
  obtain ⟨mA, J, _⟩ := ins_get I.hok ha
  obtain ⟨mB, J', _⟩ := ins_get I.hok hb'
  obtain ⟨od, J, _⟩ := J.look
  obtain ⟨od', J', _⟩ := J'.look
  obtain ⟨m, hF⟩ := I.fr
  refine PySem.W.cmp_K (op := .Eq) (tb := .ref C) sb.room.units0 hF I.ok.mod.kin J J'.type (by simp [PySem.W.notFirst]) hs hf ?_
  have hsp : spEqB R [.ref a, .ref b] H (fun v H' => v = .bl r ∧ L2.Ext H H') E := ⟨a, b, r, rfl, hr, fun H' e => ⟨rfl, e⟩⟩
  have e0 : Env0 X.prog X.w X.K X.mg X.base A X.stack s H := by
    have e := I.env0
    exact ⟨by rw [sb.fr]; exact e.frames, e.mod, e.bs, e.bsz, e.funs, e.frf, e.hok, e.bare⟩
  have hl := F.len _ _ _ _ hsp
  have r2 : Vals [V.ref a, V.ref b] [Value.ref a, Value.ref b] := .cons rfl (.cons rfl .nil)
  refine wpAny_call (codeAny_mono (F.run A X.stack s H ⟨[.ref a, .ref b], []⟩ [.ref a, .ref b] [.ref a, .ref b] _ E sb.room e0 (by
    have := hb s [.ref a, .ref b] I.kIn (by simpa using hl)
    simpa using this) r2 hsp) fun r' s' hq => ?_)
  cases r' with
  | error e => exact hx pins σ H s e s' I hq
  | ok fl =>
    cases fl with
    | ret w =>
      obtain ⟨z, H', I', rz, ez, ex⟩ := I.after hq
      subst ez
      cases rz
      exact ⟨rfl, H', I', ex⟩
    | next => exact False.elim hq
    | brk => exact False.elim hq
    | cont => exact False.elim hq
/-- x == y as an expression -/
def rEqB (D : EqvB) : R2 := fun x y H Q => ∃ r, D x y r H ∧ ∀ H', L2.Ext H H' → Q (.bl r) H'
theorem op_eqB (h : RcB X n D) (hr : Room n X.A) : OpR X (compareOp .Eq) (rEqB D) := by
  intro pins s σ H x y v u Q I rx ry hq
  obtain ⟨r, d, q⟩ := hq
  show wpAny (model X.prog X.w) X.A (richCompare .Eq v u) (EP X pins σ Q) X.xe s
  refine wpAny_mono (h X.A pins s σ H x y r v u ⟨hr, rfl⟩ I rx ry d) (fun r' s' z => ?_) fun _ _ x => x
  obtain ⟨hr', H', I', e⟩ := z
  subst hr'
  exact ⟨.bl r, H', I', rfl, q H' e⟩
end
end TP

namespace TP
open PySem PySem.Spec PyProof.Rows L2
/-! ### any two effects compared -/
def eqRB (C : Addr) (G : Gen) (n : Nat) (a b : Addr) (r : Bool) (H : Hp) : Prop := ∃ S S' e e', Ec C S G H n (.ref a) e ∧ Ec C S' G H n (.ref b) e' ∧ (r = true ↔ e = e')
theorem eqRB_mon {C : Addr} {G : Gen} {n : Nat} : ∀ (a b : Addr) (r : Bool) (H H' : Hp), L2.Ext H H' → eqRB C G n a b r H → eqRB C G n a b r H' := fun a b r H H' x ⟨S, S', e, e', h1, h2, h3⟩ => ⟨S, S', e, e', h1.ext x, h2.ext x, h3⟩
def memB (C : Addr) (G : Gen) (n : Nat) : EqvB := orB ScB (DInsB C (eqRB C G n))
theorem mon_memB {C : Addr} {G : Gen} {n : Nat} : MonB (memB C G n) := MonB.or mon_scB (mon_insB eqRB_mon)
def atomB (K : PySem.W.Frag) (av bv : V) (r : Bool) (H : Hp) : Prop := (isSc av = true ∧ isSc bv = true ∧ (r = true ↔ av = bv)) ∨ DScT K av bv r H ∨ DTupB K ScB av bv r H
theorem scal_sc2 : ∀ {x y : V}, isSc x = true → isSc y = true → scal x y = true
  | .non, .non, _, _ => rfl
  | .non, .int _, _, _ => rfl
  | .non, .str _, _, _ => rfl
  | .int _, .non, _, _ => rfl
  | .int _, .int _, _, _ => rfl
  | .int _, .str _, _, _ => rfl
  | .str _, .non, _, _ => rfl
  | .str _, .int _, _, _ => rfl
  | .str _, .str _, _, _ => rfl
/-- two rows of atoms -/
theorem prsB_sc {H : Hp} : ∀ {xs ys : List V}, (∀ x ∈ xs, isSc x = true) → (∀ y ∈ ys, isSc y = true) → ∃ r, PrsB ScB H xs ys r ∧ (r = true ↔ xs = ys)
  | [], [], _, _ => ⟨true, rfl, by simp⟩
  | [], _ :: _, _, _ => ⟨false, rfl, by simp⟩
  | _ :: _, [], _, _ => ⟨false, rfl, by simp⟩
  | x :: xs, y :: ys, hx, hy => by
    obtain ⟨r, p, e⟩ := prsB_sc (H := H) (fun z h => hx z (List.mem_cons_of_mem _ h)) (fun z h => hy z (List.mem_cons_of_mem _ h))
    by_cases q : x = y
    · subst q
      exact ⟨r, .inl ⟨⟨hx x List.mem_cons_self, hy x List.mem_cons_self, by simp⟩, p⟩, by rw [e]; simp⟩
    · exact ⟨false, .inr ⟨⟨hx x List.mem_cons_self, hy y List.mem_cons_self, by simp [q]⟩, rfl⟩, by simp [q]⟩
/-- two atoms that effects hold -/
theorem atom_dec {K : PySem.W.Frag} {S S' : Addr → Prop} {G : Gen} {H : Hp} {av bv : V} {d e : D} (h : AtomAt S G H av d) (h' : AtomAt S' G H bv e) : ∃ r, atomB K av bv r H ∧ (r = true ↔ d = e) := by
  rcases h with ⟨rfl, c⟩ | ⟨p, xs, rfl, rfl, _, hp, _, hx⟩
  · rcases h' with ⟨rfl, c'⟩ | ⟨q, ys, rfl, rfl, _, hq, _, hy⟩
    · refine ⟨deq (.sc av) (.sc bv), .inl ⟨G.sc _ c, G.sc _ c', ?_⟩, deq_iff⟩
      rw [deq_iff]
      exact ⟨fun z => by injection z, fun z => by rw [z]⟩
    · exact ⟨false, .inr (.inl ⟨rfl, .inl ⟨G.sc _ c, q, ys, rfl, .inl (.inl hq)⟩⟩), ⟨(fun z => nomatch z), fun z => nomatch z⟩⟩
  · rcases h' with ⟨rfl, c'⟩ | ⟨q, ys, rfl, rfl, _, hq, _, hy⟩
    · exact ⟨false, .inr (.inl ⟨rfl, .inr ⟨G.sc _ c', p, xs, rfl, .inl (.inl hp)⟩⟩), ⟨(fun z => nomatch z), fun z => nomatch z⟩⟩
    · obtain ⟨r, pr, e⟩ := prsB_sc (H := H) (fun x z => G.sc _ (hx x z)) (fun y z => G.sc _ (hy y z))
      exact ⟨r, .inr (.inr ⟨p, q, xs, ys, rfl, rfl, .inl (.inl hp), .inl (.inl hq), pr⟩), by rw [e]; exact ⟨fun z => by rw [z], fun z => by injection z⟩⟩
/-- two tuples, of which one and the same is equal to itself -/
def DTupC (K : PySem.W.Frag) (D : EqvB) : EqvB := fun x y r H => DTupB K D x y r H ∧ (x = y → r = true)
theorem mon_tupC {K : PySem.W.Frag} {D : EqvB} (hD : MonB D) : MonB (DTupC K D) := fun x y r H H' e d => ⟨mon_tupB hD x y r H H' e d.1, d.2⟩
theorem eqB_tupC {X : Cx} {n : Nat} {D : EqvB} (hD : MonB D) (h : EqB X n D) : EqB X (n + 1) (DTupC X.K D) :=
  RcB.eqB (fun A pins s σ H x y r u v sb I rx ry d => rcB_tup hD h A pins s σ H x y r u v sb I rx ry d.1) fun x y r H d => let ⟨a, b, _, _, h1, h2, _⟩ := d.1; ⟨a, b, h1, h2, fun z => d.2 (by rw [h1, h2, z])⟩
theorem bs_det {S S' : Addr → Prop} {H : Hp} : ∀ {bs cs : List Bs}, BsAt S H bs → BsAt S' H cs → bs.map (fun b => V.ref b.1) = cs.map (fun b => V.ref b.1) → bs = cs
  | [], [], _, _, _ => rfl
  | [], _ :: _, _, _, z => nomatch z
  | _ :: _, [], _, _, z => nomatch z
  | b :: bs, c :: cs, h1, h2, z => by
    obtain ⟨z1, z2⟩ := List.cons.inj z
    have p := (h1 b List.mem_cons_self).2
    have q := (h2 c List.mem_cons_self).2
    obtain ⟨b1, b2, b3⟩ := b
    obtain ⟨c1, c2, c3⟩ := c
    have e : b1 = c1 := by injection z1
    subst e
    simp only at p q
    rw [p] at q
    cases q
    rw [bs_det (fun x h => h1 x (List.mem_cons_of_mem _ h)) (fun x h => h2 x (List.mem_cons_of_mem _ h)) z2]
theorem atom_det {S S' : Addr → Prop} {G : Gen} {H : Hp} {av : V} {d e : D} (h : AtomAt S G H av d) (h' : AtomAt S' G H av e) : d = e := by
  rcases h with ⟨rfl, c⟩ | ⟨p, xs, rfl, rfl, _, hp, _, hx⟩
  · rcases h' with ⟨rfl, c'⟩ | ⟨q, ys, rfl, rfl, _⟩
    · rfl
    · exact nomatch G.sc _ c
  · rcases h' with ⟨rfl, c'⟩ | ⟨q, ys, rfl, z, _, hq, _, hy⟩
    · exact nomatch G.sc _ c'
    · cases z
      rw [hp] at hq
      cases hq
      rfl
/-- one object stands for one effect -/
theorem ec_det {C : Addr} {S S' : Addr → Prop} {G : Gen} {H : Hp} : ∀ {n : Nat} {v : V} {e e' : Ef}, Ec C S G H n v e → Ec C S' G H n v e' → e = e'
  | 0, _, _, _, h, _ => (show False from h).elim
  | n + 1, v, e, e', h1, h2 => by
    obtain ⟨a', dx, kd, av, t, bs, ea, sa, ha, st, ⟨o, od, ht⟩, hb, nb, kb, h1⟩ := h1
    obtain ⟨b', dy, kd', bv, u, cs, eb, sb, hb', su, ⟨o', od', hu⟩, hc, nc, kc, h2⟩ := h2
    subst ea
    cases eb
    rw [ha] at hb'
    injection hb' with hb'
    injection hb' with _ _ hf
    have q1 : kd = kd' := by
      have := eflds_kind kd av t
      rw [hf, eflds_kind] at this
      injection this with this
      injection this with this
      exact this.symm
    have q2 : av = bv := by
      have := eflds_atom kd av t
      rw [hf, eflds_atom] at this
      injection this with this
      exact this.symm
    have q3 : t = u := by
      have := eflds_mem kd av t
      rw [hf, eflds_mem] at this
      injection this with this
      injection this with this
      exact this.symm
    subst q1 q2 q3
    rw [ht] at hu
    injection hu with hu
    injection hu with _ hu
    injection hu with hu
    cases bs_det hb hc hu
    cases e <;> cases e' <;> first | rfl | exact h1.elim | exact h2.elim | skip
    all_goals first | (exact absurd (h1.1.symm.trans h2.1) (by decide +kernel)) | skip
    · exact congrArg Ef.set (atom_det h1.2.2 h2.2.2)
    · refine congrArg Ef.merge (funext fun k => ?_)
      by_cases hk : k ∈ bs.map (fun b => b.2.1)
      · obtain ⟨b, hb, rfl⟩ := List.mem_map.mp hk
        exact ec_det (h1.2.2.2 b hb) (h2.2.2.2 b hb)
      · rw [h1.2.2.1 k hk, h2.2.2.1 k hk]
    · refine congrArg Ef.build (funext fun k => ?_)
      by_cases hk : k ∈ bs.map (fun b => b.2.1)
      · obtain ⟨b, hb, rfl⟩ := List.mem_map.mp hk
        exact ec_det (h1.2.2.2 b hb) (h2.2.2.2 b hb)
      · rw [h1.2.2.1 k hk, h2.2.2.1 k hk]
/-- two rows of members -/
theorem prs_memB {C : Addr} {S S' : Addr → Prop} {G : Gen} {H : Hp} {n : Nat} {K : PySem.W.Frag} {f g : Str → Ef} : ∀ {bs cs : List Bs}, BsAt S H bs → BsAt S' H cs → (∀ b ∈ bs, Ec C S G H n b.2.2 (f b.2.1)) → (∀ b ∈ cs, Ec C S' G H n b.2.2 (g b.2.1)) →
    ∃ r, PrsB (DTupC K (memB C G n)) H (bs.map fun b => V.ref b.1) (cs.map fun b => V.ref b.1) r ∧ (r = true ↔ bs.map (fun b => b.2.1) = cs.map (fun b => b.2.1) ∧ ∀ b ∈ bs, f b.2.1 = g b.2.1)
  | [], [], _, _, _, _ => ⟨true, rfl, by simp⟩
  | [], _ :: _, _, _, _, _ => ⟨false, rfl, by simp⟩
  | _ :: _, [], _, _, _, _ => ⟨false, rfl, by simp⟩
  | b :: bs, c :: cs, b1, c1, eb, ec => by
    obtain ⟨r, p, e⟩ := prs_memB (K := K) (bs := bs) (cs := cs) (fun x h => b1 x (List.mem_cons_of_mem _ h)) (fun x h => c1 x (List.mem_cons_of_mem _ h)) (fun x h => eb x (List.mem_cons_of_mem _ h)) (fun x h => ec x (List.mem_cons_of_mem _ h))
    have tb : SqT K H b.1 [.str b.2.1, b.2.2] := .inl (.inl (b1 b List.mem_cons_self).2)
    have tc : SqT K H c.1 [.str c.2.1, c.2.2] := .inl (.inl (c1 c List.mem_cons_self).2)
    have e1 := eb b List.mem_cons_self
    have e2 := ec c List.mem_cons_self
    by_cases q : b.2.1 = c.2.1
    · obtain ⟨a1, dx1, av1, t1, h1, _, ha1⟩ := e1.fields
      obtain ⟨a2, dx2, av2, t2, h2, _, ha2⟩ := e2.fields
      have key : memB C G n (.str b.2.1) (.str c.2.1) true H := .inl ⟨rfl, rfl, by rw [q]; simp⟩
      have mem : ∀ r', (r' = true ↔ f b.2.1 = g c.2.1) → memB C G n b.2.2 c.2.2 r' H := fun r' z => by
        rw [h1] at e1 ⊢
        rw [h2] at e2 ⊢
        exact .inr ⟨a1, a2, dx1, dx2, _, _, rfl, rfl, ha1, ha2, S, S', _, _, e1, e2, z⟩
      by_cases z : f b.2.1 = g c.2.1
      · have m := mem true (by simp [z])
        refine ⟨r, .inl ⟨⟨⟨b.1, c.1, _, _, rfl, rfl, tb, tc, .inl ⟨key, .inl ⟨m, rfl⟩⟩⟩, fun _ => rfl⟩, p⟩, ?_⟩
        rw [e, List.map_cons, List.map_cons, q]
        constructor
        · rintro ⟨z1, z2⟩
          refine ⟨by rw [z1], fun x hx => ?_⟩
          rcases List.mem_cons.mp hx with rfl | hx
          · rw [z, q]
          · exact z2 x hx
        · rintro ⟨z1, z2⟩
          exact ⟨(List.cons.inj z1).2, fun x hx => z2 x (List.mem_cons_of_mem _ hx)⟩
      · have m := mem false (by simp [z])
        refine ⟨false, .inr ⟨⟨⟨b.1, c.1, _, _, rfl, rfl, tb, tc, .inl ⟨key, .inr ⟨m, rfl⟩⟩⟩, fun w => ?_⟩, rfl⟩, ⟨(fun z => nomatch z), fun ⟨_, z2⟩ => ?_⟩⟩
        · have hb := (b1 b List.mem_cons_self).2
          have hc := (c1 c List.mem_cons_self).2
          rw [show b.1 = c.1 by injection w, hc] at hb
          injection hb with hb
          injection hb with hb
          have e2' := ec c List.mem_cons_self
          rw [(List.cons.inj (List.cons.inj hb).2).1] at e2'
          exact absurd (ec_det (eb b List.mem_cons_self) e2') z
        · exact absurd (by rw [z2 b List.mem_cons_self, q]) z
    · have key : memB C G n (.str b.2.1) (.str c.2.1) false H := .inl ⟨rfl, rfl, ⟨(fun z => nomatch z), fun z => absurd (by injection z) q⟩⟩
      refine ⟨false, .inr ⟨⟨⟨b.1, c.1, _, _, rfl, rfl, tb, tc, .inr ⟨key, rfl⟩⟩, fun w => ?_⟩, rfl⟩, ⟨(fun z => nomatch z), fun ⟨z1, _⟩ => ?_⟩⟩
      · have hb := (b1 b List.mem_cons_self).2
        have hc := (c1 c List.mem_cons_self).2
        rw [show b.1 = c.1 by injection w, hc] at hb
        injection hb with hb
        injection hb with hb
        exact absurd (by injection (List.cons.inj hb).1 with q'; exact q'.symm) q
      · exact absurd (List.cons.inj z1).1 q
/-- the same members, by their rows -/
theorem mem_iff {C : Addr} {S S' : Addr → Prop} {G : Gen} {H : Hp} {n : Nat} {bs cs : List Bs} {f g : Str → Ef} (nb : NdS (bs.map fun b => b.2.1)) (nc : NdS (cs.map fun b => b.2.1))
    (fb : ∀ k, k ∉ bs.map (fun b => b.2.1) → f k = .no) (fc : ∀ k, k ∉ cs.map (fun b => b.2.1) → g k = .no) (eb : ∀ b ∈ bs, Ec C S G H n b.2.2 (f b.2.1)) (ec : ∀ b ∈ cs, Ec C S' G H n b.2.2 (g b.2.1)) :
    f = g ↔ bs.map (fun b => b.2.1) = cs.map (fun b => b.2.1) ∧ ∀ b ∈ bs, f b.2.1 = g b.2.1 := by
  constructor
  · rintro rfl
    refine ⟨?_, fun _ _ => rfl⟩
    have inb : ∀ k, k ∈ bs.map (fun b => b.2.1) ↔ f k ≠ .no := fun k => by
      constructor
      · intro h z
        obtain ⟨b, hb, rfl⟩ := List.mem_map.mp h
        have := (eb b hb).not_no
        rw [z] at this
        cases this
      · exact fun h => Classical.byContradiction fun z => h (fb k z)
    have inc : ∀ k, k ∈ cs.map (fun b => b.2.1) ↔ f k ≠ .no := fun k => by
      constructor
      · intro h z
        obtain ⟨b, hb, rfl⟩ := List.mem_map.mp h
        have := (ec b hb).not_no
        rw [z] at this
        cases this
      · exact fun h => Classical.byContradiction fun z => h (fc k z)
    exact ndS_eq nb nc fun k => (inb k).trans (inc k).symm
  · rintro ⟨z1, z2⟩
    funext k
    by_cases hk : k ∈ bs.map (fun b => b.2.1)
    · obtain ⟨b, hb, rfl⟩ := List.mem_map.mp hk
      exact z2 b hb
    · rw [fb k hk, fc k (by rw [← z1]; exact hk)]
/-- what two effects hold, compared field by field -/
def cmpE (K : PySem.W.Frag) (C : Addr) (G : Gen) (n : Nat) (H : Hp) (kd kd' : Str) (av bv : V) (xs ys : List V) (e e' : Ef) : Prop :=
  (kd ≠ kd' ∧ e ≠ e') ∨ (kd = kd' ∧ ((atomB K av bv false H ∧ e ≠ e') ∨ (atomB K av bv true H ∧ ∃ r, PrsB (DTupC K (memB C G n)) H xs ys r ∧ (r = true ↔ e = e'))))
theorem ec_dec {C : Addr} {S S' : Addr → Prop} {G : Gen} {H : Hp} {n : Nat} {K : PySem.W.Frag} {a b : Addr} {e e' : Ef} (h1 : Ec C S G H (n + 1) (.ref a) e) (h2 : Ec C S' G H (n + 1) (.ref b) e') :
    ∃ dx dy kd kd' av bv t u xs ys, H a = some (.ins C dx (eflds kd av t)) ∧ H b = some (.ins C dy (eflds kd' bv u)) ∧ TpX H t xs ∧ TpX H u ys ∧ cmpE K C G n H kd kd' av bv xs ys e e' := by
  obtain ⟨a', dx, kd, av, t, bs, ea, sa, ha, st, ht, hb, nb, kb, h1⟩ := h1
  obtain ⟨b', dy, kd', bv, u, cs, eb, sb, hb', su, hu, hc, nc, kc, h2⟩ := h2
  cases ea; cases eb
  refine ⟨dx, dy, kd, kd', av, bv, t, u, _, _, ha, hb', ht, hu, ?_⟩
  have kne : kd ≠ kd' → e ≠ e' → cmpE K C G n H kd kd' av bv (bs.map fun b => V.ref b.1) (cs.map fun b => V.ref b.1) e e' := fun z z' => .inl ⟨z, z'⟩
  have nn : atomB K .non .non true H := .inl ⟨rfl, rfl, by simp⟩
  cases e with
  | no => exact h1.elim
  | keep =>
    obtain ⟨rfl, rfl, rfl⟩ := h1
    cases e' with
    | no => exact h2.elim
    | keep => obtain ⟨rfl, rfl, rfl⟩ := h2; exact .inr ⟨rfl, .inr ⟨nn, true, rfl, by simp⟩⟩
    | drop => obtain ⟨rfl, _⟩ := h2; exact kne (by decide +kernel) (fun z => nomatch z)
    | set d => obtain ⟨rfl, _⟩ := h2; exact kne (by decide +kernel) (fun z => nomatch z)
    | merge f => obtain ⟨rfl, _⟩ := h2; exact kne (by decide +kernel) (fun z => nomatch z)
    | build f => obtain ⟨rfl, _⟩ := h2; exact kne (by decide +kernel) (fun z => nomatch z)
  | drop =>
    obtain ⟨rfl, rfl, rfl⟩ := h1
    cases e' with
    | no => exact h2.elim
    | keep => obtain ⟨rfl, _⟩ := h2; exact kne (by decide +kernel) (fun z => nomatch z)
    | drop => obtain ⟨rfl, rfl, rfl⟩ := h2; exact .inr ⟨rfl, .inr ⟨nn, true, rfl, by simp⟩⟩
    | set d => obtain ⟨rfl, _⟩ := h2; exact kne (by decide +kernel) (fun z => nomatch z)
    | merge f => obtain ⟨rfl, _⟩ := h2; exact kne (by decide +kernel) (fun z => nomatch z)
    | build f => obtain ⟨rfl, _⟩ := h2; exact kne (by decide +kernel) (fun z => nomatch z)
  | set d =>
    obtain ⟨rfl, rfl, at1⟩ := h1
    cases e' with
    | no => exact h2.elim
    | keep => obtain ⟨rfl, _⟩ := h2; exact kne (by decide +kernel) (fun z => nomatch z)
    | drop => obtain ⟨rfl, _⟩ := h2; exact kne (by decide +kernel) (fun z => nomatch z)
    | set d' =>
      obtain ⟨rfl, rfl, at2⟩ := h2
      obtain ⟨r, q, z⟩ := atom_dec (K := K) at1 at2
      cases r with
      | true => exact .inr ⟨rfl, .inr ⟨q, true, rfl, by simpa using z⟩⟩
      | false => exact .inr ⟨rfl, .inl ⟨q, fun e => by injection e with e; exact nomatch z.mpr e⟩⟩
    | merge f => obtain ⟨rfl, _⟩ := h2; exact kne (by decide +kernel) (fun z => nomatch z)
    | build f => obtain ⟨rfl, _⟩ := h2; exact kne (by decide +kernel) (fun z => nomatch z)
  | merge f =>
    obtain ⟨rfl, rfl, f1, m1⟩ := h1
    cases e' with
    | no => exact h2.elim
    | keep => obtain ⟨rfl, _⟩ := h2; exact kne (by decide +kernel) (fun z => nomatch z)
    | drop => obtain ⟨rfl, _⟩ := h2; exact kne (by decide +kernel) (fun z => nomatch z)
    | set d => obtain ⟨rfl, _⟩ := h2; exact kne (by decide +kernel) (fun z => nomatch z)
    | merge g =>
      obtain ⟨rfl, rfl, f2, m2⟩ := h2
      obtain ⟨r, p, z⟩ := prs_memB (K := K) hb hc m1 m2
      exact .inr ⟨rfl, .inr ⟨nn, r, p, by rw [z, ← mem_iff nb nc f1 f2 m1 m2]; exact ⟨fun z => by rw [z], fun z => by injection z⟩⟩⟩
    | build g => obtain ⟨rfl, _⟩ := h2; exact kne (by decide +kernel) (fun z => nomatch z)
  | build f =>
    obtain ⟨rfl, rfl, f1, m1⟩ := h1
    cases e' with
    | no => exact h2.elim
    | keep => obtain ⟨rfl, _⟩ := h2; exact kne (by decide +kernel) (fun z => nomatch z)
    | drop => obtain ⟨rfl, _⟩ := h2; exact kne (by decide +kernel) (fun z => nomatch z)
    | set d => obtain ⟨rfl, _⟩ := h2; exact kne (by decide +kernel) (fun z => nomatch z)
    | merge g => obtain ⟨rfl, _⟩ := h2; exact kne (by decide +kernel) (fun z => nomatch z)
    | build g =>
      obtain ⟨rfl, rfl, f2, m2⟩ := h2
      obtain ⟨r, p, z⟩ := prs_memB (K := K) hb hc m1 m2
      exact .inr ⟨rfl, .inr ⟨nn, r, p, by rw [z, ← mem_iff nb nc f1 f2 m1 m2]; exact ⟨fun z => by rw [z], fun z => by injection z⟩⟩⟩
section
variable [TabL] {P : Program} {w : World} {K : PySem.W.Frag} {mg : Str → Option Value} {base : Heap}
theorem eqB_mem {X : Cx} {C f : Addr} {fd : FuncData} {G : Gen} {n m : Nat} {CX : CXT} {E : XK} (F : FnOk X.prog X.w X.K X.mg X.base CX m f fd ["self", "other"] (spEqB (eqRB C G n)))
    (hs : PySem.W.findIn X.K (.ref C) "__eq__" = some (some (.ref f))) (hf : PySem.W.isFn X.K (.ref f) = true) (hb : Binds X.K fd ["self", "other"] []) (hx : Passes CX X E) : EqB X m (memB C G n) :=
  EqB.or (eqB_sc.mono (Nat.zero_le _)) (RcB.eqB (rcB_ins F hs hf hb hx) fun x y r H ⟨a, b, dx, dy, fs, gs, h1, h2, h3, h4, S, S', e, e', e1, e2, e3⟩ => ⟨a, b, h1, h2, fun z => by
    subst z
    exact e3.mpr (ec_det e1 e2)⟩)
theorem ok_eqB {C Pt fI f : Addr} {fdI fd : FuncData} {G : Gen} (Z : EFacts K mg base C Pt fI fdI) (IC : C8.InsC K C) (T : Bi mg) (F : Fun K "__eq__" "Effect.__eq__" sEqE f fd) (b : Binds K fd ["self", "other"] []) (he : PySem.W.findIn K (.ref C) "__eq__" = some (some (.ref f))) (hf : PySem.W.isFn K (.ref f) = true) :
    ∀ n, FnOk P w K mg base CX0 (3 * n + 1) f fd ["self", "other"] (spEqB (eqRB C G n))
  | 0 => fn_zero fun vs H Q E ⟨_, _, _, _, ⟨_, _, _, _, h, _⟩, _⟩ => h
  | n + 1 => by
    have ih := ok_eqB (G := G) Z IC T F b he hf n
    show FnOk P w K mg base CX0 ((3 * n + 3) + 1) f fd ["self", "other"] (spEqB (eqRB C G (n + 1)))
    refine F.ok scEqE (fun vs H Q E h => ?_) (fun cdv A outer s H vs Q E hr h => ?_)
    · obtain ⟨_, _, _, rfl, _⟩ := h
      rfl
    obtain ⟨x, y, r, rfl, ⟨S, S', e, e', h1, h2, hre⟩, k⟩ := h
    obtain ⟨dx, dy, kd, kd', av, bv, t, u, xs, ys, hx, hy, ht, hu, hc⟩ := ec_dec (K := K) h1 h2
    refine ⟨_, pss_one (ps_ret (pe_and (pe_callB (C8.call_isC IC) (by rfl) (T.of "isinstance") (by decide +kernel) (pa_cons (pv 1) (pa_cons (pe_glob (v := .ref C) (by rfl) Z.mgC rfl) pa_nil)))
      (pe_and (pe_cmpR op_eq (pe_fld (pv 0) rfl) (pe_fld (pv 1) rfl) (nomark _))
      (pe_and (pe_cmpR (opR_or op_eq (op_eqB (RcB.or (rcB_scT.mono (by omega)) ((rcB_tup mon_scB eqB_sc).mono (by omega))) (hr.mono (Nat.le_refl (3 * n + 3))))) (pe_fld (pv 0) rfl) (pe_fld (pv 1) rfl) (nomark _))
      (pe_one (pe_cmpR (op_eqB (rcB_tup (mon_tupC mon_memB) (eqB_tupC mon_memB (eqB_mem (E := E0) ih he hf b pass0))) hr) (pe_fld (pv 0) rfl) (pe_fld (pv 1) rfl) (nomark _))))))), ?_⟩
    refine ⟨.ref y, rfl, y, dy, _, rfl, hy, true, rfl, iteT ?_⟩
    refine ⟨.ref x, rfl, x, C, dx, _, _, rfl, hx, Z.cl, Z.nK, eflds_kind _ _ _, .ref y, rfl, y, C, dy, _, _, rfl, hy, Z.cl, Z.nK, eflds_kind _ _ _, rfl, _, rfl, ?_⟩
    have no : e ≠ e' → ∀ H', L2.Ext H H' → Q (.bl false) H' := fun z H' x => by
      have : r = false := by
        cases r with
        | true => exact absurd (hre.mp rfl) z
        | false => rfl
      subst this
      exact k H' x
    rcases hc with ⟨nk, ne⟩ | ⟨rfl, hc⟩
    · exact ifF (decide_eq_false fun z => nk (by injection z)) (no ne H Ext.rfl')
    refine ifT (decide_eq_true rfl) ?_
    refine ⟨.ref x, rfl, x, C, dx, _, _, rfl, hx, Z.cl, Z.nA, eflds_atom _ _ _, .ref y, rfl, y, C, dy, _, _, rfl, hy, Z.cl, Z.nA, eflds_atom _ _ _, ?_⟩
    have last : ∀ r', PrsB (DTupC K (memB C G n)) H xs ys r' → (r' = true ↔ e = e') → ∀ H', L2.Ext H H' → tOp (rEqB (DTupB K (DTupC K (memB C G n)))) (tFld K (tVar 0) "members") (tFld K (tVar 1) "members") (start ["self", "other"] [.ref x, .ref y]) H' Q := fun r' p z H' x' => by
      refine ⟨.ref x, rfl, x, C, dx, _, _, rfl, x' _ _ hx, Z.cl, Z.nM, eflds_mem _ _ _, .ref y, rfl, y, C, dy, _, _, rfl, x' _ _ hy, Z.cl, Z.nM, eflds_mem _ _ _, r', ⟨t, u, xs, ys, rfl, rfl, ?_, ?_, p.mon (mon_tupC mon_memB) x'⟩, fun H2 x2 => ?_⟩
      · obtain ⟨o, _, z⟩ := ht; exact .inl (.inr ⟨o, x' _ _ z⟩)
      · obtain ⟨o, _, z⟩ := hu; exact .inl (.inr ⟨o, x' _ _ z⟩)
      · have : r' = r := bool_of (z.trans hre.symm)
        rw [this]
        exact k H2 (Ext.trans x' x2)
    rcases hc with ⟨ha, ne⟩ | ⟨ha, r', p, z⟩
    · rcases ha with ⟨s1, s2, q⟩ | ha | ha
      · exact .inl ⟨scal_sc2 s1 s2, _, rfl, ifF (decide_eq_false fun z => nomatch q.mpr z) (no ne H Ext.rfl')⟩
      · exact .inr ⟨false, .inl ha, fun H' x' => ⟨false, rfl, iteF (no ne H' x')⟩⟩
      · exact .inr ⟨false, .inr ha, fun H' x' => ⟨false, rfl, iteF (no ne H' x')⟩⟩
    · rcases ha with ⟨s1, s2, q⟩ | ha | ha
      · exact .inl ⟨scal_sc2 s1 s2, _, rfl, ifT (decide_eq_true (q.mp rfl)) (last r' p z H Ext.rfl')⟩
      · exact .inr ⟨true, .inl ha, fun H' x' => ⟨true, rfl, iteT (last r' p z H' x')⟩⟩
      · exact .inr ⟨true, .inr ha, fun H' x' => ⟨true, rfl, iteT (last r' p z H' x')⟩⟩
end
end TP

namespace TP
open PySem PySem.Spec PyProof.Rows L2
/-! ### != of objects whose class has its own == alone, as a decision -/
def rNeB (D : EqvB) : R2 := fun x y H Q => ∃ r, D x y r H ∧ ∀ H', L2.Ext H H' → Q (.bl (!r)) H'
theorem op_neB {X : Cx} {CX : CXT} {k : Nat} {f C : Addr} {fd : FuncData} {R : Addr → Addr → Bool → Hp → Prop} {E : XK} {ps : List Str}
    (G : FnOk X.prog X.w X.K X.mg X.base CX k f fd ps (spEqB R)) (hr : Room (k + 1) X.A) (b : Binds X.K fd ps []) (px : Passes CX X E) (N : ∀ h : Heap, X.K.In h → ClsNe h C f) : OpR X (compareOp .NotEq) (rNeB (DInsB C R)) := by
  intro pins s σ H x y v u Q I rx ry h
  obtain ⟨r, ⟨a, c, dx, dy, fs, gs, rfl, rfl, ha, hc, hR⟩, hq⟩ := h
  cases (show v = Value.ref a from rx)
  cases (show u = Value.ref c from ry)
  obtain ⟨oa, ia⟩ := inst_at I ha
  obtain ⟨oc, ic⟩ := inst_at I hc
  obtain ⟨of, nm, q, Na, bs, hdct, sn, sub, ab, col, dd, k0, k1, k2, k3, k5, newId, mN, n1, n2, n3, n4, n5, n6⟩ := N _ I.kIn
  have hr1 : Room k X.A.in1 := (Sub.in1 (X := X) ⟨hr, rfl⟩).room
  have own : s.heap.OwnEqNoNe a C f "object" [.type "object"] := ⟨_, of, nm, q, Na, bs, hdct, sn, sub, ab, col, dd, k0, k1, k2, k3, k5, newId, mN, some (.builtin "object.__eq__"), ia.at_, ia.cls, n1, n2, n3, n4, n5, rfl, rfl, n6⟩
  refine PySem.compareOp_ne_ownEq PySem.F.cmp_object own ic.at_ ic.cls (by have := hr.un; omega) ?_
  have hs : spEqB R [.ref a, .ref c] H (fun v H' => v = .bl r ∧ L2.Ext H H') E := ⟨a, c, r, rfl, hR, fun H' x => ⟨rfl, x⟩⟩
  have e0 := I.env0
  refine PySem.wpAny_call (PySem.codeAny_mono (G.run X.A.in1 X.stack s H ⟨[.ref a, .ref c], []⟩ [.ref a, .ref c] [.ref a, .ref c] _ E hr1 ⟨e0.frames, e0.mod, e0.bs, e0.bsz, e0.funs, e0.frf, e0.hok, e0.bare⟩ ?_ (.cons rx (.cons ry .nil)) hs) ?_)
  · have := G.len _ _ _ _ hs
    exact b s [.ref a, .ref c] I.kIn (by simpa using this)
  · rintro r' s2 h
    match r', h with
    | .ok (.ret u), h =>
      obtain ⟨v2, H2, I2, rv, hv, x⟩ := I.after h
      subst hv
      cases (show u = Value.bool r from rv)
      exact ⟨r, rfl, .bl (!r), H2, I2, rfl, hq H2 x⟩
    | .error e, h => exact px pins σ H _ e s2 I h
    | .ok .next, h => exact h.elim
    | .ok .brk, h => exact h.elim
    | .ok .cont, h => exact h.elim
/-! ### an own == asked about what is no object of the class -/
/-- what is no object of a class of the text: atoms, tuples, lists -/
def NoIns (K : PySem.W.Frag) (x : V) (H : Hp) : Prop := isSc x = true ∨ (∃ a xs, x = .ref a ∧ SqT K H a xs) ∨ ∃ a xs, x = .ref a ∧ H a = some (.lst xs)
end TP

namespace TP
open PySem PySem.Spec PyProof.Rows L2
/-! ### != of two tuples, as a decision -/
section
open PySem.SeqAt
open AutoSeq1 (wpAny_loadPart')
variable {prog : Program} {w : World} {A : Around} {R : Result → Shared → Prop}
theorem tuple_neB (l b : Addr) (items items2 : Array Value) (n n2 : Nat) (dd dd2 : Option Addr) (sl sl2 : Array (Option Value)) (J : List Value → List Value → Shared → Prop)
    (turn : ∀ u us v vs s, J (u :: us) (v :: vs) s → wpAny (model prog w) A.in1 (eqBool u v) (fun r s' => (r = true ∧ J us vs s') ∨ (r = false ∧ R (.ok (.ret (.bool true))) s')) (fun e s' => R (.error e) s') s)
    (fin : ∀ us vs s, (us = [] ∨ vs = []) → J us vs s → R (.ok (.ret (.bool (us.length != vs.length)))) s) {s : Shared} (hl1 : s.heap.get? l = some { cls := .type "tuple", dict := dd, data := .seq items n, slots := sl }) (hb1 : s.heap.get? b = some { cls := .type "tuple", dict := dd2, data := .seq items2 n2, slots := sl2 }) (h : J items.toList items2.toList s) :
    wpAny (model prog w) A.in1 (Builtin.«tuple.__ne__» ⟨[.ref l, .ref b], []⟩) (GQ.FinOf prog w A R) (fun e s' => R (.error e) s') s := by
  have f2 := AutoSeq1.sub_tuple_tuple
  have h0 := h
  obtain ⟨hp, g, d, tk, os⟩ := s
  wp_walk using wpAny_loadPart' hl1, wpAny_loadPart' hb1, wpAny_forIn_list _ (fun rest b s' => b.1 = none ∧ ∃ us vs, rest = us.zip vs ∧ (us.length == vs.length) = (items.size == items2.size) ∧ J us vs s') _
  case turn =>
    rintro ⟨y, x⟩ rest b s' ⟨hb', us, vs, hz, hl, hI⟩
    match us, vs, hz, hl, hI with
    | [], _, hz, _, _ => simp at hz
    | _ :: _, [], hz, _, _ => simp at hz
    | u :: us, v :: vs, hz, hl, hI =>
      simp only [List.zip_cons_cons, List.cons.injEq, Prod.mk.injEq] at hz
      obtain ⟨⟨rfl, rfl⟩, rfl⟩ := hz
      refine wpAny_bind (wpAny_mono (turn _ _ _ _ s' hI) (fun r s2 q2 => ?_) fun _ _ x => x)
      rcases q2 with ⟨rfl, q2⟩ | ⟨rfl, q2⟩
      · wp_walk
        exact ⟨rfl, us, vs, rfl, by simpa using hl, q2⟩
      · wp_walk
        exact q2
  case fin =>
    rintro ⟨b1, b2⟩ s' ⟨hb', us, vs, hz, hl, hI⟩
    simp only at hb'
    subst hb'
    have e : us = [] ∨ vs = [] := by
      cases us with
      | nil => exact .inl rfl
      | cons u us =>
        cases vs with
        | nil => exact .inr rfl
        | cons v vs => simp at hz
    have hR : R (.ok (.ret (.bool (us.length != vs.length)))) s' := fin us vs s' e hI
    rw [show (us.length != vs.length) = (items.size != items2.size) by rw [bne, bne, hl]] at hR
    wp_walk
    simpa [Builtin.Tuple.tupleCompareSizes] using hR
  case h =>
    exact ⟨rfl, _, _, rfl, by simp, h0⟩
end
section
variable {prog : Program} {w : World} {A : Around} {E : Value → Shared → Prop} {s : Shared}
theorem rc_tupNeB {l b : Addr} {items items2 : Array Value} {Q : Value → Shared → Prop} (hu : A.units < cLine) (J : List Value → List Value → Shared → Prop) (hl : s.heap.IsTuple l items) (hb : s.heap.IsTuple b items2)
    (turn : ∀ u us v vs s, J (u :: us) (v :: vs) s → wpAny (model prog w) A.in1 (eqBool u v) (fun r s' => (r = true ∧ J us vs s') ∨ (r = false ∧ Q (.bool true) s')) E s)
    (fin : ∀ us vs s, (us = [] ∨ vs = []) → J us vs s → Q (.bool (us.length != vs.length)) s) (h : J items.toList items2.toList s) : wpAny (model prog w) A (richCompare .NotEq (.ref l) (.ref b)) Q E s := by
  obtain ⟨⟨cls, dd, data, sl⟩, ho, hc, n, hd⟩ := id hl
  obtain ⟨⟨cls2, dd2, data2, sl2⟩, ho2, hc2, n2, hd2⟩ := id hb
  simp only at hc hd hc2 hd2
  subst hc hd hc2 hd2
  refine wpAny_richCompare_same_room (op := .NotEq) ⟨_, ho, rfl⟩ ⟨_, ho2, rfl⟩ F.slot_tuple_ne (GQ.call_here F.slot_tuple_ne ⟨_, ho, rfl⟩ F.entry_tuple_ne (F.args_tuple_ne_2 _ _) ?_) hu
  exact tuple_neB (R := wants (fun v s' => v ≠ .notImplemented ∧ Q v s') E) l b items items2 n n2 dd dd2 sl sl2 J (fun u us v vs s' q => wpAny_mono (turn u us v vs s' q) (fun r s2 z => z.imp id fun ⟨z1, z2⟩ => ⟨z1, (show (Value.bool true ≠ Value.notImplemented) ∧ Q (Value.bool true) s2 from ⟨(fun x => nomatch x), z2⟩)⟩) fun _ _ x => x) (fun us vs s' e q => ⟨(fun x => nomatch x), fin us vs s' e q⟩) ho ho2 h
end
section
variable {X : Cx} {n : Nat} {D : EqvB}
theorem op_neTupB (hD : MonB D) (h : EqB X n D) (hr : Room (n + 1) X.A) : OpR X (compareOp .NotEq) (rNeB (DTupB X.K D)) := by
  intro pins s σ H x y v u Q I rx ry hq
  obtain ⟨r, ⟨a, b, xs, ys, rfl, rfl, ha, hb, p⟩, q⟩ := hq
  cases (show v = Value.ref a from rx)
  cases (show u = Value.ref b from ry)
  have sb : Sub X (n + 1) X.A := ⟨hr, rfl⟩
  obtain ⟨its, r1, e, z⟩ := I.tuple ha
  obtain ⟨its2, r2, e2, z2⟩ := I.tuple hb
  show wpAny (model X.prog X.w) X.A (richCompare .NotEq (.ref a) (.ref b)) (EP X pins σ Q) X.xe s
  have fin : ∀ (b : Bool) (H1 : Hp) (s' : Shared), b = (!r) → Inv X pins σ H1 s' → L2.Ext H H1 → EP X pins σ Q (Value.bool b) s' := fun b H1 s' e I1 x => ⟨.bl b, H1, I1, rfl, by rw [e]; exact q H1 x⟩
  refine rc_tupNeB sb.room.units0 (fun us vs s' => ∃ xs ys H', Vals xs us ∧ Vals ys vs ∧ Inv X pins σ H' s' ∧ L2.Ext H H' ∧ PrsB D H' xs ys r) e e2 ?_ ?_ ⟨xs, ys, H, by simpa using r1, by simpa using r2, I, Ext.rfl', p⟩
  · rintro u us v vs s' ⟨xs, ys, H1, rs, rt, I1, e1, p1⟩
    cases rs with
    | cons ru rs =>
      cases rt with
      | cons rv rt =>
        rcases p1 with ⟨d1, p1⟩ | ⟨d1, rfl⟩
        · refine wpAny_mono (h X.A.in1 pins s' σ H1 _ _ true u v sb.in1 I1 ru rv d1) (fun r' s2 q => ?_) fun _ _ x => x
          obtain ⟨rfl, H2, I2, e2⟩ := q
          exact .inl ⟨rfl, _, _, H2, rs, rt, I2, e1.trans e2, p1.mon hD e2⟩
        · refine wpAny_mono (h X.A.in1 pins s' σ H1 _ _ false u v sb.in1 I1 ru rv d1) (fun r' s2 q => ?_) fun _ _ x => x
          obtain ⟨rfl, H2, I2, e2⟩ := q
          exact .inr ⟨rfl, fin true H2 s2 rfl I2 (e1.trans e2)⟩
  · rintro us vs s' ev ⟨xs, ys, H1, rs, rt, I1, e1, p1⟩
    refine fin _ H1 s' ?_ I1 e1
    cases rs with
    | nil =>
      rw [show r = ys.isEmpty from p1]
      cases rt <;> rfl
    | cons _ rs =>
      cases rt with
      | nil => rw [show r = false from p1]; rfl
      | cons _ _ => rcases ev with ev | ev <;> cases ev
end
/-! ### a wider world of documents -/
theorem Ec.gen {C : Addr} {S : Addr → Prop} {G G' : Gen} {H : Hp} (hk : ∀ k ∈ G.KS, k ∈ G'.KS) (hc : ∀ v, G.C v = true → G'.C v = true) (hl : G.L ≤ G'.L) : ∀ {n : Nat} {v : V} {e : Ef}, Ec C S G H n v e → Ec C S G' H n v e
  | 0, _, _, h => h
  | n + 1, v, e, ⟨a, dx, kd, av, t, bs, ev, sa, ha, st, ht, hb, nd, ks, h⟩ => by
    refine ⟨a, dx, kd, av, t, bs, ev, sa, ha, st, ht, hb, nd, fun b hb => hk _ (ks b hb), ?_⟩
    cases e with
    | no => exact h
    | keep => exact h
    | drop => exact h
    | set d =>
      refine ⟨h.1, h.2.1, ?_⟩
      rcases h.2.2 with ⟨q, c⟩ | ⟨ta, xs, q1, q2, s, r, l, c⟩
      · exact .inl ⟨q, hc _ c⟩
      · exact .inr ⟨ta, xs, q1, q2, s, r, Nat.le_trans l hl, fun x hx => hc _ (c x hx)⟩
    | merge f => exact ⟨h.1, h.2.1, h.2.2.1, fun b hb => (h.2.2.2 b hb).gen hk hc hl⟩
    | build f => exact ⟨h.1, h.2.1, h.2.2.1, fun b hb => (h.2.2.2 b hb).gen hk hc hl⟩
end TP

namespace TP
open PySem PySem.Spec PyProof.Rows L2
/-! ### sums of effects -/
/-- what a row asks for at a member: nothing asked for leaves the other -/
def jn (x y : Ef) : Ef := if y.isNo then x else if x.isNo then y else x.fol y
def unN (x : Ef) : Ef := if x.isNo then .drop else x
def unD (x : Ef) : Ef := if x.isDrop then .no else x
/-- the same at a member of what is always one object -/
def bl (x y : Ef) : Ef := if y.isNo then x else unD ((unN x).fol y)
theorem fol_mm (f g : Str → Ef) : (Ef.merge f).fol (.merge g) = .merge fun k => jn (f k) (g k) := by
  rw [Ef.fol]; rfl
/-- what is always one thing -/
def Cst (e : Ef) : Prop := e = .no ∨ e = .drop ∨ (∃ d, e = .set d) ∨ ∃ f, e = .build f
theorem fol_cm {a : Ef} (h : Cst a) (g : Str → Ef) : a.fol (.merge g) = .build fun k => bl (a.mem k) (g k) := by
  rcases h with rfl | rfl | ⟨d, rfl⟩ | ⟨f, rfl⟩ <;> (rw [Ef.fol] <;> first | rfl | exact fun _ z => nomatch z | (intro z; nomatch z))
theorem fol_c {a : Ef} (e : Ef) (h : Cst a) : e.fol a = a := by
  rcases h with rfl | rfl | ⟨d, rfl⟩ | ⟨f, rfl⟩ <;> cases e <;> rfl
theorem fol_k (e : Ef) : e.fol .keep = e := by cases e <;> rfl
theorem k_fol (e : Ef) : Ef.keep.fol e = e := by cases e <;> rfl
theorem ef_ways (e : Ef) : e = .keep ∨ Cst e ∨ ∃ f, e = .merge f := by
  cases e with
  | no => exact .inr (.inl (.inl rfl))
  | keep => exact .inl rfl
  | drop => exact .inr (.inl (.inr (.inl rfl)))
  | set d => exact .inr (.inl (.inr (.inr (.inl ⟨d, rfl⟩))))
  | merge f => exact .inr (.inr ⟨f, rfl⟩)
  | build f => exact .inr (.inl (.inr (.inr (.inr ⟨f, rfl⟩))))
theorem unN_no (x : Ef) : (unN x).isNo = false := by cases x <;> rfl
theorem unN_id {x : Ef} (h : x.isNo = false) : unN x = x := by rw [unN, h]; rfl
theorem unN_unD {x : Ef} (h : x.isNo = false) : unN (unD x) = x := by cases x <;> first | rfl | cases h
theorem jn_asc {x y z : Ef} (ih : ∀ a b, (Ef.fol a b).fol z = a.fol (b.fol z)) : jn (jn x y) z = jn x (jn y z) := by
  unfold jn
  by_cases hz : z.isNo = true
  · simp [hz]
  · by_cases hy : y.isNo = true
    · simp [hz, hy]
    · have nyz : (y.fol z).isNo = false := fol_no (by simpa using hy) (by simpa using hz)
      by_cases hx : x.isNo = true
      · simp [hz, hy, hx, nyz]
      · have nxy : (x.fol y).isNo = false := fol_no (by simpa using hx) (by simpa using hy)
        simp [hz, hy, hx, nyz, nxy, ih]
theorem bl_asc {x y z : Ef} (ih : ∀ a b, (Ef.fol a b).fol z = a.fol (b.fol z)) : bl (bl x y) z = bl x (jn y z) := by
  unfold bl jn
  by_cases hz : z.isNo = true
  · simp [hz]
  · by_cases hy : y.isNo = true
    · simp [hz, hy]
    · have nyz : (y.fol z).isNo = false := fol_no (by simpa using hy) (by simpa using hz)
      have nxy : ((unN x).fol y).isNo = false := fol_no (unN_no x) (by simpa using hy)
      simp [hz, hy, nyz, unN_unD nxy, ih]
theorem fol_asc : ∀ (c a b : Ef), (a.fol b).fol c = a.fol (b.fol c)
  | .no, a, b => by rw [fol_c _ (.inl rfl), fol_c _ (.inl rfl), fol_c _ (.inl rfl)]
  | .keep, a, b => by rw [fol_k, fol_k]
  | .drop, a, b => by rw [fol_c _ (.inr (.inl rfl)), fol_c _ (.inr (.inl rfl)), fol_c _ (.inr (.inl rfl))]
  | .set d, a, b => by rw [fol_c _ (.inr (.inr (.inl ⟨d, rfl⟩))), fol_c _ (.inr (.inr (.inl ⟨d, rfl⟩))), fol_c _ (.inr (.inr (.inl ⟨d, rfl⟩)))]
  | .build f, a, b => by rw [fol_c _ (.inr (.inr (.inr ⟨f, rfl⟩))), fol_c _ (.inr (.inr (.inr ⟨f, rfl⟩))), fol_c _ (.inr (.inr (.inr ⟨f, rfl⟩)))]
  | .merge h, a, b => by
    have ih := fun k => fol_asc (h k)
    rcases ef_ways b with rfl | cb | ⟨g, rfl⟩
    · rw [fol_k, k_fol]
    · rw [fol_c a cb, fol_cm cb, fol_c a (.inr (.inr (.inr ⟨_, rfl⟩)))]
    · rcases ef_ways a with rfl | ca | ⟨f, rfl⟩
      · rw [k_fol, k_fol]
      · rw [fol_cm ca, fol_cm (.inr (.inr (.inr ⟨_, rfl⟩))), fol_mm, fol_cm ca]
        exact congrArg Ef.build (funext fun k => bl_asc (ih k))
      · rw [fol_mm, fol_mm, fol_mm, fol_mm]
        exact congrArg Ef.merge (funext fun k => jn_asc (ih k))
/-- an effect added to itself is itself -/
theorem fol_self : ∀ e : Ef, e.fol e = e
  | .no => rfl
  | .keep => rfl
  | .drop => rfl
  | .set d => rfl
  | .build f => rfl
  | .merge f => by
    have ih := fun k => fol_self (f k)
    rw [fol_mm]
    refine congrArg Ef.merge (funext fun k => ?_)
    unfold jn
    by_cases c : (f k).isNo = true
    · simp [c]
    · simp [c, ih]
/-- one + other + one is other + one -/
theorem fol_aba : ∀ a b : Ef, (a.fol b).fol a = b.fol a
  | .no, b => by rw [fol_c _ (.inl rfl), fol_c _ (.inl rfl)]
  | .keep, b => by rw [k_fol]
  | .drop, b => by rw [fol_c _ (.inr (.inl rfl)), fol_c _ (.inr (.inl rfl))]
  | .set d, b => by rw [fol_c _ (.inr (.inr (.inl ⟨d, rfl⟩))), fol_c _ (.inr (.inr (.inl ⟨d, rfl⟩)))]
  | .build f, b => by rw [fol_c _ (.inr (.inr (.inr ⟨f, rfl⟩))), fol_c _ (.inr (.inr (.inr ⟨f, rfl⟩)))]
  | .merge f, b => by
    have ih := fun k => fol_aba (f k)
    rcases ef_ways b with rfl | cb | ⟨g, rfl⟩
    · rw [fol_k, k_fol, fol_self]
    · rw [fol_c _ cb]
    · rw [fol_mm, fol_mm, fol_mm]
      refine congrArg Ef.merge (funext fun k => ?_)
      unfold jn
      by_cases cf : (f k).isNo = true
      · by_cases cg : (g k).isNo = true
        · have e1 : f k = .no := by cases h : f k <;> first | rfl | (rw [h] at cf; cases cf)
          have e2 : g k = .no := by cases h : g k <;> first | rfl | (rw [h] at cg; cases cg)
          rw [e1, e2]
          rfl
        · simp [cf, cg]
      · by_cases cg : (g k).isNo = true
        · simp [cf, cg, fol_self]
        · have := fol_no (by simpa using cf : (f k).isNo = false) (by simpa using cg : (g k).isNo = false)
          simp [cf, cg, this, ih]
/-- the effect of rows one after the other -/
theorem row_sum (ps qs : List D) : rowE (ps ++ qs) = (rowE ps).fol (rowE qs) := by
  have key : ∀ (qs : List D) (e m : Ef), qs.foldl (fun e p => e.fol (pef p)) (e.fol m) = e.fol (qs.foldl (fun e p => e.fol (pef p)) m) := by
    intro qs
    induction qs with
    | nil => exact fun _ _ => rfl
    | cons q qs ih =>
      intro e m
      show qs.foldl _ ((e.fol m).fol (pef q)) = e.fol (qs.foldl _ (m.fol (pef q)))
      rw [fol_asc, ih]
  have := key qs (rowE ps) .keep
  rw [fol_k] at this
  unfold rowE at *
  rw [List.foldl_append]
  exact this
end TP

namespace TP
open PySem PySem.Spec PyProof.Rows L2
/-! ### effects by hand -/
def oneD (k : Str) (d : D) : D := .ob fun j => if j = k then d else .nil
theorem mem_one {S : Addr → Prop} {G : Gen} {H : Hp} {n : Nat} {k : Str} {v : V} {d : D} (hk : k ∈ G.KS) (h : Dc S G H n v d) : Mem S G H n [(k, v)] (fun j => if j = k then d else .nil) := by
  refine ⟨by simp, fun j hj => by simp at hj; rw [hj]; exact hk, fun j hj => ?_, fun j u hu => ?_⟩
  · by_cases c : j = k
    · rw [c, valV_pos (p := (k, v)) rfl] at hj; cases hj
    · exact if_neg c
  · by_cases c : j = k
    · rw [c, valV_pos (p := (k, v)) rfl] at hu
      cases hu
      show Dc S G H n v (if j = k then d else .nil)
      rw [if_pos c]
      exact h
    · rw [valV_neg (p := (k, v)) (fun z => c z.symm)] at hu
      cases hu
theorem dc_one {S : Addr → Prop} {G : Gen} {H : Hp} {n : Nat} {k : Str} {v : V} {d : D} {p : Addr} (hk : k ∈ G.KS) (hp : S p) (hH : H p = some (.dK (mergeK [] [(Sum.inr k, v)]))) (h : Dc S G H n v d) : Dc S G H (n + 1) (.ref p) (oneD k d) := Dc.ob (ms := [(k, v)]) hp hH (mem_one hk h)
def oneE (k : Str) (e : Ef) : Str → Ef := fun j => if j = k then e else .no
def noE : Str → Ef := fun _ => .no
theorem mk_node [TabL] {C Pt : Addr} {G : Gen} {H1 : Hp} {kd : Str} {ma : Addr} {S : Addr → Prop} {n : Nat} {bs : List Bs} {f : Str → Ef} (hN : G.C .non = true) (hR : TabL.R Pt qLam)
    (hma : H1 ma = some (.lst (bs.map fun b => V.ref b.1)) ∨ H1 ma = some (.tup (bs.map fun b => V.ref b.1))) (hbs : BsAt (fun _ => True) H1 bs) (hl : bs.length ≤ 5000) (tb : LamX.TabS H1 Pt qLam)
    (nd : (bs.map fun b => b.2.1).Nodup) (ks : ∀ b ∈ bs, b.2.1 ∈ G.KS) (no : ∀ k, k ∉ bs.map (fun b => b.2.1) → f k = .no) (hm : ∀ b ∈ bs, Ec C S G H1 n b.2.2 (f b.2.1))
    (x dx : Addr) (nx : H1 x = none) (ndx : H1 dx = none) (ne : dx ≠ x) : spInit C Pt G (.ref x :: ([.str kd, .non, .ref ma] ++ [])) (upd (upd H1 dx (.own x)) x (.ins C dx []))
      (fun v H2 => v = .non ∧ Ex H1 H2 ∧ ((kd = "merge" → Ec C (fun b => H1 b = none ∨ S b) G H2 (n + 1) (.ref x) (.merge f)) ∧ (kd = "build" → Ec C (fun b => H1 b = none ∨ S b) G H2 (n + 1) (.ref x) (.build f)))) E0 := by
  refine spInit_mono (made (Q := fun z H2 => ∃ y, z = .ref y ∧ Made C G H1 H2 kd (.sc .non) bs y) (S := fun _ => False) (n := 0) (d := .sc .non) (Dc.sc hN) rfl rfl hma hbs hl tb hR (fun x H6 M => ⟨x, rfl, M⟩) x dx nx ndx ne) ?_
  rintro _ H3 ⟨rfl, y, hy, M⟩
  cases hy
  exact ⟨rfl, M.ex, M.node nd ks no hm⟩
theorem mk_drop [TabL] {C Pt : Addr} {G : Gen} {H1 : Hp} {ma : Addr} (n : Nat) (hN : G.C .non = true) (hR : TabL.R Pt qLam) (hma : H1 ma = some (.lst []) ∨ H1 ma = some (.tup [])) (tb : LamX.TabS H1 Pt qLam)
    (x dx : Addr) (nx : H1 x = none) (ndx : H1 dx = none) (ne : dx ≠ x) : spInit C Pt G (.ref x :: ([.str "drop", .non, .ref ma] ++ [])) (upd (upd H1 dx (.own x)) x (.ins C dx []))
      (fun v H2 => v = .non ∧ Ex H1 H2 ∧ Ec C (fun b => H1 b = none) G H2 (n + 1) (.ref x) .drop) E0 := by
  refine spInit_mono (made (Q := fun z H2 => ∃ y, z = .ref y ∧ Made C G H1 H2 "drop" (.sc .non) [] y) (S := fun _ => False) (n := 0) (d := .sc .non) (bs := []) (Dc.sc hN) rfl rfl hma (fun b hb => nomatch hb) (Nat.zero_le _) tb hR (fun x H6 M => ⟨x, rfl, M⟩) x dx nx ndx ne) ?_
  rintro _ H3 ⟨rfl, y, hy, M⟩
  cases hy
  exact ⟨rfl, M.ex, M.drop n⟩
theorem mk_set [TabL] {C Pt : Addr} {G : Gen} {H1 : Hp} {ma : Addr} {m : Nat} {av : V} {d : D} {S : Addr → Prop} (n : Nat) (hv : Dc S G H1 (m + 1) av d) (nob : d.isOb = false) (hR : TabL.R Pt qLam) (hma : H1 ma = some (.lst []) ∨ H1 ma = some (.tup [])) (tb : LamX.TabS H1 Pt qLam)
    (x dx : Addr) (nx : H1 x = none) (ndx : H1 dx = none) (ne : dx ≠ x) : spInit C Pt G (.ref x :: ([.str "set", av, .ref ma] ++ [])) (upd (upd H1 dx (.own x)) x (.ins C dx []))
      (fun v H2 => v = .non ∧ Ex H1 H2 ∧ Ec C (fun b => H1 b = none) G H2 (n + 1) (.ref x) (.set d)) E0 := by
  refine spInit_mono (made (Q := fun z H2 => ∃ y, z = .ref y ∧ Made C G H1 H2 "set" d [] y) (bs := []) hv nob rfl hma (fun b hb => nomatch hb) (Nat.zero_le _) tb hR (fun x H6 M => ⟨x, rfl, M⟩) x dx nx ndx ne) ?_
  rintro _ H3 ⟨rfl, y, hy, M⟩
  cases hy
  exact ⟨rfl, M.ex, M.set n⟩
theorem mk_oneE [TabL] {C Pt : Addr} {G : Gen} {H1 : Hp} {kd : Str} {ma t1 : Addr} {S : Addr → Prop} {n : Nat} {x : Str} {v1 : V} {m1 : Ef} (hN : G.C .non = true) (hR : TabL.R Pt qLam) (hx : x ∈ G.KS)
    (hma : H1 ma = some (.lst [.ref t1])) (h1 : H1 t1 = some (.tup [.str x, v1])) (tb : LamX.TabS H1 Pt qLam) (e1 : Ec C S G H1 n v1 m1)
    (xx dx : Addr) (nx : H1 xx = none) (ndx : H1 dx = none) (ne : dx ≠ xx) : spInit C Pt G (.ref xx :: ([.str kd, .non, .ref ma] ++ [])) (upd (upd H1 dx (.own xx)) xx (.ins C dx []))
      (fun v H2 => v = .non ∧ Ex H1 H2 ∧ ((kd = "merge" → Ec C (fun b => H1 b = none ∨ S b) G H2 (n + 1) (.ref xx) (.merge (oneE x m1))) ∧ (kd = "build" → Ec C (fun b => H1 b = none ∨ S b) G H2 (n + 1) (.ref xx) (.build (oneE x m1))))) E0 := by
  refine mk_node (bs := [(t1, x, v1)]) hN hR (.inl hma) (fun b hb => ?_) (by show 1 ≤ 5000; decide) tb (by simp) (fun b hb => ?_) (fun k hk => ?_) (fun b hb => ?_) xx dx nx ndx ne
  · rw [List.mem_singleton.mp hb]; exact ⟨trivial, h1⟩
  · rw [List.mem_singleton.mp hb]; exact hx
  · exact if_neg fun z => hk (by rw [z]; simp)
  · rw [List.mem_singleton.mp hb]
    show Ec C S G H1 n v1 (oneE x m1 x)
    unfold oneE
    rw [if_pos rfl]
    exact e1
theorem mk_nilE [TabL] {C Pt : Addr} {G : Gen} {H1 : Hp} {kd : Str} {ma : Addr} (n : Nat) (hN : G.C .non = true) (hR : TabL.R Pt qLam) (hma : H1 ma = some (.lst [])) (tb : LamX.TabS H1 Pt qLam)
    (xx dx : Addr) (nx : H1 xx = none) (ndx : H1 dx = none) (ne : dx ≠ xx) : spInit C Pt G (.ref xx :: ([.str kd, .non, .ref ma] ++ [])) (upd (upd H1 dx (.own xx)) xx (.ins C dx []))
      (fun v H2 => v = .non ∧ Ex H1 H2 ∧ ((kd = "merge" → Ec C (fun b => H1 b = none ∨ False) G H2 (n + 1) (.ref xx) (.merge noE)) ∧ (kd = "build" → Ec C (fun b => H1 b = none ∨ False) G H2 (n + 1) (.ref xx) (.build noE)))) E0 :=
  mk_node (bs := []) (S := fun _ => False) (n := n) hN hR (.inl hma) (fun b hb => nomatch hb) (Nat.zero_le _) tb List.nodup_nil (fun b hb => nomatch hb) (fun k hk => rfl) (fun b hb => nomatch hb) xx dx nx ndx ne
end TP

namespace TP
open PySem PySem.Spec PyProof.Rows L2
theorem mem_cutV {xs : List V} {lo hi : Option Int} {x : V} (h : x ∈ cutV xs lo hi) : x ∈ xs := List.mem_of_mem_drop (List.mem_of_mem_take h)
theorem mv_ex [TabL] {a H0 H H'} (e : Ex H0 H) (ha : H0 a = none) (m : Mv a H H') : Ex H0 H' := ⟨fun b o h z => m.go b o (ne_of_none h ha) (e.go b o h z) z, fun b h => m.ne b (e.ne b h), fun b q r h => m.tab b q r (e.tab b q r h)⟩
/-! ### data of one value are one -/
theorem rd_two {H : Hp} {a : Addr} {u u' : HO} (h : Rd H a u) (h' : Rd H a u') (n : ∀ o w, u ≠ .frz o w) (n' : ∀ o w, u' ≠ .frz o w) : u = u' := by
  rcases h with h | ⟨o, h⟩ <;> rcases h' with h' | ⟨o', h'⟩
  · rw [h] at h'; injection h'
  · rw [h] at h'; injection h' with h'; exact absurd h' (n _ _)
  · rw [h] at h'; injection h' with h'; exact absurd h'.symm (n' _ _)
  · rw [h] at h'; injection h' with h'; injection h'
theorem inK_inj : ∀ {ms ms' : List (Str × V)}, kvsOf ms = kvsOf ms' → ms = ms'
  | [], [], _ => rfl
  | [], _ :: _, h => by cases h
  | _ :: _, [], h => by cases h
  | (k, v) :: ms, (k', v') :: ms', h => by
    injection h with h1 h2
    injection h1 with h3 h4
    injection h3 with h3
    have h3 : k = k' := h3
    have h4 : v = v' := h4
    rw [h3, h4, inK_inj h2]
mutual
theorem Pd.det {H : Hp} : ∀ {v : V} {d d' : PyData}, Pd H v d → Pd H v d' → d = d'
  | _, _, _, .non, h => by cases h; rfl
  | _, _, _, .int i, h => by cases h; rfl
  | _, _, _, .str x, h => by cases h; rfl
  | _, _, _, .lst n r a, h => by
    cases h with
    | lst n' r' a' =>
      have z := rd_two r r' (fun _ _ z => nomatch z) (fun _ _ z => nomatch z)
      injection z with z
      subst z
      rw [PdAll.det a a']
    | tup r' a' => exact nomatch rd_two r r' (fun _ _ z => nomatch z) (fun _ _ z => nomatch z)
    | dct r' a' => exact nomatch rd_two r r' (fun _ _ z => nomatch z) (fun _ _ z => nomatch z)
  | _, _, _, .tup r a, h => by
    cases h with
    | lst n' r' a' => exact nomatch rd_two r r' (fun _ _ z => nomatch z) (fun _ _ z => nomatch z)
    | tup r' a' =>
      have z := rd_two r r' (fun _ _ z => nomatch z) (fun _ _ z => nomatch z)
      injection z with z
      subst z
      rw [PdAll.det a a']
    | dct r' a' => exact nomatch rd_two r r' (fun _ _ z => nomatch z) (fun _ _ z => nomatch z)
  | _, _, _, .dct r a, h => by
    cases h with
    | lst n' r' a' => exact nomatch rd_two r r' (fun _ _ z => nomatch z) (fun _ _ z => nomatch z)
    | tup r' a' => exact nomatch rd_two r r' (fun _ _ z => nomatch z) (fun _ _ z => nomatch z)
    | dct r' a' =>
      have z := rd_two r r' (fun _ _ z => nomatch z) (fun _ _ z => nomatch z)
      injection z with z
      have z := inK_inj z
      subst z
      rw [PdAll.det a a']
theorem PdAll.det {H : Hp} : ∀ {vs : List V} {ds ds' : List PyData}, PdAll H vs ds → PdAll H vs ds' → ds = ds'
  | _, _, _, .nil, h => by cases h; rfl
  | _, _, _, .cons a b, h => by
    cases h with
    | cons a' b' => rw [Pd.det a a', PdAll.det b b']
end
theorem dins [TabL] {C : Addr} {S S' : Addr → Prop} {G : Gen} {H : Hp} {n : Nat} {v u : V} {e e' : Ef} {r : Bool} (h : Ec C S G H n v e) (h' : Ec C S' G H n u e') (hr : r = true ↔ e = e') : DInsB C (eqRB C G n) v u r H := by
  obtain ⟨a1, dx1, av1, t1, rfl, _, ha1⟩ := h.fields
  obtain ⟨a2, dx2, av2, t2, rfl, _, ha2⟩ := h'.fields
  exact ⟨a1, a2, dx1, dx2, _, _, rfl, rfl, ha1, ha2, S, S', e, e', h, h', hr⟩
abbrev fif (rs : List (V × D)) : List (V × D × Nat) := rs.map fun r => (r.1, r.2, 15)
theorem fif1 (rs : List (V × D)) : (fif rs).map (·.1) = rs.map (·.1) := by rw [List.map_map]; rfl
theorem fif2 (rs : List (V × D)) : (fif rs).map (·.2.1) = rs.map (·.2) := by rw [List.map_map]; rfl
theorem row_at15o {S : Addr → Prop} {H : Hp} {a : Addr} {rs : List (V × D)} (sq : H a = some (.lst (rs.map (·.1))) ∨ H a = some (.tup (rs.map (·.1)))) (b : ∀ q ∈ rs, Dc S g4 H 4 q.1 q.2 ∧ PD q.2 15 ∧ DD q.2 8) (hl : rs.length ≤ 13) : RowAt S g4 H 4 a (fif rs) := by
  refine ⟨by rw [fif1]; exact sq, fun r hr => ?_, ?_, by rw [List.length_map]; omega⟩
  · obtain ⟨q, hq, rfl⟩ := List.mem_map.mp hr
    obtain ⟨h1, h2, h3⟩ := b q hq
    exact ⟨h1, h2, h2.mono (by decide), h3⟩
  · rw [List.map_map, show ((fun r : V × D × Nat => r.2.2) ∘ fun r : V × D => (r.1, r.2, 15)) = fun _ => 15 from rfl, List.map_const', List.sum_replicate_nat]
    omega
theorem row_at15 {S : Addr → Prop} {H : Hp} {a : Addr} {rs : List (V × D)} (sq : H a = some (.lst (rs.map (·.1)))) (b : ∀ q ∈ rs, Dc S g4 H 4 q.1 q.2 ∧ PD q.2 15 ∧ DD q.2 8) (hl : rs.length ≤ 13) : RowAt S g4 H 4 a (fif rs) := by
  refine ⟨by rw [fif1]; exact .inl sq, fun r hr => ?_, ?_, by rw [List.length_map]; omega⟩
  · obtain ⟨q, hq, rfl⟩ := List.mem_map.mp hr
    obtain ⟨h1, h2, h3⟩ := b q hq
    exact ⟨h1, h2, h2.mono (by decide), h3⟩
  · rw [List.map_map, show ((fun r : V × D × Nat => r.2.2) ∘ fun r : V × D => (r.1, r.2, 15)) = fun _ => 15 from rfl, List.map_const', List.sum_replicate_nat]
    omega
theorem pB_le {n : Nat} (h : n ≤ 3) : pB n ≤ 15 := by
  match n, h with
  | 0, _ => decide
  | 1, _ => decide
  | 2, _ => decide
  | 3, _ => decide
theorem drop_fol (e : Ef) (p : D) : (e.fol (pef p)).isDrop = false := by
  cases p <;> cases e <;> rfl
theorem drop_row : ∀ (ps : List D) (e : Ef), e.isDrop = false → (ps.foldl (fun e p => e.fol (pef p)) e).isDrop = false
  | [], _, h => h
  | p :: ps, e, _ => drop_row ps _ (drop_fol e p)
theorem mok_row (ps : List D) : (rowE ps).mok := (row_all ps .keep rfl trivial trivial).2.2.1
abbrev NotS (s : Addr) : Addr → Prop := fun x => x ≠ s
section
variable [TabL] {P : Program} {w : World} {K : PySem.W.Frag} {mg : Str → Option Value} {base : Heap}
theorem fn_ex {k : Nat} {f : Addr} {fd : FuncData} {ps : List Str} {p : Nat → Prop} {sp : Nat → Sp} (F : ∀ i, p i → FnOk P w K mg base CX0 k f fd ps (sp i)) : FnOk P w K mg base CX0 k f fd ps (fun vs H Q E => ∃ i, p i ∧ sp i vs H Q E) :=
  ⟨fun vs H Q E ⟨i, hi, z⟩ => (F i hi).len vs H Q E z, fun a1 a2 a3 a4 a5 a6 a7 a8 a9 a10 a11 a12 a13 ⟨i, hi, z⟩ => (F i hi).run a1 a2 a3 a4 a5 a6 a7 a8 a9 a10 a11 a12 a13 z⟩
end
def spRow3 [TabL] : Sp := fun vs H Q E => ∃ n, n ≤ 3 ∧ spLRow n vs H Q E
/-- a sum -/
theorem t_sum [TabL] {C Pt s : Addr} {G : Gen} {n : Nat} {H : Hp} {v1 v2 : V} {e1 e2 : Ef} {Q : VK} (h1 : Ec C (NotS s) G H n v1 e1) (h2 : Ec C (NotS s) G H n v2 e2) (hs : H s ≠ none) (tb : LamX.TabS H Pt qLam) (k : ∀ r H', Ex H H' → Ec C (NotS s) G H' n r (e1.fol e2) → Q r H') :
    rAddOwn C (spFol C Pt G n) E0 v1 v2 H Q := by
  obtain ⟨a1, dx1, av1, t1, rfl, _, ha1⟩ := h1.fields
  obtain ⟨a2, dx2, av2, t2, rfl, _, ha2⟩ := h2.fields
  refine ⟨a1, dx1, _, a2, dx2, _, rfl, rfl, ha1, ha2, NotS s, .ref a1, .ref a2, _, _, rfl, h1, h2, tb, fun r H' e h => ?_⟩
  obtain ⟨a3, _, _, _, rfl, _, _⟩ := h.fields
  exact ⟨⟨a3, rfl⟩, k _ H' e (h.imp fun b hb => hb.elim id fun z y => hs (by rw [← y]; exact z))⟩
/-- != of two equal effects, in a test -/
theorem t_neq [TabL] {C : Addr} {S S' : Addr → Prop} {G : Gen} {n : Nat} {H : Hp} {x y : V} {e e' : Ef} {Q : Bool → Hp → Prop} (h1 : Ec C S G H n x e) (h2 : Ec C S' G H n y e') (he : e = e') (k : ∀ H', Ex H H' → Q false H') :
    rNeB (DInsB C (eqRB C G n)) x y H fun v H' => ∃ b, v = .bl b ∧ Q b H' :=
  ⟨true, dins h1 h2 (by simp [he]), fun H' x => ⟨_, rfl, k H' (ex_all x)⟩⟩
end TP

namespace TP
open PySem PySem.Spec PyProof.Rows L2
/-! ### patches along a path, as mathematics -/
def nestD : List Str → D → D
  | [], d => d
  | k :: ks, d => oneD k (nestD ks d)
def nestE : List Str → Ef → Ef
  | [], e => e
  | k :: ks, e => .merge (oneE k (nestE ks e))
/-- the effect of a member -/
def pem (d : D) : Ef := if d.isNon then .drop else pef d
theorem nest_nil {d : D} (h : d.isNil = false) : ∀ ks, (nestD ks d).isNil = false
  | [] => h
  | _ :: _ => rfl
theorem pem_no (d : D) : (pem d).isNo = false := by
  unfold pem
  split
  · rfl
  · exact no_pef d
theorem nestE_no {e : Ef} (h : e.isNo = false) : ∀ ks, (nestE ks e).isNo = false
  | [] => h
  | _ :: _ => rfl
theorem pef_one {k : Str} {d : D} (h : d.isNil = false) : pef (oneD k d) = .merge (oneE k (pem d)) := by
  show Ef.merge _ = _
  congr 1
  funext j
  by_cases c : j = k
  · simp [oneE, c, h, pem]
  · simp [oneE, c, D.isNil]
theorem pef_nest {d : D} (h : d.isNil = false) : ∀ (k : Str) (ks : List Str), pef (nestD (k :: ks) d) = nestE (k :: ks) (pem d)
  | k, [] => pef_one h
  | k, j :: ks => by
    have ih := pef_nest h j ks
    show pef (oneD k (nestD (j :: ks) d)) = _
    rw [pef_one (nest_nil h _)]
    show Ef.merge (oneE k (pem (oneD j (nestD ks d)))) = Ef.merge (oneE k _)
    rw [← ih]
    rfl
theorem fol_one {k : Str} {e m : Ef} (h1 : e.isNo = false) (h2 : m.isNo = false) : (Ef.merge (oneE k e)).fol (.merge (oneE k m)) = .merge (oneE k (e.fol m)) := by
  show Ef.merge _ = _
  congr 1
  funext j
  by_cases c : j = k
  · simp [oneE, c, h1, h2]
  · simp [oneE, c, Ef.isNo]
theorem nest_fol {e m : Ef} (h1 : e.isNo = false) (h2 : m.isNo = false) : ∀ ks, (nestE ks e).fol (nestE ks m) = nestE ks (e.fol m)
  | [] => rfl
  | k :: ks => by
    show (Ef.merge (oneE k (nestE ks e))).fol (.merge (oneE k (nestE ks m))) = _
    rw [fol_one (nestE_no h1 ks) (nestE_no h2 ks), nest_fol h1 h2 ks]
    rfl
def folds (e : Ef) (ds : List D) : Ef := ds.foldl (fun e d => e.fol (pem d)) e
theorem folds_nest (k : Str) (ks : List Str) : ∀ (ds : List D) (e : Ef), e.isNo = false → (∀ d ∈ ds, d.isNil = false) → (ds.map (nestD (k :: ks))).foldl (fun e p => e.fol (pef p)) (nestE (k :: ks) e) = nestE (k :: ks) (folds e ds)
  | [], _, _, _ => rfl
  | d :: ds, e, he, h => by
    rw [List.map_cons, List.foldl_cons, pef_nest (h d List.mem_cons_self), nest_fol he (pem_no d)]
    exact folds_nest k ks ds _ (fol_no he (pem_no d)) fun x hx => h x (List.mem_cons_of_mem _ hx)
theorem row_nest (k : Str) (ks : List Str) (d : D) (ds : List D) (h : ∀ x ∈ d :: ds, x.isNil = false) : rowE ((d :: ds).map (nestD (k :: ks))) = nestE (k :: ks) (folds (pem d) ds) := by
  unfold rowE
  rw [List.map_cons, List.foldl_cons, pef_nest (h d List.mem_cons_self)]
  show List.foldl _ ((Ef.keep).fol (.merge _)) _ = _
  exact folds_nest k ks ds _ (pem_no d) fun x hx => h x (List.mem_cons_of_mem _ hx)
theorem row_twice (k : Str) (ks : List Str) (d : D) (ds : List D) (h : ∀ x ∈ d :: ds, x.isNil = false) {e : Ef} (h1 : folds (pem d) ds = e) (h2 : folds e (d :: ds) = e) : rowE ((d :: ds).map (nestD (k :: ks))) = nestE (k :: ks) e ∧ rowE ((d :: ds).map (nestD (k :: ks)) ++ (d :: ds).map (nestD (k :: ks))) = nestE (k :: ks) e := by
  refine ⟨by rw [row_nest k ks d ds h, h1], ?_⟩
  rw [← List.map_append, List.cons_append, row_nest k ks d (ds ++ d :: ds) (fun x hx => by
    rcases List.mem_cons.mp hx with z | z
    · exact h x (by rw [z]; exact List.mem_cons_self)
    · rcases List.mem_append.mp z with z | z
      · exact h x (List.mem_cons_of_mem _ z)
      · exact h x z)]
  congr 1
  show folds (pem d) (ds ++ d :: ds) = e
  unfold folds at h1 h2 ⊢
  rw [List.foldl_append, h1]
  exact h2
/-! ### the trees -/
def twoE (x : Str) (e : Ef) (y : Str) (m : Ef) : Str → Ef := fun j => if j = x then e else if j = y then m else .no
def At (d : D) : Prop := d.isNil = false ∧ d.isNon = false ∧ d.isOb = false
theorem pem_at {d : D} (h : At d) : pem d = .set d := by
  unfold pem
  rw [h.2.1]
  cases d with
  | ob f => cases h.2.2
  | _ => rfl
theorem pem_x {k : Str} {d : D} (h : At d) : pem (oneD k d) = .merge (oneE k (.set d)) := by
  show pef (oneD k d) = _
  rw [pef_one h.1, pem_at h]
theorem pem_xn {k : Str} : pem (oneD k (.sc .non)) = .merge (oneE k .drop) := by
  show pef (oneD k (.sc .non)) = _
  rw [pef_one rfl]
  rfl
theorem pem_e : pem (.ob fun _ => .nil) = .merge noE := rfl
/-- what is gone: a drop or a set -/
def Gone (e : Ef) : Prop := e = .drop ∨ ∃ d, e = .set d
theorem gone_pem {d : D} (h : d.isOb = false) : Gone (pem d) := by
  unfold pem
  cases d with
  | ob f => cases h
  | nil => exact .inr ⟨_, rfl⟩
  | ls xs => exact .inr ⟨_, rfl⟩
  | sc v =>
    by_cases c : (D.sc v).isNon = true
    · rw [if_pos c]; exact .inl rfl
    · rw [if_neg c]; exact .inr ⟨_, rfl⟩
section
variable {x y : Str} {A B : D}
theorem f_xy (hxy : x ≠ y) : (Ef.merge (oneE x (.set A))).fol (.merge (oneE y (.set B))) = .merge (twoE x (.set A) y (.set B)) := by
  show Ef.merge _ = Ef.merge _
  congr 1; funext j
  by_cases c1 : j = x
  · subst c1; simp [oneE, twoE, hxy, Ef.isNo]
  · by_cases c2 : j = y
    · subst c2; simp [oneE, twoE, c1, Ef.isNo]
    · simp [oneE, twoE, c1, c2, Ef.isNo]
theorem f_two_x (hxy : x ≠ y) {e : Ef} (he : e.isNo = false) (hk : (Ef.set A).fol e = e) : (Ef.merge (twoE x (.set A) y (.set B))).fol (.merge (oneE x e)) = .merge (twoE x e y (.set B)) := by
  refine congrArg Ef.merge (funext fun j => ?_)
  have z : (Ef.set A).isNo = false := rfl
  by_cases c1 : j = x
  · subst c1
    simp only [oneE, twoE, if_true, he, z, hk, Bool.false_eq_true, if_false]
  · by_cases c2 : j = y
    · subst c2; simp [oneE, twoE, c1, Ef.isNo]
    · simp [oneE, twoE, c1, c2, Ef.isNo]
theorem f_drop_x (hxy : x ≠ y) : (Ef.merge (twoE x .drop y (.set B))).fol (.merge (oneE x (.set A))) = .merge (twoE x (.set A) y (.set B)) := by
  show Ef.merge _ = Ef.merge _
  congr 1; funext j
  by_cases c1 : j = x
  · subst c1; simp [oneE, twoE, Ef.isNo, Ef.fol]
  · by_cases c2 : j = y
    · subst c2; simp [oneE, twoE, c1, Ef.isNo]
    · simp [oneE, twoE, c1, c2, Ef.isNo]
theorem f_two_y (hxy : x ≠ y) {e : Ef} (he : e.isNo = false) : (Ef.merge (twoE x e y (.set B))).fol (.merge (oneE y (.set B))) = .merge (twoE x e y (.set B)) := by
  show Ef.merge _ = Ef.merge _
  congr 1; funext j
  by_cases c1 : j = x
  · subst c1; simp [oneE, twoE, hxy, Ef.isNo]
  · by_cases c2 : j = y
    · subst c2; simp [oneE, twoE, c1, Ef.isNo, Ef.fol]
    · simp [oneE, twoE, c1, c2, Ef.isNo]
theorem f_gone (e : Ef) {m : Ef} (hm : Gone m) : e.fol m = m := by
  rcases hm with rfl | ⟨d, rfl⟩ <;> cases e <;> rfl
theorem f_set (e : Ef) (d : D) : e.fol (.set d) = .set d := by cases e <;> rfl
theorem f_gone_x {m : Ef} (hm : Gone m) : m.fol (.merge (oneE x (.set A))) = .build (oneE x (.set A)) := by
  rcases hm with rfl | ⟨d, rfl⟩
  all_goals
    show Ef.build _ = Ef.build _
    congr 1; funext j
    by_cases c1 : j = x
    · subst c1; simp [oneE, Ef.isNo, Ef.mem, Ef.fol, Ef.isDrop]
    · simp [oneE, c1, Ef.isNo, Ef.mem]
theorem f_build_y (hxy : x ≠ y) : (Ef.build (oneE x (.set A))).fol (.merge (oneE y (.set B))) = .build (twoE x (.set A) y (.set B)) := by
  show Ef.build _ = Ef.build _
  congr 1; funext j
  by_cases c1 : j = x
  · subst c1; simp [oneE, twoE, hxy, Ef.isNo, Ef.mem]
  · by_cases c2 : j = y
    · subst c2; simp [oneE, twoE, c1, Ef.isNo, Ef.mem, Ef.fol, Ef.isDrop]
    · simp [oneE, twoE, c1, c2, Ef.isNo, Ef.mem]
theorem f_build_dx (hxy : x ≠ y) : (Ef.build (twoE x (.set A) y (.set B))).fol (.merge (oneE x .drop)) = .build (oneE y (.set B)) := by
  show Ef.build _ = Ef.build _
  congr 1; funext j
  by_cases c1 : j = x
  · subst c1; simp [oneE, twoE, hxy, Ef.isNo, Ef.mem, Ef.fol, Ef.isDrop]
  · by_cases c2 : j = y
    · subst c2; simp [oneE, twoE, c1, Ef.isNo, Ef.mem]
    · simp [oneE, twoE, c1, c2, Ef.isNo, Ef.mem]
theorem f_build_x1 (hxy : x ≠ y) : (Ef.build (oneE y (.set B))).fol (.merge (oneE x (.set A))) = .build (twoE x (.set A) y (.set B)) := by
  show Ef.build _ = Ef.build _
  congr 1; funext j
  by_cases c1 : j = x
  · subst c1; simp [oneE, twoE, hxy, Ef.isNo, Ef.mem, Ef.fol, Ef.isDrop]
  · by_cases c2 : j = y
    · subst c2; simp [oneE, twoE, c1, Ef.isNo, Ef.mem]
    · simp [oneE, twoE, c1, c2, Ef.isNo, Ef.mem]
theorem f_build_y2 (hxy : x ≠ y) : (Ef.build (twoE x (.set A) y (.set B))).fol (.merge (oneE y (.set B))) = .build (twoE x (.set A) y (.set B)) := by
  show Ef.build _ = Ef.build _
  congr 1; funext j
  by_cases c1 : j = x
  · subst c1; simp [oneE, twoE, hxy, Ef.isNo, Ef.mem]
  · by_cases c2 : j = y
    · subst c2; simp [oneE, twoE, c1, Ef.isNo, Ef.mem, Ef.fol, Ef.isDrop]
    · simp [oneE, twoE, c1, c2, Ef.isNo, Ef.mem]
theorem f_gone_e {m : Ef} (hm : Gone m) : m.fol (.merge noE) = .build noE := by
  rcases hm with rfl | ⟨d, rfl⟩
  · exact congrArg Ef.build (funext fun j => by simp [noE, Ef.isNo, Ef.mem])
  · exact congrArg Ef.build (funext fun j => by simp [noE, Ef.isNo, Ef.mem])
theorem f_ee : (Ef.merge noE).fol (.merge noE) = .merge noE := congrArg Ef.merge (funext fun j => by simp [noE, Ef.isNo])
/-! the rows -/
variable (hA : At A) (hB : At B) {Gd : D} (hG : Gd.isOb = false)
include hA hB
theorem rw_c1 (hxy : x ≠ y) : folds (pem (oneD x A)) [oneD y B] = .merge (twoE x (.set A) y (.set B)) ∧ folds (.merge (twoE x (.set A) y (.set B))) [oneD x A, oneD y B] = .merge (twoE x (.set A) y (.set B)) := by
  simp only [folds, List.foldl_cons, List.foldl_nil, pem_x hA, pem_x hB, f_xy hxy, f_two_x hxy rfl (f_set _ _), f_two_y (e := .set A) hxy rfl, and_self]
include hG
theorem rw_c2 (hxy : x ≠ y) : folds (pem (oneD x A)) [Gd, oneD y B] = .build (oneE y (.set B)) ∧ folds (.build (oneE y (.set B))) [oneD x A, Gd, oneD y B] = .build (oneE y (.set B)) := by
  simp only [folds, List.foldl_cons, List.foldl_nil, pem_x hA, pem_x hB, f_gone _ (gone_pem hG), f_gone_x (gone_pem hG), and_self]
theorem rw_c3 (hxy : x ≠ y) : folds (pem Gd) [oneD x A, oneD y B] = .build (twoE x (.set A) y (.set B)) ∧ folds (.build (twoE x (.set A) y (.set B))) [Gd, oneD x A, oneD y B] = .build (twoE x (.set A) y (.set B)) := by
  simp only [folds, List.foldl_cons, List.foldl_nil, pem_x hA, pem_x hB, f_gone _ (gone_pem hG), f_gone_x (gone_pem hG), f_build_y hxy, and_self]
omit hG in
theorem rw_c4 (hxy : x ≠ y) : folds (pem (oneD x A)) [oneD y B, oneD x (.sc .non)] = .merge (twoE x .drop y (.set B)) ∧ folds (.merge (twoE x .drop y (.set B))) [oneD x A, oneD y B, oneD x (.sc .non)] = .merge (twoE x .drop y (.set B)) := by
  simp only [folds, List.foldl_cons, List.foldl_nil, pem_x hA, pem_x hB, pem_xn, f_xy hxy, f_drop_x hxy, f_two_y (e := .set A) hxy rfl, f_two_x hxy (e := .drop) rfl rfl, and_self]
theorem rw_c5 (hxy : x ≠ y) : folds (pem Gd) [oneD x A, oneD y B, oneD x (.sc .non)] = .build (oneE y (.set B)) ∧ folds (.build (oneE y (.set B))) [Gd, oneD x A, oneD y B, oneD x (.sc .non)] = .build (oneE y (.set B)) := by
  simp only [folds, List.foldl_cons, List.foldl_nil, pem_x hA, pem_x hB, pem_xn, f_gone _ (gone_pem hG), f_gone_x (gone_pem hG), f_build_y hxy, f_build_dx hxy, and_self]
omit hB hG in
theorem rw_c6 : folds (pem (oneD x A)) [.sc .non] = .drop ∧ folds .drop [oneD x A, .sc .non] = .drop := by
  have : pem (.sc .non) = .drop := rfl
  simp only [folds, List.foldl_cons, List.foldl_nil, pem_x hA, this, f_gone _ (.inl rfl : Gone .drop), and_self]
omit hA hB hG in
theorem rw_c7 : folds (pem (.ob fun _ => .nil)) [] = .merge noE ∧ folds (.merge noE) [.ob fun _ => .nil] = .merge noE := by
  simp only [folds, List.foldl_cons, List.foldl_nil, pem_e, f_ee, and_self]
omit hA hB in
theorem rw_c8 : folds (pem Gd) [.ob fun _ => .nil] = .build noE ∧ folds (.build noE) [Gd, .ob fun _ => .nil] = .build noE := by
  simp only [folds, List.foldl_cons, List.foldl_nil, pem_e, f_gone _ (gone_pem hG), f_gone_e (gone_pem hG), and_self]
end
/-! the rows without a path -/
theorem rw_c9 (p : D) : rowE [p, .sc .non] = .set (.sc .non) ∧ rowE ([p, .sc .non] ++ [p, .sc .non]) = .set (.sc .non) := by
  constructor
  · show ((Ef.keep.fol (pef p)).fol (.set (.sc .non))) = _
    exact f_set _ _
  · show (((((Ef.keep.fol (pef p)).fol (.set (.sc .non)))).fol (pef p)).fol (.set (.sc .non))) = _
    exact f_set _ _
theorem rw_c10 {x : Str} {A : D} (hA : At A) : rowE [.sc .non, oneD x A] = .build (oneE x (.set A)) ∧ rowE ([.sc .non, oneD x A] ++ [.sc .non, oneD x A]) = .build (oneE x (.set A)) := by
  have p1 : pef (oneD x A) = .merge (oneE x (.set A)) := pem_x hA
  constructor
  · show ((Ef.keep.fol (.set (.sc .non))).fol (pef (oneD x A))) = _
    rw [p1, f_set]
    exact f_gone_x (.inr ⟨_, rfl⟩)
  · show (((((Ef.keep.fol (.set (.sc .non))).fol (pef (oneD x A)))).fol (.set (.sc .non))).fol (pef (oneD x A))) = _
    rw [p1, f_set]
    exact f_gone_x (.inr ⟨_, rfl⟩)
theorem rw_c11 {x y : Str} {p : D} : rowE [p, .sc (.int 3), oneD x (oneD y (.sc .non))] = .build (oneE x (.build noE)) ∧ rowE ([p, .sc (.int 3), oneD x (oneD y (.sc .non))] ++ [p, .sc (.int 3), oneD x (oneD y (.sc .non))]) = .build (oneE x (.build noE)) := by
  have p1 : pef (oneD x (oneD y (.sc .non))) = .merge (oneE x (.merge (oneE y .drop))) := by
    rw [pef_one rfl]
    show Ef.merge (oneE x (pem (oneD y (.sc .non)))) = _
    rw [pem_xn]
  have p2 : (Ef.set (.sc (.int 3))).fol (.merge (oneE x (.merge (oneE y .drop)))) = .build (oneE x (.build noE)) := by
    show Ef.build _ = Ef.build _
    congr 1; funext j
    by_cases c1 : j = x
    · subst c1
      have : (Ef.drop).fol (.merge (oneE y .drop)) = .build noE := by
        show Ef.build _ = Ef.build _
        congr 1; funext i
        by_cases c2 : i = y
        · subst c2; simp [oneE, noE, Ef.isNo, Ef.mem, Ef.fol, Ef.isDrop]
        · simp [oneE, noE, c2, Ef.isNo, Ef.mem]
      simp only [oneE, if_true, Ef.isNo, Ef.mem, this, Ef.isDrop, Bool.false_eq_true, if_false]
    · simp [oneE, c1, Ef.isNo, Ef.mem]
  constructor
  · show ((Ef.keep.fol (pef p)).fol (.set (.sc (.int 3)))).fol (pef (oneD x (oneD y (.sc .non)))) = _
    rw [p1, f_set, p2]
  · show (((((Ef.keep.fol (pef p)).fol (.set (.sc (.int 3)))).fol (pef (oneD x (oneD y (.sc .non))))).fol (pef p)).fol (.set (.sc (.int 3)))).fol (pef (oneD x (oneD y (.sc .non)))) = _
    rw [p1, f_set, p2]
end TP

namespace TP
open PySem PySem.Spec PyProof.Rows L2
/-! ### what is seen at a path -/
def atD : List Str → D → D
  | [], d => d
  | k :: ks, d => atD ks (d.tgt k)
theorem atD_nil : ∀ ks : List Str, atD ks .nil = .nil
  | [] => rfl
  | _ :: ks => atD_nil ks
theorem atD_app : ∀ (ks : List Str) (k : Str) (d : D), atD (ks ++ [k]) d = (atD ks d).tgt k
  | [], _, _ => rfl
  | _ :: ks, k, d => atD_app ks k _
/-- e' is what e does at a path of merges -/
def MP : List Str → Ef → Ef → Prop
  | [], e, e' => e = e'
  | k :: ks, e, e' => ∃ f, e = .merge f ∧ MP ks (f k) e'
theorem MP.snoc : ∀ {ks : List Str} {e : Ef} {f : Str → Ef} (k : Str), MP ks e (.merge f) → MP (ks ++ [k]) e (f k)
  | [], _, f, k, h => ⟨f, h, rfl⟩
  | _ :: _, _, _, k, ⟨g, h, r⟩ => ⟨g, h, r.snoc k⟩
theorem at_nest : ∀ (ks : List Str) {e e' : Ef} (p : D), MP ks e e' → atD ks (e.on (nestD ks p)) = e'.on p
  | [], e, e', p, h => by rw [show e = e' from h]; rfl
  | k :: ks, e, e', p, ⟨f, h, r⟩ => by
    subst h
    have : ((Ef.merge f).on (nestD (k :: ks) p)).tgt k = (f k).on (nestD ks p) := by
      show (if (f k).isNo then (oneD k (nestD ks p)).tgt k else (f k).on ((oneD k (nestD ks p)).tgt k)) = _
      have t : (oneD k (nestD ks p)).tgt k = nestD ks p := if_pos rfl
      rw [t]
      by_cases c : (f k).isNo = true
      · rw [if_pos c, on_no c]
      · rw [if_neg c]
    show atD ks (((Ef.merge f).on (nestD (k :: ks) p)).tgt k) = _
    rw [this]
    exact at_nest ks p r
/-- the places that are looked at -/
def plsD (b : Bool) : List D := [.sc (.int 0), .sc (.int 1), .sc (.str "zz"), .ob fun _ => .nil, oneD "unused" (.sc (.int 7))] ++ if b then [.nil] else []
theorem see_keep {e : Ef} (h : e = .no ∨ e = .keep) (b : Bool) : (plsD b).map e.on = plsD b := by
  rcases h with rfl | rfl
  · rw [show Ef.no.on = id from funext fun _ => rfl]; simp
  · rw [show Ef.keep.on = id from funext fun _ => rfl]; simp
theorem see_other {e : Ef} (h1 : e ≠ .no) (h2 : e ≠ .keep) (b : Bool) : (plsD b).map e.on ≠ plsD b := by
  intro h
  have q0 : e.on (.sc (.int 0)) = .sc (.int 0) := (List.cons.inj h).1
  have q1 : e.on (.sc (.int 1)) = .sc (.int 1) := (List.cons.inj (List.cons.inj h).2).1
  cases e with
  | no => exact h1 rfl
  | keep => exact h2 rfl
  | drop => cases q0
  | set d =>
    have := (show d = _ from q0).symm.trans q1
    injection this with z
    injection z with z
    exact absurd z (by decide)
  | merge f => cases q0
  | build f => cases q0
theorem see_cst {e : Ef} (h : Cst e) (n : e ≠ .no) (d d' : D) : e.on d = e.on d' := by
  rcases h with rfl | rfl | ⟨d, rfl⟩ | ⟨f, rfl⟩
  · exact absurd rfl n
  · rfl
  · rfl
  · rfl
theorem see_merge {f : Str → Ef} (h : f "unused" = .no) : (Ef.merge f).on (oneD "unused" (.sc (.int 7))) ≠ (Ef.merge f).on (.sc (.int 0)) := by
  intro z
  injection z with z
  have := congrFun z "unused"
  simp only [h, Ef.isNo, if_true] at this
  exact nomatch (show D.sc (.int 7) = .nil from by
    have t : (oneD "unused" (.sc (.int 7))).tgt "unused" = .sc (.int 7) := by
      show (if (Str.ofString "unused") = Str.ofString "unused" then D.sc (.int 7) else .nil) = _
      rw [if_pos rfl]
    rw [← t, this]; rfl)
/-! ### what is always one object -/
def CE : Ef → Prop
  | .set d => d.isOb = false ∧ d.isNil = false
  | .build f => ∀ k, f k = .no ∨ CE (f k)
  | _ => False
def constE : D → Ef
  | .ob f => .build fun k => if (f k).isNil then .no else constE (f k)
  | d => .set d
theorem CE.no {e : Ef} (h : CE e) : e.isNo = false := by cases e <;> first | rfl | exact h.elim
theorem CE.nodrop {e : Ef} (h : CE e) : e.isDrop = false := by cases e <;> first | rfl | exact h.elim
theorem CE.nil : ∀ {e : Ef} (d : D), CE e → (e.on d).isNil = false
  | .set _, _, h => h.2
  | .build _, _, _ => rfl
  | .no, _, h => h.elim
  | .keep, _, h => h.elim
  | .drop, _, h => h.elim
  | .merge _, _, h => h.elim
theorem const_on : ∀ {e : Ef} (d : D), CE e → constE (e.on d) = e
  | .set d, _, h => by
    show constE d = .set d
    cases d with
    | ob f => cases h.1
    | nil => rfl
    | sc v => rfl
    | ls xs => rfl
  | .build f, _, h => by
    show Ef.build _ = _
    congr 1
    funext k
    rcases h k with z | z
    · show (if (if (f k).isNo then D.nil else (f k).on .nil).isNil then Ef.no else constE (if (f k).isNo then D.nil else (f k).on .nil)) = f k
      rw [z]; rfl
    · have n := z.no
      show (if (if (f k).isNo then D.nil else (f k).on .nil).isNil then Ef.no else constE (if (f k).isNo then D.nil else (f k).on .nil)) = f k
      rw [n]
      simp only [Bool.false_eq_true, if_false, z.nil .nil]
      exact const_on .nil z
  | .no, _, h => h.elim
  | .keep, _, h => h.elim
  | .drop, _, h => h.elim
  | .merge _, _, h => h.elim
/-- what is built is built of atoms and of what is built -/
def BK : Ef → Prop
  | .merge f => ∀ k, BK (f k)
  | .build f => ∀ k, f k = .no ∨ CE (f k)
  | .set d => d.isOb = false ∧ d.isNil = false
  | _ => True
theorem BK_fol1 : ∀ (y : Ef), BK y → y ≠ .no → ∀ x : Ef, (x = .drop ∨ CE x) → (x.fol y = .drop ∨ CE (x.fol y))
  | .no, _, n, _, _ => absurd rfl n
  | .keep, _, _, x, h => by rw [fol_k]; exact h
  | .drop, _, _, x, _ => by rw [fol_c _ (.inr (.inl rfl))]; exact .inl rfl
  | .set d, b, _, x, _ => by rw [fol_c _ (.inr (.inr (.inl ⟨d, rfl⟩)))]; exact .inr b
  | .build f, b, _, x, _ => by rw [fol_c _ (.inr (.inr (.inr ⟨f, rfl⟩)))]; exact .inr b
  | .merge g, b, _, x, h => by
    have c : Cst x := by
      rcases h with rfl | h
      · exact .inr (.inl rfl)
      · cases x with
        | set d => exact .inr (.inr (.inl ⟨d, rfl⟩))
        | build f => exact .inr (.inr (.inr ⟨f, rfl⟩))
        | _ => exact h.elim
    rw [fol_cm c]
    refine .inr fun k => ?_
    have hm : x.mem k = .no ∨ CE (x.mem k) := by
      rcases h with rfl | h
      · exact .inl rfl
      · cases x with
        | set d => exact .inl rfl
        | build f => exact h k
        | _ => exact h.elim
    show bl (x.mem k) (g k) = .no ∨ CE (bl (x.mem k) (g k))
    unfold bl
    by_cases z : (g k).isNo = true
    · rw [if_pos z]; exact hm
    · rw [if_neg z]
      have un : unN (x.mem k) = .drop ∨ CE (unN (x.mem k)) := by
        rcases hm with q | q
        · rw [q]; exact .inl rfl
        · rw [unN_id q.no]; exact .inr q
      rcases BK_fol1 (g k) (b k) (fun q => z (by rw [q]; rfl)) _ un with q | q
      · rw [q]; exact .inl rfl
      · refine .inr ?_
        unfold unD
        rw [if_neg (by rw [q.nodrop]; exact fun w => nomatch w)]
        exact q
theorem BK_fol : ∀ (m : Ef), BK m → ∀ e : Ef, BK e → BK (e.fol m)
  | .no, _, e, _ => by rw [fol_c _ (.inl rfl)]; trivial
  | .keep, _, e, h => by rw [fol_k]; exact h
  | .drop, _, e, _ => by rw [fol_c _ (.inr (.inl rfl))]; trivial
  | .set d, b, e, _ => by rw [fol_c _ (.inr (.inr (.inl ⟨d, rfl⟩)))]; exact b
  | .build f, b, e, _ => by rw [fol_c _ (.inr (.inr (.inr ⟨f, rfl⟩)))]; exact b
  | .merge g, b, e, h => by
    rcases ef_ways e with rfl | c | ⟨f, rfl⟩
    · rw [k_fol]; exact b
    · rw [fol_cm c]
      refine fun k => ?_
      have hm : e.mem k = .no ∨ CE (e.mem k) := by
        rcases c with rfl | rfl | ⟨d, rfl⟩ | ⟨f, rfl⟩
        · exact .inl rfl
        · exact .inl rfl
        · exact .inl rfl
        · exact h k
      show bl (e.mem k) (g k) = .no ∨ CE (bl (e.mem k) (g k))
      unfold bl
      by_cases z : (g k).isNo = true
      · rw [if_pos z]; exact hm
      · rw [if_neg z]
        have un : unN (e.mem k) = .drop ∨ CE (unN (e.mem k)) := by
          rcases hm with q | q
          · rw [q]; exact .inl rfl
          · rw [unN_id q.no]; exact .inr q
        rcases BK_fol1 (g k) (b k) (fun q => z (by rw [q]; rfl)) _ un with q | q
        · rw [q]; exact .inl rfl
        · refine .inr ?_
          unfold unD
          rw [if_neg (by rw [q.nodrop]; exact fun w => nomatch w)]
          exact q
    · rw [fol_mm]
      intro k
      show BK (jn (f k) (g k))
      unfold jn
      by_cases z : (g k).isNo = true
      · rw [if_pos z]; exact h k
      · rw [if_neg z]
        by_cases y : (f k).isNo = true
        · rw [if_pos y]; exact b k
        · rw [if_neg y]; exact BK_fol (g k) (b k) (f k) (h k)
theorem BK_pef : ∀ p : D, p.isNil = false → BK (pef p)
  | .ob f, _ => fun k => by
    show BK (if (f k).isNil then Ef.no else if (f k).isNon then .drop else pef (f k))
    by_cases c : (f k).isNil = true
    · rw [if_pos c]; trivial
    · rw [if_neg c]
      by_cases c2 : (f k).isNon = true
      · rw [if_pos c2]; trivial
      · rw [if_neg c2]; exact BK_pef (f k) (by simpa using c)
  | .nil, h => by cases h
  | .sc _, _ => ⟨rfl, rfl⟩
  | .ls _, _ => ⟨rfl, rfl⟩
theorem BK_row : ∀ (ps : List D), (∀ p ∈ ps, p.isNil = false) → ∀ e : Ef, BK e → BK (ps.foldl (fun e p => e.fol (pef p)) e)
  | [], _, _, h => h
  | p :: ps, hp, e, h => BK_row ps (fun q hq => hp q (List.mem_cons_of_mem _ hq)) _ (BK_fol _ (BK_pef p (hp p List.mem_cons_self)) e h)
theorem BK_cst {e : Ef} (h : BK e) (c : Cst e) (n1 : e ≠ .no) (n2 : e ≠ .drop) : CE e := by
  rcases c with rfl | rfl | ⟨d, rfl⟩ | ⟨f, rfl⟩
  · exact absurd rfl n1
  · exact absurd rfl n2
  · exact h
  · exact h
/-! ### the keys, atoms and levels of an effect -/
def AtmG (G : Gen) (d : D) : Prop := (∃ v, d = .sc v ∧ G.C v = true) ∨ ∃ xs, d = .ls xs ∧ xs.length ≤ G.L ∧ ∀ x ∈ xs, G.C x = true
def WfE (G : Gen) : Nat → Ef → Prop
  | 0, _ => False
  | n + 1, e => match e with
    | .no => False
    | .keep => True
    | .drop => True
    | .set d => AtmG G d
    | .merge f => ∀ k, f k = .no ∨ (k ∈ G.KS ∧ WfE G n (f k))
    | .build f => ∀ k, f k = .no ∨ (k ∈ G.KS ∧ WfE G n (f k))
theorem AtomAt.atm {S : Addr → Prop} {G : Gen} {H : Hp} {av : V} {d : D} (h : AtomAt S G H av d) : AtmG G d := by
  rcases h with ⟨q, c⟩ | ⟨_, xs, q1, q2, _, _, l, c⟩
  · exact .inl ⟨av, q, c⟩
  · exact .inr ⟨xs, q1, l, c⟩
theorem Ec.wf {C : Addr} {S : Addr → Prop} {G : Gen} {H : Hp} : ∀ {n : Nat} {v : V} {e : Ef}, Ec C S G H n v e → WfE G n e
  | 0, _, _, h => h
  | n + 1, v, e, ⟨a, dx, kd, av, t, bs, ev, sa, ha, st, ht, hb, nd, ks, h⟩ => by
    have mem : ∀ f : Str → Ef, (∀ k, k ∉ bs.map (fun b => b.2.1) → f k = .no) → (∀ b ∈ bs, Ec C S G H n b.2.2 (f b.2.1)) → ∀ k, f k = .no ∨ (k ∈ G.KS ∧ WfE G n (f k)) := fun f h1 h2 k => by
      by_cases c : k ∈ bs.map (fun b => b.2.1)
      · obtain ⟨b, hb, rfl⟩ := List.mem_map.mp c
        exact .inr ⟨ks b hb, (h2 b hb).wf⟩
      · exact .inl (h1 k c)
    cases e with
    | no => exact h
    | keep => trivial
    | drop => trivial
    | set d => exact h.2.2.atm
    | merge f => exact mem f h.2.2.1 h.2.2.2
    | build f => exact mem f h.2.2.1 h.2.2.2
end TP

namespace TP
open PySem PySem.Spec PyProof.Rows L2
abbrev sWrap : Stmt := topS 38
/-! ### _law_wrapped: a document with one path -/
theorem Dc.ne_nil' {S G H n v d} (h : Dc S G H n v d) : d ≠ .nil := fun z => by have := h.ne_nil; rw [z] at this; cases this
theorem strs_nil {H : Hp} : ∀ {ks : List Str}, PrsB ScB H (ks.map V.str) [] ks.isEmpty
  | [] => rfl
  | _ :: _ => rfl
theorem cut_tail (x : V) (xs : List V) : cutV (x :: xs) (some 1) none = xs := by
  show ((x :: xs).drop (HT.sIx (x :: xs).length 0 (some 1))).take _ = xs
  have e1 : HT.sIx (x :: xs).length 0 (some 1) = 1 := by
    show (if (1 : Int) < 0 then ((1 : Int) + ((x :: xs).length : Int)).toNat else min (1 : Int).toNat (x :: xs).length) = 1
    rw [if_neg (by decide), List.length_cons]
    show min 1 (xs.length + 1) = 1
    omega
  have e2 : HT.sIx (x :: xs).length (x :: xs).length none = (x :: xs).length := rfl
  rw [e1, e2, List.drop_one, List.tail_cons, List.length_cons]
  exact List.take_of_length_le (by omega)
theorem cut_part (x : V) (xs : List V) : ¬ (HT.sIx (x :: xs).length 0 (some 1) = 0 ∧ HT.sIx (x :: xs).length (x :: xs).length none = (x :: xs).length) := fun ⟨z, _⟩ => by
  have e1 : HT.sIx (x :: xs).length 0 (some 1) = 1 := by
    show (if (1 : Int) < 0 then ((1 : Int) + ((x :: xs).length : Int)).toNat else min (1 : Int).toNat (x :: xs).length) = 1
    rw [if_neg (by decide), List.length_cons]
    show min 1 (xs.length + 1) = 1
    omega
  rw [e1] at z
  exact absurd z (by decide)
def spWrap [TabL] (G : Gen) (m n : Nat) : Sp := fun vs H Q _ => ∃ (S : Addr → Prop) (p pl : Addr) (ks : List Str) (d : D), vs = [.ref p, .ref pl] ∧ H p = some (.tup (ks.map V.str)) ∧ (∀ k ∈ ks, k ∈ G.KS) ∧ ks.length < n ∧ LdAt S G H m pl d ∧ (ks = [] → d.isNil = false) ∧
  ∀ r H', Ex H H' → Dc (fun x => S x ∨ H x = none) G H' (m + ks.length) r (nestD ks d) → Q r H'
abbrev nWrap : List Str := ["_law_path", "_law_place"]
theorem scWrap : FnScope nWrap ["_law_path", "_law_place"] (defScope sWrap) := ⟨rfl, rfl, rfl, by decide +kernel, rfl, by decide +kernel, by decide +kernel⟩
section
variable [TabL] {P : Program} {w : World} {K : PySem.W.Frag} {mg : Str → Option Value} {base : Heap}
theorem ok_wrap {f : Addr} {fd : FuncData} {G : Gen} {m : Nat} (hm : m ≤ 40) (Dd : Df K mg "_law_wrapped" sWrap ["_law_path", "_law_place"] f fd) (T : Bi mg) : ∀ n, FnOk P w K mg base CX0 (n + 1) f fd ["_law_path", "_law_place"] (spWrap G m n)
  | 0 => fn_zero fun vs H Q E ⟨_, _, _, _, _, _, _, _, z, _⟩ => absurd z (Nat.not_lt_zero _)
  | n + 1 => by
    have ih := ok_wrap (G := G) (m := m) hm Dd T n
    refine Dd.F.ok scWrap (fun vs H Q E h => ?_) (fun cdv A outer s H vs Q E hr h => ?_)
    · obtain ⟨_, p, pl, ks, d, rfl, _⟩ := h
      rfl
    obtain ⟨S, p, pl, ks, d, rfl, hp, hks, hlt, hd, hne, k⟩ := h
    have hr1 : Room 1 _ := hr.mono (by omega)
    refine ⟨_, (pss_cons (ps_if (pt_cmpR (op_eqB (rcB_tup mon_scB eqB_sc) hr1) (pv 0) (pe_tup pa_nil) (nomark _)) (pss_one (ps_ret (pe_ix ix_list (pv 1) pe_int (fun _ _ => rfl)))) pss_nil)
    (C8.pss_cut (ps_if (PW.pt (pw_and (pt_cmpR op_eq (pe_callB call_len_seq (by rfl) (T.of "len") (by decide +kernel) (pa_cons (pv 0) pa_nil)) pe_int (nomark _)) (pw_and1 (pt_cmpR (op_eqLD hr.units) (pv 1) (pe_lst pa_nil) (nomark _))))) (pss_one (ps_ret pe_dnewK)) pss_nil)
    (pss_one (ps_ret (pe_disp (pps_cons (pe_ix ix_tup (pv 0) pe_int (fun _ _ => rfl)) (pe_call ih hr rfl Dd.m Dd.F.kp Dd.b .nil pass0 (pa_cons (pe_slice sl_tup (pv 0) (po_some pe_int) po_none) (pa_cons (pv 1) pa_nil))) pps_nil) (by rfl) (by rfl) (fun z => by cases z) (by decide)))))), ?_⟩
    refine ⟨.ref p, rfl, (by show 0 ≤ sizeLine; decide), fun q hq => ⟨ks.isEmpty, ⟨p, q, _, _, rfl, rfl, .inl (.inl (Ex.new hq _ _ hp)), .inl (.inl upd_same), strs_nil⟩, fun H1 x1 => ⟨_, rfl, ?_⟩⟩⟩
    have e1 : Ex H H1 := (Ex.new hq).trans (ex_all x1)
    clear x1
    cases ks with
    | nil =>
      refine iteT ?_
      rcases hd.ex e1 with ⟨z, _⟩ | ⟨u, r, hu⟩
      · rw [z] at hne
        exact absurd (hne rfl) (by decide)
      · exact ⟨.ref pl, rfl, pl, _, 0, _, rfl, rfl, .inl (.inl r), atI_nat (j := 0) rfl, k _ H1 e1 (hu.imp fun x hx => .inl hx)⟩
    | cons key ks =>
      refine iteF ?_
      have hk1 : key ∈ G.KS := hks key List.mem_cons_self
      refine ⟨fun σ' H' => σ' = [some (.ref p), some (.ref pl)] ∧ Ex H H' ∧ (ks = [] → d.isNil = false), ?_, ?_⟩
      · refine ⟨.ref p, rfl, p, _, rfl, .inr (.inl (.inl (e1 _ _ hp))), rfl, _, rfl, ite2 (fun c => ?_) fun c => ?_⟩
        · have ek : ks = [] := by
            have c := of_decide_eq_true c
            injection c with c
            rw [List.length_map, List.length_cons] at c
            exact List.eq_nil_of_length_eq_zero (by omega)
          subst ek
          refine ⟨.ref pl, rfl, (by show 0 ≤ sizeLine; decide), fun z hz => ⟨S, fun _ => False, G, G, m, 1, pl, z, d, .nil, rfl, rfl, hm, (hd.ex e1).ex (Ex.new hz), .inl ⟨rfl, upd_same⟩, _, rfl, ?_⟩⟩
          have e2 := e1.trans (Ex.new hz (o := .lst []))
          by_cases cd : d = .nil
          · rw [deq_t cd]
            subst cd
            refine iteT fun o ho => k _ _ (e2.trans (Ex.new ho)) ?_
            have e : nestD [key] D.nil = .ob fun _ => .nil := by
              show D.ob _ = _
              congr 1
              funext j
              split <;> rfl
            rw [e]
            exact Dc.ob (ms := []) (n := m) (.inr (fresh_back e2 ho)) upd_same Mem.nil
          · rw [deq_f cd]
            refine iteF ⟨rfl, e2, fun _ => ?_⟩
            cases d with
            | nil => exact absurd rfl cd
            | _ => rfl
        · refine iteF ⟨rfl, e1, fun z => absurd ?_ c⟩
          rw [z]
          rfl
      rintro _ H2 ⟨rfl, e2, hne2⟩
      intro o ho
      refine ⟨.ref p, rfl, p, _, 0, _, rfl, rfl, .inl (.inl ((e2.trans (Ex.new ho)) _ _ hp)), atI_nat (j := 0) rfl, ?_⟩
      refine ⟨.ref p, rfl, 1, rfl, p, _, rfl, .inl (.inl ((e2.trans (Ex.new ho)) _ _ hp)), cut_part _ _, fun t ht => ?_⟩
      rw [List.map_cons, cut_tail]
      have e3 : Ex H2 (upd (upd H2 o (.dK [])) t (.tup (ks.map V.str))) := (Ex.new ho).trans (Ex.new ht)
      have l3 : (upd (upd H2 o (.dK [])) t (.tup (ks.map V.str))) t = some (.tup (ks.map V.str)) := upd_same
      have o3 : (upd (upd H2 o (.dK [])) t (.tup (ks.map V.str))) o = some (.dK []) := by rw [upd_ne (ne_of_none upd_same ht), upd_same]
      generalize (upd (upd H2 o (.dK [])) t (.tup (ks.map V.str))) = H3 at e3 l3 o3 ⊢
      have e03 := e2.trans e3
      refine ⟨.ref pl, rfl, (fun x => S x ∧ H x ≠ none), t, pl, ks, d, rfl, l3, fun k hk => hks k (List.mem_cons_of_mem _ hk), by rw [List.length_cons] at hlt; omega, ?_, hne2, fun r H4 e4 hr4 => ?_⟩
      · refine Or.imp (fun ⟨z, q⟩ => ⟨z, e03 _ _ q⟩) (fun ⟨u, q, z⟩ => ⟨u, e03 _ _ q, (z.alloc).ex e03⟩) hd
      · have noH : H o = none := fresh_back e2 ho
        have o4 := e4 _ _ o3
        refine ⟨o4, [(Sum.inr key, r)], rfl, (by show 1 ≤ 15; decide), k _ _ ?_ ?_⟩
        · exact (e03.trans e4).mut noH o4
        · have hr5 : Dc (fun x => (S x ∨ H x = none) ∧ x ≠ o) G H4 (m + ks.length) r (nestD ks d) := hr4.imp fun x hx => by
            rcases hx with ⟨hx, al⟩ | hx
            · exact ⟨.inl hx, fun z => al (by rw [z]; exact noH)⟩
            · exact ⟨.inr (fresh_back e03 hx), fun z => by rw [z, o3] at hx; cases hx⟩
          have := (hr5.off (a := o) (o := .dK (mergeK [] [(Sum.inr key, r)])) fun z => z.2 rfl).imp fun x hx => hx.1
          rw [List.length_cons]
          exact dc_one hk1 (.inr noH) upd_same this
end
end TP

namespace TP
open PySem PySem.Spec PyProof.Rows L2
/-! ### effects that do the same to documents with one path are one -/
theorem merge_tgt (f : Str → Ef) (k : Str) (ks : List Str) (p : D) : ((Ef.merge f).on (nestD (k :: ks) p)).tgt k = (f k).on (nestD ks p) := by
  show (if (f k).isNo then (oneD k (nestD ks p)).tgt k else (f k).on ((oneD k (nestD ks p)).tgt k)) = _
  have t : (oneD k (nestD ks p)).tgt k = nestD ks p := if_pos rfl
  rw [t]
  by_cases c : (f k).isNo = true
  · rw [if_pos c, on_no c]
  · rw [if_neg c]
theorem pls_unu (b : Bool) : oneD "unused" (.sc (.int 7)) ∈ plsD b := by cases b <;> simp [plsD]
theorem pls_zero (b : Bool) : D.sc (.int 0) ∈ plsD b := by cases b <;> simp [plsD]
/-- what is always one thing against what merges -/
theorem cst_merge {e : Ef} (c : Cst e) (n : e ≠ .no) {g : Str → Ef} (gu : g "unused" = .no) {b : Bool} (h : ∀ p ∈ plsD b, e.on p = (Ef.merge g).on p) : False := by
  have h1 := h _ (pls_unu b)
  have h2 := h _ (pls_zero b)
  exact see_merge gu (h1.symm.trans ((see_cst c n _ _).trans h2))
theorem ce_cst {e : Ef} (h : CE e) : Cst e := by
  cases e with
  | set d => exact .inr (.inr (.inl ⟨d, rfl⟩))
  | build f => exact .inr (.inr (.inr ⟨f, rfl⟩))
  | _ => exact h.elim
theorem ce_two {e m : Ef} (h : CE e) (h' : CE m) {b : Bool} (hh : ∀ p ∈ plsD b, e.on p = m.on p) : e = m := by
  rw [← const_on (.sc (.int 0)) h, ← const_on (.sc (.int 0)) h', hh _ (pls_zero b)]
theorem ce_drop {e : Ef} (h : CE e) {b : Bool} (hh : ∀ p ∈ plsD b, e.on p = Ef.drop.on p) : False := by
  have := h.nil (.sc (.int 0))
  rw [hh _ (pls_zero b)] at this
  cases this
theorem no_other {m : Ef} (h : ∀ p ∈ plsD true, p = m.on p) (nk : m ≠ .keep) : m = .no := by
  refine Classical.byContradiction fun n => see_other n nk true ?_
  conv => rhs; rw [← List.map_id (plsD true)]
  exact List.map_congr_left fun p hp => (h p hp).symm
theorem wf_unu {G : Gen} (hu : ("unused" : Str) ∉ G.KS) {n : Nat} {f : Str → Ef} (h : WfE G n (.merge f)) : f "unused" = .no := by
  cases n with
  | zero => exact h.elim
  | succ n => exact (h "unused").elim id fun z => absurd z.1 hu
theorem drop_merge {g : Str → Ef} {b : Bool} (h : ∀ p ∈ plsD b, Ef.drop.on p = (Ef.merge g).on p) : False := nomatch h _ (pls_zero b)
theorem BK.ways {e : Ef} (h : BK e) (nn : e ≠ .no) (nk : e ≠ .keep) : e = .drop ∨ CE e ∨ ∃ f, e = .merge f := by
  rcases ef_ways e with z | z | z
  · exact absurd z nk
  · by_cases d : e = .drop
    · exact .inl d
    · exact .inr (.inl (BK_cst h z nn d))
  · exact .inr (.inr z)
theorem sepM {G : Gen} (hu : ("unused" : Str) ∉ G.KS) : ∀ (n : Nat) (e m : Ef), (e = .no ∨ WfE G n e) → (m = .no ∨ WfE G n m) → BK e → BK m → e.mok → m.mok → e ≠ .keep → m ≠ .keep →
    (∀ ks : List Str, ks.length ≤ n → (∀ k ∈ ks, k ∈ G.KS) → ∀ p ∈ plsD true, e.on (nestD ks p) = m.on (nestD ks p)) → e = m
  | 0, e, m, h1, h2, _, _, _, _, _, _, _ => by
    rw [h1.resolve_right id, h2.resolve_right id]
  | n + 1, e, m, h1, h2, b1, b2, k1, k2, n1, n2, h => by
    have h0 := h [] (Nat.zero_le _) (fun k hk => nomatch hk)
    by_cases c1 : e = .no
    · subst c1
      exact (no_other h0 n2).symm
    by_cases c2 : m = .no
    · subst c2
      exact no_other (fun p hp => (h0 p hp).symm) n1
    have w1 := h1.resolve_left c1
    have w2 := h2.resolve_left c2
    rcases b1.ways c1 n1 with rfl | e1 | ⟨f, rfl⟩
    · rcases b2.ways c2 n2 with rfl | e2 | ⟨g, rfl⟩
      · rfl
      · exact (ce_drop e2 (b := true) fun p hp => (h0 p hp).symm).elim
      · exact (drop_merge (b := true) h0).elim
    · rcases b2.ways c2 n2 with rfl | e2 | ⟨g, rfl⟩
      · exact (ce_drop e1 (b := true) h0).elim
      · exact ce_two e1 e2 (b := true) h0
      · exact (cst_merge (ce_cst e1) c1 (wf_unu hu w2) (b := true) h0).elim
    · rcases b2.ways c2 n2 with rfl | e2 | ⟨g, rfl⟩
      · exact (drop_merge (b := true) fun p hp => (h0 p hp).symm).elim
      · exact (cst_merge (ce_cst e2) c2 (wf_unu hu w1) (b := true) fun p hp => (h0 p hp).symm).elim
      · congr 1
        funext k
        by_cases hk : k ∈ G.KS
        · refine sepM hu n (f k) (g k) ((w1 k).imp id fun z => z.2) ((w2 k).imp id fun z => z.2) (b1 k) (b2 k) (k1 k).2 (k2 k).2 (fun z => by have := (k1 k).1; rw [z] at this; cases this) (fun z => by have := (k2 k).1; rw [z] at this; cases this) fun ks hl hks p hp => ?_
          rw [← merge_tgt f k ks p, ← merge_tgt g k ks p, h (k :: ks) (by rw [List.length_cons]; omega) (fun j hj => (List.mem_cons.mp hj).elim (fun z => by rw [z]; exact hk) (hks j)) p hp]
        · rw [(w1 k).elim id fun z => absurd z.1 hk, (w2 k).elim id fun z => absurd z.1 hk]
/-- at the root: nothing is not tried there, and an effect may keep -/
theorem sep {G : Gen} (hu : ("unused" : Str) ∉ G.KS) {n : Nat} {e m : Ef} (w1 : WfE G n e) (w2 : WfE G n m) (b1 : BK e) (b2 : BK m) (k1 : e.mok) (k2 : m.mok) (d1 : e.isDrop = false) (d2 : m.isDrop = false)
    (h0 : ∀ p ∈ plsD false, e.on p = m.on p) (h : ∀ ks : List Str, ks ≠ [] → ks.length ≤ n → (∀ k ∈ ks, k ∈ G.KS) → ∀ p ∈ plsD true, e.on (nestD ks p) = m.on (nestD ks p)) : e = m := by
  have nn : ∀ {e : Ef}, WfE G n e → e ≠ .no := fun {e} w z => by
    subst z
    cases n with
    | zero => exact w
    | succ n => exact w
  have keep : ∀ {m : Ef}, WfE G n m → (∀ p ∈ plsD false, p = m.on p) → m = .keep := fun {m} w h => by
    refine Classical.byContradiction fun nk => see_other (nn w) nk false ?_
    conv => rhs; rw [← List.map_id (plsD false)]
    exact List.map_congr_left fun p hp => (h p hp).symm
  by_cases c1 : e = .keep
  · subst c1
    exact (keep w2 h0).symm
  by_cases c2 : m = .keep
  · subst c2
    exact keep w1 fun p hp => (h0 p hp).symm
  rcases b1.ways (nn w1) c1 with rfl | e1 | ⟨f, rfl⟩
  · cases d1
  · rcases b2.ways (nn w2) c2 with rfl | e2 | ⟨g, rfl⟩
    · cases d2
    · exact ce_two e1 e2 (b := false) h0
    · exact (cst_merge (ce_cst e1) (nn w1) (wf_unu hu w2) (b := false) h0).elim
  · rcases b2.ways (nn w2) c2 with rfl | e2 | ⟨g, rfl⟩
    · cases d2
    · exact (cst_merge (ce_cst e2) (nn w2) (wf_unu hu w1) (b := false) fun p hp => (h0 p hp).symm).elim
    · cases n with
      | zero => exact w1.elim
      | succ n =>
        congr 1
        funext k
        by_cases hk : k ∈ G.KS
        · refine sepM hu n (f k) (g k) ((w1 k).imp id fun z => z.2) ((w2 k).imp id fun z => z.2) (b1 k) (b2 k) (k1 k).2 (k2 k).2 (fun z => by have := (k1 k).1; rw [z] at this; cases this) (fun z => by have := (k2 k).1; rw [z] at this; cases this) fun ks hl hks p hp => ?_
          rw [← merge_tgt f k ks p, ← merge_tgt g k ks p, h (k :: ks) (fun z => nomatch z) (by rw [List.length_cons]; omega) (fun j hj => (List.mem_cons.mp hj).elim (fun z => by rw [z]; exact hk) (hks j)) p hp]
        · rw [(w1 k).elim id fun z => absurd z.1 hk, (w2 k).elim id fun z => absurd z.1 hk]
end TP

namespace TP
open PySem PySem.Spec PyProof.Rows L2
/-- tuples stay -/
def Tx (H H' : Hp) : Prop := ∀ a xs, H a = some (.tup xs) → H' a = some (.tup xs)
theorem Tx.bs {S : Addr → Prop} {H H' : Hp} {bs : List Bs} (x : Tx H H') (h : BsAt S H bs) : BsAt (fun _ => True) H' bs := fun b hb => ⟨trivial, x _ _ (h b hb).2⟩
theorem Tx.at {S : Addr → Prop} {G : Gen} {H H' : Hp} {av : V} {d : D} (x : Tx H H') (h : AtomAt S G H av d) : AtomAt (fun _ => True) G H' av d := h.ch fun b xs _ r => ⟨trivial, x _ _ r⟩
theorem Tx.of [TabL] {H H' : Hp} (e : Ex H H') : Tx H H' := fun a xs h => e a _ h
theorem Tx.trans {H H1 H2 : Hp} (a : Tx H H1) (b : Tx H1 H2) : Tx H H2 := fun c xs h => b c xs (a c xs h)
theorem Tx.upd {H : Hp} {D : Addr} {xs : List V} {o : HO} (h : H D = some (.lst xs)) : Tx H (upd H D o) := fun a ys z => by
  have : a ≠ D := fun q => by rw [q, h] at z; cases z
  rw [upd_ne this]; exact z
end TP

namespace TP
open PySem PySem.Spec PyProof.Rows L2
abbrev sPaths : Stmt := topS 39
/-! ### _law_paths: all paths of up to three keys -/
def keys4 : List Str := ["a", "b", "c", "unused"]
def longerP (pss : List (List Str)) : List (List Str) := (pss.map fun ks => keys4.map fun k => ks ++ [k]).flatten
def lastP : Nat → List (List Str)
  | 0 => [[]]
  | i + 1 => longerP (lastP i)
def foundP : Nat → List (List Str)
  | 0 => [[]]
  | i + 1 => foundP i ++ lastP (i + 1)
theorem mem_lastP : ∀ {i : Nat} {ks : List Str}, ks ∈ lastP i ↔ ks.length = i ∧ ∀ k ∈ ks, k ∈ keys4
  | 0, ks => by
    show ks ∈ [[]] ↔ _
    rw [List.mem_singleton]
    exact ⟨fun z => by rw [z]; exact ⟨rfl, fun k hk => nomatch hk⟩, fun z => List.eq_nil_of_length_eq_zero z.1⟩
  | i + 1, ks => by
    show ks ∈ ((lastP i).map fun js => keys4.map fun k => js ++ [k]).flatten ↔ _
    simp only [List.mem_flatten, List.mem_map]
    constructor
    · rintro ⟨l, ⟨js, hj, rfl⟩, hk⟩
      obtain ⟨k, hk2, rfl⟩ := List.mem_map.mp hk
      obtain ⟨h1, h2⟩ := mem_lastP.mp hj
      refine ⟨by rw [List.length_append, h1]; rfl, fun j hj' => ?_⟩
      rcases List.mem_append.mp hj' with z | z
      · exact h2 j z
      · rw [List.mem_singleton.mp z]; exact hk2
    · rintro ⟨h1, h2⟩
      have ne : ks ≠ [] := fun z => by rw [z] at h1; cases h1
      obtain ⟨js, k, rfl⟩ : ∃ js k, ks = js ++ [k] := ⟨ks.dropLast, ks.getLast ne, (List.dropLast_concat_getLast ne).symm⟩
      rw [List.length_append] at h1
      refine ⟨_, ⟨js, mem_lastP.mpr ⟨by simpa using h1, fun j hj => h2 j (List.mem_append_left _ hj)⟩, rfl⟩, List.mem_map.mpr ⟨k, h2 k (by simp), rfl⟩⟩
theorem mem_foundP : ∀ {i : Nat} {ks : List Str}, ks ∈ foundP i ↔ ks.length ≤ i ∧ ∀ k ∈ ks, k ∈ keys4
  | 0, ks => by
    rw [show foundP 0 = lastP 0 from rfl, mem_lastP]
    exact ⟨fun z => ⟨by omega, z.2⟩, fun z => ⟨by omega, z.2⟩⟩
  | i + 1, ks => by
    show ks ∈ foundP i ++ lastP (i + 1) ↔ _
    rw [List.mem_append, mem_foundP, mem_lastP]
    constructor
    · rintro (z | z)
      · exact ⟨by omega, z.2⟩
      · exact ⟨by omega, z.2⟩
    · intro z
      by_cases c : ks.length ≤ i
      · exact .inl ⟨c, z.2⟩
      · exact .inr ⟨by omega, z.2⟩
theorem len_lastP {i : Nat} (h : i ≤ 3) : (lastP i).length ≤ 64 := by
  match i, h with
  | 0, _ => decide +kernel
  | 1, _ => decide +kernel
  | 2, _ => decide +kernel
  | 3, _ => decide +kernel
theorem len_foundP {i : Nat} (h : i ≤ 3) : (foundP i).length ≤ 100 := by
  match i, h with
  | 0, _ => decide +kernel
  | 1, _ => decide +kernel
  | 2, _ => decide +kernel
  | 3, _ => decide +kernel
theorem longer_take {pss : List (List Str)} {i : Nat} {ks : List Str} (h : pss[i]? = some ks) : longerP (pss.take (i + 1)) = longerP (pss.take i) ++ keys4.map fun k => ks ++ [k] := by
  unfold longerP
  rw [List.take_add_one, h]
  simp
theorem len_longer : ∀ (pss : List (List Str)), (longerP pss).length = 4 * pss.length
  | [] => rfl
  | ks :: pss => by
    have := len_longer pss
    unfold longerP at this ⊢
    rw [List.map_cons, List.flatten_cons, List.length_append, this, List.length_map, List.length_cons]
    show 4 + 4 * pss.length = 4 * (pss.length + 1)
    omega
/-- a list of paths -/
def PLs (H : Hp) (L : Addr) (pss : List (List Str)) : Prop := ∃ ps : List (Addr × List Str), H L = some (.lst (ps.map fun q => V.ref q.1)) ∧ ps.map (·.2) = pss ∧ ∀ q ∈ ps, H q.1 = some (.tup (q.2.map V.str))
theorem PLs.ex [TabL] {H H' L pss} (e : Ex H H') (h : PLs H L pss) : PLs H' L pss := let ⟨ps, h1, h2, h3⟩ := h; ⟨ps, e _ _ h1, h2, fun q hq => e _ _ (h3 q hq)⟩
theorem PLs.app [TabL] {H L M p pss qss} (hp : H p = none) (h : PLs H L pss) (h' : PLs H M qss) : ∃ xs ys, H L = some (.lst xs) ∧ H M = some (.lst ys) ∧ xs.length = pss.length ∧ ys.length = qss.length ∧ PLs (upd H p (.lst (xs ++ ys))) p (pss ++ qss) := by
  obtain ⟨ps, h1, rfl, h3⟩ := h
  obtain ⟨qs, h1', rfl, h3'⟩ := h'
  refine ⟨_, _, h1, h1', by simp, by simp, ps ++ qs, by rw [upd_same, List.map_append], by rw [List.map_append], fun q hq => ?_⟩
  rcases List.mem_append.mp hq with hq | hq
  · exact (Ex.new hp) _ _ (h3 q hq)
  · exact (Ex.new hp) _ _ (h3' q hq)
def spPaths [TabL] : Sp := fun vs H Q _ => vs = [] ∧ ∀ L H', Ex H H' → PLs H' L (foundP 3) → Q (.ref L) H'
abbrev nPaths : List Str := ["_law_found", "_law_last", "_law_turn", "_law_longer", "_law_path", "_law_key"]
theorem scPaths : FnScope nPaths [] (defScope sPaths) := ⟨rfl, rfl, rfl, by decide +kernel, rfl, by decide +kernel, by decide +kernel⟩
section
variable [TabL] {P : Program} {w : World} {K : PySem.W.Frag} {mg : Str → Option Value} {base : Heap}
theorem ok_paths {f : Addr} {fd : FuncData} (T : Bi mg) (Dd : Df K mg "_law_paths" sPaths [] f fd) : FnOk P w K mg base CX0 1 f fd [] spPaths := by
  refine Dd.F.ok scPaths (fun vs H Q E h => ?_) (fun cdv A outer s H vs Q E hr h => ?_)
  · obtain ⟨rfl, _⟩ := h
    rfl
  obtain ⟨rfl, k⟩ := h
  refine ⟨_, (pss_cons (ps_par (i := 0) (j := 1) rfl scPaths.nd rfl rfl (by decide) rfl rfl (pa_cons (pe_lst (pa_cons (pe_tup pa_nil) pa_nil)) (pa_cons (pe_lst (pa_cons (pe_tup pa_nil) pa_nil)) pa_nil)) (by rfl))
    (pss_cons (ps_for PassesOwn.never rfl (pi_range1 (by rfl) (T.of "range") (pa_cons pe_int pa_nil)) (pg_name (i := 2) scPaths.nd rfl (Or.inl rfl)) (pss_cons (ps_set (i := 3) scPaths.nd rfl (Or.inl rfl) (pe_lst pa_nil))
      (pss_cons (ps_for PassesOwn.never rfl (pi_list (pv 1)) (pg_name (i := 4) scPaths.nd rfl (Or.inr rfl)) (pss_one (ps_set (i := 3) scPaths.nd rfl (Or.inl rfl) (pe_op op_cat (pv 3) (pe_lc (own := [("_law_key", 5)]) (g := gName 5) (tt := tYes) rfl scPaths.nd (pi_tup (pe_tup (pa_cons pe_str (pa_cons pe_str (pa_cons pe_str (pa_cons pe_str pa_nil)))))) (blkOk_by (N := nPaths) (sc := defScope sPaths) (by decide +kernel)) (fun _ _ _ _ _ => pg_name (i := 5) scPaths.nd rfl (Or.inl rfl)) (fun _ _ _ _ _ => pts_nil) (fun _ _ _ _ _ => (pe_op (show OpR _ (binaryOp .Add) (rCatA K) from op_catA) (pv 4) (pe_tup (pa_cons (pv 5) pa_nil)))))))))
      (pss_one (ps_par (i := 0) (j := 1) rfl scPaths.nd rfl rfl (by decide) rfl rfl (pa_cons (pe_op op_cat (pv 0) (pv 3)) (pa_cons (pv 3) pa_nil)) (by rfl))))))
    (pss_one (ps_ret (pv 0))))), ?_⟩
  refine ⟨(by show 0 ≤ sizeLine; decide), fun t1 h1 => ⟨(by show 1 ≤ sizeLine; decide), fun l1 hl1 => ⟨(by show 0 ≤ sizeLine; decide), fun t2 h2 => ⟨(by show 1 ≤ sizeLine; decide), fun l2 hl2 => ?_⟩⟩⟩⟩
  have e1 : Ex H (upd (upd H t1 (.tup [])) l1 (.lst [.ref t1])) := (Ex.new h1).trans (Ex.new hl1)
  have p1 : PLs (upd (upd H t1 (.tup [])) l1 (.lst [.ref t1])) l1 (foundP 0) := ⟨[(t1, [])], upd_same, rfl, fun q hq => by rw [List.mem_singleton.mp hq]; show upd _ l1 _ t1 = some (.tup []); rw [upd_ne (ne_of_none upd_same hl1), upd_same]⟩
  generalize (upd (upd H t1 (.tup [])) l1 (.lst [.ref t1])) = H1 at e1 p1 h2 hl2 ⊢
  have e2 : Ex H1 (upd (upd H1 t2 (.tup [])) l2 (.lst [.ref t2])) := (Ex.new h2).trans (Ex.new hl2)
  have p2 : PLs (upd (upd H1 t2 (.tup [])) l2 (.lst [.ref t2])) l2 (lastP 0) := ⟨[(t2, [])], upd_same, rfl, fun q hq => by rw [List.mem_singleton.mp hq]; show upd _ l2 _ t2 = some (.tup []); rw [upd_ne (ne_of_none upd_same hl2), upd_same]⟩
  generalize (upd (upd H1 t2 (.tup [])) l2 (.lst [.ref t2])) = H2 at e2 p2 ⊢
  have p1 := p1.ex e2
  have e12 := e1.trans e2
  refine ⟨.ref l1, .ref l2, rfl, 3, rfl, by decide, by decide, ?_⟩
  refine for_range (lo := 0) (n := 3) (fun i σ H3 => ∃ L M, (∃ x2 x3 x4 x5, σ = [some (.ref L), some (.ref M), x2, x3, x4, x5]) ∧ Ex H H3 ∧ PLs H3 L (foundP i) ∧ PLs H3 M (lastP i)) ⟨l1, l2, ⟨_, _, _, _, rfl⟩, e12, p1, p2⟩ ?_ ?_
  · rintro i σ H3 hi ⟨L, M, ⟨x2, x3, x4, x5, rfl⟩, e3, pL, pM⟩
    refine ⟨(by show 0 ≤ sizeLine; decide), fun l3 hl3 => ?_⟩
    have e4 : Ex H3 (upd H3 l3 (.lst [])) := Ex.new hl3
    have p3 : PLs (upd H3 l3 (.lst [])) l3 (longerP ((lastP i).take 0)) := ⟨[], upd_same, rfl, fun q hq => nomatch hq⟩
    generalize (upd H3 l3 (.lst [])) = H4 at e4 p3 ⊢
    obtain ⟨ms, hM, hms, hmt⟩ := pM.ex e4
    refine ⟨.ref M, rfl, M, rfl, ⟨_, .inl (.inl hM)⟩, ?_⟩
    refine for_list (K := K) (a := M) (xs := ms.map fun q => V.ref q.1) (fun j σ H5 => ∃ L3, (∃ x4 x5, σ = [some (.ref L), some (.ref M), some (.int (0 + i)), some (.ref L3), x4, x5]) ∧ Ex H4 H5 ∧ PLs H5 L3 (longerP ((lastP i).take j))) ⟨l3, ⟨_, _, rfl⟩, Ex.refl _, p3⟩ (fun j σ H5 _ ⟨_, _, e, _⟩ => .inl (.inl (e _ _ hM))) ?_ ?_
    · rintro j y σ H5 hj ⟨L3, ⟨x4, x5, rfl⟩, e5, pL3⟩
      obtain ⟨q, hq, rfl⟩ : ∃ q, ms[j]? = some q ∧ y = .ref q.1 := by
        rw [List.getElem?_map] at hj
        obtain ⟨q, h1, h2⟩ := Option.map_eq_some_iff.mp hj
        exact ⟨q, h1, h2.symm⟩
      have hqp : (lastP i)[j]? = some q.2 := by rw [← hms, List.getElem?_map, hq]; rfl
      have hqt := e5 _ _ (hmt q (List.mem_of_getElem? hq))
      refine ⟨.ref L3, rfl, (by show 4 ≤ sizeLine; decide), fun pt hpt => ⟨pt, rfl, ⟨_, .inl (.inl upd_same)⟩, fun La hD => ?_⟩⟩
      have e6 : Ex H5 (upd H5 pt (.tup [.str "a", .str "b", .str "c", .str "unused"])) := Ex.new hpt
      have l6 : (upd H5 pt (.tup [.str "a", .str "b", .str "c", .str "unused"])) pt = some (.tup (keys4.map V.str)) := upd_same
      generalize (upd H5 pt (.tup [.str "a", .str "b", .str "c", .str "unused"])) = H6 at e6 l6 hD ⊢
      refine lc_tup (K := K) (a := pt) (xs := keys4.map V.str) (fun c H7 => Ex H6 H7 ∧ PLs H7 La ((keys4.take c).map fun k => q.2 ++ [k])) ⟨Ex.new hD, [], upd_same, rfl, fun q hq => nomatch hq⟩ (fun c H7 _ z => .inl (.inl (z.1 _ _ l6))) (fun c y H7 hc z => ?_) fun H7 z => ?_
      · obtain ⟨e7, ps, h7, hps, hpt7⟩ := z
        obtain ⟨key, hk, rfl⟩ : ∃ key, keys4[c]? = some key ∧ y = .str key := by
          rw [List.getElem?_map] at hc
          obtain ⟨q, h1, h2⟩ := Option.map_eq_some_iff.mp hc
          exact ⟨q, h1, h2.symm⟩
        have e57 := e6.trans e7
        have hl : ps.length ≤ 4 := by
          have := congrArg List.length hps
          rw [List.length_map, List.length_map, List.length_take] at this
          rw [this]
          exact Nat.min_le_right c 4
        have q4 : q.2.length ≤ 3 := by
          have := (mem_lastP.mp (List.mem_of_getElem? hqp)).1
          omega
        have go : ∀ pn H8, Ex H7 H8 → H8 pn = some (.tup ((q.2 ++ [key]).map V.str)) → ∃ acc, H8 La = some (.lst acc) ∧ acc.length < sizeLine ∧ Ex H6 (upd H8 La (.lst (acc ++ [.ref pn]))) ∧ PLs (upd H8 La (.lst (acc ++ [.ref pn]))) La ((keys4.take (c + 1)).map fun k => q.2 ++ [k]) := fun pn H8 e8 h8 => by
          have d8 := e8 _ _ h7
          have tt : ∀ b xs, H8 b = some (.tup xs) → (upd H8 La (.lst (ps.map (fun q => V.ref q.1) ++ [.ref pn]))) b = some (.tup xs) := Tx.upd d8
          refine ⟨_, d8, (by rw [List.length_map]; exact Nat.lt_of_le_of_lt hl (by decide)), (e7.trans e8).mut hD d8, ps ++ [(pn, q.2 ++ [key])], by rw [upd_same, List.map_append]; rfl, ?_, fun r hr' => ?_⟩
          · rw [List.map_append, hps, List.take_add_one, hk, Option.toList_some, List.map_append]
            rfl
          · rcases List.mem_append.mp hr' with hr' | hr'
            · exact tt _ _ (e8 _ _ (hpt7 r hr'))
            · rw [List.mem_singleton.mp hr']
              exact tt _ _ h8
        refine ⟨rfl, t_yes ⟨.ref q.1, rfl, _, rfl, (by show 1 ≤ sizeLine; decide), fun t3 ht3 => ⟨q.1, t3, q.2.map V.str, [.str key], rfl, rfl, .inl (.inl ((e57.trans (Ex.new ht3)) _ _ hqt)), .inl (.inl upd_same), ?_, fun z => ?_, fun _ z => (by cases z), fun _ _ p4 hp4 => ?_⟩⟩⟩
        · rw [List.length_map]
          exact Nat.le_trans (show q.2.length + 1 ≤ 4 by omega) (by decide)
        · have z : q.2 = [] := List.map_eq_nil_iff.mp z
          refine go t3 _ (Ex.new ht3) ?_
          rw [z]
          exact upd_same
        · refine go p4 _ ((Ex.new ht3).trans (Ex.new hp4)) ?_
          rw [List.map_append]
          exact upd_same
      · obtain ⟨e7, pK⟩ := z
        rw [List.length_map, List.take_length] at pK
        have e57 := e6.trans e7
        have pL37 := pL3.ex e57
        refine (?_ : ∃ _, _)
        obtain ⟨ps3, h3, hps3, ht3⟩ := id pL37
        obtain ⟨psK, hK, hpsK, htK⟩ := id pK
        refine ⟨L3, La, _, _, rfl, rfl, h3, hK, ?_, fun p5 hp5 => ⟨p5, ⟨_, _, rfl⟩, e5.trans (e57.trans (Ex.new hp5)), ?_⟩⟩
        · have a1 : ps3.length ≤ 256 := by
            have := congrArg List.length hps3
            rw [List.length_map, len_longer, List.length_take] at this
            have := len_lastP (i := i) (by omega)
            omega
          have a2 : psK.length ≤ 4 := by
            have := congrArg List.length hpsK
            rw [List.length_map, List.length_map] at this
            exact Nat.le_of_eq this
          rw [List.length_map, List.length_map]
          exact Nat.le_trans (show _ ≤ 260 by omega) (by decide)
        · obtain ⟨xs, ys, g1, g2, _, _, g⟩ := PLs.app hp5 pL37 pK
          rw [h3] at g1; rw [hK] at g2
          injection g1 with g1; injection g1 with g1
          injection g2 with g2; injection g2 with g2
          rw [longer_take hqp, g1, g2]
          exact g
    · rintro σ H5 ⟨L3, ⟨x4, x5, rfl⟩, e5, pL3⟩
      have hml : ms.length = (lastP i).length := by rw [← hms, List.length_map]
      rw [List.length_map, hml, List.take_length] at pL3
      have e35 := e4.trans e5
      have pL5 := pL.ex e35
      obtain ⟨psL, hL, hpsL, htL⟩ := id pL5
      obtain ⟨ps3, h3, hps3, ht3⟩ := id pL3
      refine ⟨.ref L, rfl, .ref L3, rfl, L, L3, _, _, rfl, rfl, hL, h3, ?_, fun p6 hp6 => ⟨.ref L3, rfl, .ref p6, .ref L3, rfl, p6, L3, ⟨_, _, _, _, rfl⟩, e3.trans (e35.trans (Ex.new hp6)), ?_, pL3.ex (Ex.new hp6)⟩⟩
      · have a1 : psL.length ≤ 100 := by
          have := congrArg List.length hpsL
          rw [List.length_map] at this
          have := len_foundP (i := i) (by omega)
          omega
        have a2 : ps3.length ≤ 256 := by
          have := congrArg List.length hps3
          rw [List.length_map, len_longer] at this
          have := len_lastP (i := i) (by omega)
          omega
        rw [List.length_map, List.length_map]
        exact Nat.le_trans (show _ ≤ 356 by omega) (by decide)
      · obtain ⟨xs, ys, g1, g2, _, _, g⟩ := PLs.app hp6 pL5 pL3
        rw [hL] at g1; rw [h3] at g2
        injection g1 with g1; injection g1 with g1
        injection g2 with g2; injection g2 with g2
        rw [g1, g2]
        exact g
  · rintro σ H3 ⟨L, M, ⟨x2, x3, x4, x5, rfl⟩, e3, pL, pM⟩
    exact ⟨.ref L, rfl, k L H3 e3 pL⟩
end
end TP

namespace TP
open PySem PySem.Spec PyProof.Rows L2
abbrev sAllSame : Stmt := topS 40
/-! ### _law_all_same: what two rows do to all documents with one path -/
theorem Dc.gen {S : Addr → Prop} {G G' : Gen} {H : Hp} (hk : ∀ k ∈ G.KS, k ∈ G'.KS) (hc : ∀ v, G.C v = true → G'.C v = true) (hl : G.L ≤ G'.L) : ∀ {n : Nat} {v : V} {d : D}, Dc S G H n v d → Dc S G' H n v d
  | 0, _, _, h => h
  | n + 1, v, d, h => by
    rcases h with ⟨a, b⟩ | ⟨a, xs, e, s, r, x, d⟩ | ⟨a, ms, f, e, s, r, nd, ks, d, no, at'⟩
    · exact .inl ⟨hc _ a, b⟩
    · exact .inr (.inl ⟨a, xs, e, s, r, ⟨Nat.le_trans x.1 hl, fun y hy => hc _ (x.2 y hy)⟩, d⟩)
    · exact .inr (.inr ⟨a, ms, f, e, s, r, nd, fun k hk' => hk k (ks k hk'), d, no, fun k u hu => Dc.gen hk hc hl (at' k u hu)⟩)
theorem LdAt.alloc {S G H n a d} (h : LdAt S G H n a d) : LdAt (fun x => S x ∧ H x ≠ none) G H n a d := Or.imp id (fun ⟨u, r, h⟩ => ⟨u, r, h.alloc⟩) h
def c30 : List V := [.non, .int 0, .int 1, .int 2, .int (-7), .int 5, .str "a", .str "b", .str "", .str "0", .str "1", .str "zz", .int 7]
def g30 : Gen where
  KS := ["a", "b", "c", "unused"]
  C := fun v => decide (v ∈ c30)
  L := 2
  sc := fun v h => by
    have h := of_decide_eq_true h
    simp only [c30, List.mem_cons, List.not_mem_nil, or_false] at h
    rcases h with rfl | rfl | rfl | rfl | rfl | rfl | rfl | rfl | rfl | rfl | rfl | rfl | rfl <;> rfl
theorem g30_gen {S : Addr → Prop} {H : Hp} {n : Nat} {v : V} {d : D} (h : Dc S g4 H n v d) : Dc S g30 H n v d := Dc.gen (G := g4) (G' := g30) (fun k hk => by
    have hk : k ∈ (["a", "b", "c"] : List Str) := hk
    show k ∈ (["a", "b", "c", "unused"] : List Str)
    simp only [List.mem_cons, List.not_mem_nil, or_false] at hk ⊢
    rcases hk with h | h | h <;> simp [h]) (fun v hv => by
    have hv : v ∈ c4 := of_decide_eq_true hv
    refine decide_eq_true ?_
    show v ∈ c30
    simp only [c4, c30, List.mem_cons, List.not_mem_nil, or_false] at hv ⊢
    rcases hv with h | h | h | h | h | h | h | h | h | h | h <;> simp [h]) (Nat.le_refl _) h
def pl30 (b : Bool) : List D := [.sc (.int 0), .sc (.int 1), .sc (.str "zz"), .ls [.int 1, .str "a"], .ob fun _ => .nil, oneD "unused" (.sc (.int 7))] ++ if b then [.nil] else []
theorem pl30_nil : ∀ d ∈ pl30 false, d.isNil = false := by
  intro d hd
  simp only [pl30, Bool.false_eq_true, if_false, List.append_nil, List.mem_cons, List.not_mem_nil, or_false] at hd
  rcases hd with rfl | rfl | rfl | rfl | rfl | rfl <;> rfl
def AllS (r s : List D) : Prop := ∀ ks ∈ foundP 3, ∀ p ∈ pl30 (!ks.isEmpty), rowD (nestD ks p) r = rowD (nestD ks p) s
def spAllS [TabL] : Sp := fun vs H Q _ => ∃ (S1 S2 : Addr → Prop) (a1 a2 : Addr) (rs ss : List (V × D)), vs = [.ref a1, .ref a2] ∧ H a1 = some (.lst (rs.map (·.1))) ∧ H a2 = some (.lst (ss.map (·.1))) ∧
  (∀ r ∈ rs, Dc S1 g4 H 4 r.1 r.2) ∧ (∀ r ∈ ss, Dc S2 g4 H 4 r.1 r.2) ∧ ∀ b H', Ex H H' → (b = true ↔ AllS (rs.map (·.2)) (ss.map (·.2))) → Q (.bl b) H'
abbrev nAllSame : List Str := ["_law_row_here", "_law_other", "_law_places", "_law_path", "_law_place", "_law_document"]
theorem scAllSame : FnScope nAllSame ["_law_row_here", "_law_other"] (defScope sAllSame) := ⟨rfl, rfl, rfl, by decide +kernel, rfl, by decide +kernel, by decide +kernel⟩
section
variable [TabL] {P : Program} {w : World} {K : PySem.W.Frag} {mg : Str → Option Value} {base : Heap}
set_option maxHeartbeats 0 in
theorem ok_allS {k : Nat} (hk : 5 ≤ k) {f fp fw fr : Addr} {fd dp dw dr : FuncData} (T : Bi mg) (Dd : Df K mg "_law_all_same" sAllSame ["_law_row_here", "_law_other"] f fd)
    (Dp : Df K mg "_law_paths" sPaths [] fp dp) (Dw : Df K mg "_law_wrapped" sWrap ["_law_path", "_law_place"] fw dw) (Dr : Df K mg "_law_run" sLRun ["_law_document", "_law_row_here"] fr dr)
    (gP : FnOk P w K mg base CX0 k fp dp [] spPaths) (gW : FnOk P w K mg base CX0 k fw dw ["_law_path", "_law_place"] (spWrap g30 2 4)) (gR : FnOk P w K mg base CX0 k fr dr ["_law_document", "_law_row_here"] (spLRun g30 5)) :
    FnOk P w K mg base CX0 (k + 1) f fd ["_law_row_here", "_law_other"] spAllS := by
  refine Dd.F.ok scAllSame (fun vs H Q E h => ?_) (fun cdv A outer s H vs Q E hr h => ?_)
  · obtain ⟨_, _, a1, a2, rs, ss, rfl, _⟩ := h
    rfl
  obtain ⟨S1, S2, r1, r2, rs, ss, rfl, hr1, hr2', hrs, hss, kq⟩ := h
  have hr2 : Room (0 + 1) _ := hr.mono (by omega)
  refine ⟨_, (C8.pss_cut (ps_set (i := 2) scAllSame.nd rfl (Or.inl rfl) (pe_lst (pa_cons (pe_lst (pa_cons pe_int pa_nil)) (pa_cons (pe_lst (pa_cons pe_int pa_nil)) (pa_cons (pe_lst (pa_cons pe_str pa_nil)) (pa_cons (pe_lst (pa_cons (pe_lst (pa_cons pe_int (pa_cons pe_str pa_nil))) pa_nil)) (pa_cons (pe_lst (pa_cons pe_dnewK pa_nil)) (pa_cons (pe_lst (pa_cons (pe_disp (pps_cons pe_str pe_int pps_nil) (by rfl) (by rfl) (fun z => by cases z) (by decide)) pa_nil)) pa_nil))))))))
    (pss_cons (ps_for PassesOwn.never rfl (pi_list (pe_call0 gP hr rfl Dp.m Dp.F.kp Dp.b .nil pass0)) (pg_name (i := 3) scAllSame.nd rfl (Or.inl rfl)) (pss_one (ps_for PassesOwn.never rfl (pi_list (pe_op op_cat (pv 2) (pe_op op_rep (pe_lst (pa_cons (pe_lst pa_nil) pa_nil)) (pe_callTy call_int1 (by rfl) (T.of "int") (by decide +kernel) (pa_cons (pe_cmpR (op_neTupB mon_scB eqB_sc hr2) (pv 3) (pe_tup pa_nil) (nomark _)) pa_nil))))) (pg_name (i := 4) scAllSame.nd rfl (Or.inl rfl)) (pss_cons (ps_set (i := 5) scAllSame.nd rfl (Or.inl rfl) (pe_call gW hr rfl Dw.m Dw.F.kp Dw.b .nil pass0 (pa_cons (pv 3) (pa_cons (pv 4) pa_nil))))
        (pss_one (ps_if (pt_cmpR (op_neD2 hr.units) (pe_call gR hr rfl Dr.m Dr.F.kp Dr.b .nil pass0 (pa_cons (pv 5) (pa_cons (pv 0) pa_nil))) (pe_call gR hr rfl Dr.m Dr.F.kp Dr.b .nil pass0 (pa_cons (pv 5) (pa_cons (pv 1) pa_nil))) (nomark _)) (pss_one (ps_ret pe_bl)) pss_nil))))))
    (pss_one (ps_ret pe_bl)))), ?_⟩
  -- the places
  refine ⟨fun σ' H' => ∃ (pl : Addr) (as : List (Addr × D)), (∃ x3 x4 x5, σ' = [some (.ref r1), some (.ref r2), some (.ref pl), x3, x4, x5]) ∧ Ex H H' ∧ H' pl = some (.lst (as.map fun q : Addr × D => V.ref q.1)) ∧ as.map (·.2) = pl30 false ∧ ∀ q ∈ as, LdAt (Nw H) g30 H' 2 q.1 q.2, ?_, ?_⟩
  · refine ⟨(by show 1 ≤ sizeLine; decide), fun a1 h1 => ⟨(by show 1 ≤ sizeLine; decide), fun a2 h2 => ⟨(by show 1 ≤ sizeLine; decide), fun a3 h3 => ⟨(by show 2 ≤ sizeLine; decide), fun o6 ho6 => ⟨(by show 1 ≤ sizeLine; decide), fun a6 h6 => fun o4 ho4 => ⟨(by show 1 ≤ sizeLine; decide), fun a4 h4 => fun o5 ho5 => ⟨upd_same, [(Sum.inr "unused", .int 7)], rfl, (by show 1 ≤ 15; decide), (by show 1 ≤ sizeLine; decide), fun a5 h5 => ⟨(by show 6 ≤ sizeLine; decide), fun pl hpl => ?_⟩⟩⟩⟩⟩⟩⟩⟩
    have x1 : Ex H (upd H a1 (.lst [.int 0])) := Ex.new h1
    have q1 : LdAt (Nw H) g30 (upd H a1 (.lst [.int 0])) 2 a1 (.sc (.int 0)) := .inr ⟨_, upd_same, Dc.sc (by decide +kernel)⟩
    generalize upd H a1 (.lst [.int 0]) = H1 at x1 q1 h2 h3 ho6 h6 ho4 h4 ho5 h5 hpl ⊢
    have x2 : Ex H1 (upd H1 a2 (.lst [.int 1])) := Ex.new h2
    have q2 : LdAt (Nw H) g30 (upd H1 a2 (.lst [.int 1])) 2 a2 (.sc (.int 1)) := .inr ⟨_, upd_same, Dc.sc (by decide +kernel)⟩
    generalize upd H1 a2 (.lst [.int 1]) = H2 at x2 q2 h3 ho6 h6 ho4 h4 ho5 h5 hpl ⊢
    have x3 : Ex H2 (upd H2 a3 (.lst [.str "zz"])) := Ex.new h3
    have q3 : LdAt (Nw H) g30 (upd H2 a3 (.lst [.str "zz"])) 2 a3 (.sc (.str "zz")) := .inr ⟨_, upd_same, Dc.sc (by decide +kernel)⟩
    generalize upd H2 a3 (.lst [.str "zz"]) = H3 at x3 q3 ho6 h6 ho4 h4 ho5 h5 hpl ⊢
    have x13 := x1.trans (x2.trans x3)
    have x6 : Ex H3 (upd (upd H3 o6 (.lst [.int 1, .str "a"])) a6 (.lst [.ref o6])) := (Ex.new ho6).trans (Ex.new h6)
    have q6 : LdAt (Nw H) g30 (upd (upd H3 o6 (.lst [.int 1, .str "a"])) a6 (.lst [.ref o6])) 2 a6 (.ls [.int 1, .str "a"]) := .inr ⟨_, upd_same, Dc.ls (n := 1) (fresh_back x13 ho6) (by rw [upd_ne (ne_of_none upd_same h6)]; exact upd_same) ⟨by decide, by decide +kernel⟩⟩
    generalize upd (upd H3 o6 (.lst [.int 1, .str "a"])) a6 (.lst [.ref o6]) = H6 at x6 q6 ho4 h4 ho5 h5 hpl ⊢
    have x16 := x13.trans x6
    have x4 : Ex H6 (upd (upd H6 o4 (.dK [])) a4 (.lst [.ref o4])) := (Ex.new ho4).trans (Ex.new h4)
    have q4 : LdAt (Nw H) g30 (upd (upd H6 o4 (.dK [])) a4 (.lst [.ref o4])) 2 a4 (.ob fun _ => .nil) := .inr ⟨_, upd_same, Dc.ob (ms := []) (n := 1) (fresh_back x16 ho4) (by rw [upd_ne (ne_of_none upd_same h4)]; exact upd_same) Mem.nil⟩
    generalize upd (upd H6 o4 (.dK [])) a4 (.lst [.ref o4]) = H4 at x4 q4 ho5 h5 hpl ⊢
    have x14 := x16.trans x4
    have x5 : Ex H4 (upd (upd (upd H4 o5 (.dK [])) o5 (.dK (mergeK [] [(Sum.inr "unused", .int 7)]))) a5 (.lst [.ref o5])) := ((Ex.new ho5).mut ho5 upd_same).trans (Ex.new h5)
    have q5 : LdAt (Nw H) g30 (upd (upd (upd H4 o5 (.dK [])) o5 (.dK (mergeK [] [(Sum.inr "unused", .int 7)]))) a5 (.lst [.ref o5])) 2 a5 (oneD "unused" (.sc (.int 7))) := .inr ⟨_, upd_same, dc_one (n := 1) (by decide +kernel) (fresh_back x14 ho5) (by rw [upd_ne (ne_of_none upd_same h5)]; exact upd_same) (Dc.sc (by decide +kernel))⟩
    generalize upd (upd (upd H4 o5 (.dK [])) o5 (.dK (mergeK [] [(Sum.inr "unused", .int 7)]))) a5 (.lst [.ref o5]) = H5 at x5 q5 hpl ⊢
    have x15 := x14.trans x5
    have xz : Ex H5 (upd H5 pl (.lst [.ref a1, .ref a2, .ref a3, .ref a6, .ref a4, .ref a5])) := Ex.new hpl
    refine ⟨pl, [(a1, .sc (.int 0)), (a2, .sc (.int 1)), (a3, .sc (.str "zz")), (a6, .ls [.int 1, .str "a"]), (a4, .ob fun _ => .nil), (a5, oneD "unused" (.sc (.int 7)))], ⟨_, _, _, rfl⟩, x15.trans xz, upd_same, rfl, fun q hq => ?_⟩
    simp only [List.mem_cons, List.not_mem_nil, or_false] at hq
    rcases hq with rfl | rfl | rfl | rfl | rfl | rfl
    · exact q1.ex (x2.trans (x3.trans (x6.trans (x4.trans (x5.trans xz)))))
    · exact q2.ex (x3.trans (x6.trans (x4.trans (x5.trans xz))))
    · exact q3.ex (x6.trans (x4.trans (x5.trans xz)))
    · exact q6.ex (x4.trans (x5.trans xz))
    · exact q4.ex (x5.trans xz)
    · exact q5.ex xz
  rintro _ H1 ⟨pl, as, ⟨x3, x4, x5, rfl⟩, e1, lp, da, la⟩
  have las : as.length = 6 := by
    have := congrArg List.length da
    rw [List.length_map] at this
    exact this
  refine ⟨rfl, fun Lp H2 e2 pL => ?_⟩
  obtain ⟨ps, hL, hps, hpt⟩ := pL
  have e12 := e1.trans e2
  refine ⟨Lp, rfl, ⟨_, .inl (.inl hL)⟩, ?_⟩
  refine for_list (K := K) (a := Lp) (xs := ps.map fun q => V.ref q.1) (fun i σ H3 => (∃ x3 x4 x5, σ = [some (.ref r1), some (.ref r2), some (.ref pl), x3, x4, x5]) ∧ Ex H2 H3 ∧ ∀ j, j < i → ∀ ks, (foundP 3)[j]? = some ks → ∀ p ∈ pl30 (!ks.isEmpty), rowD (nestD ks p) (rs.map (·.2)) = rowD (nestD ks p) (ss.map (·.2))) ⟨⟨_, _, _, rfl⟩, Ex.refl _, fun j hj => absurd hj (Nat.not_lt_zero _)⟩ (fun i σ H3 _ q => .inl (.inl (q.2.1 _ _ hL))) ?_ ?_
  · rintro i y σ H3 hi ⟨⟨x3, x4, x5, rfl⟩, e3, done⟩
    obtain ⟨q, hq, rfl⟩ : ∃ q, ps[i]? = some q ∧ y = .ref q.1 := by
      rw [List.getElem?_map] at hi
      obtain ⟨q, h1, h2⟩ := Option.map_eq_some_iff.mp hi
      exact ⟨q, h1, h2.symm⟩
    obtain ⟨p, ks⟩ := q
    have hks : (foundP 3)[i]? = some ks := by rw [← hps, List.getElem?_map, hq]; rfl
    obtain ⟨kl, kk⟩ := mem_foundP.mp (List.mem_of_getElem? hks)
    have e13 := e12.trans e3
    have hp : H3 p = some (.tup (ks.map V.str)) := e3 _ _ (hpt _ (List.mem_of_getElem? hq))
    have lp3 := (e2.trans e3) _ _ lp
    have la3 := fun q hq => (la q hq).ex (e2.trans e3)
    obtain ⟨b, hb⟩ : ∃ b, b = !ks.isEmpty := ⟨_, rfl⟩
    -- the places along this path
    refine ⟨.ref pl, rfl, (by show 0 ≤ sizeLine; decide), fun a6 h6 => ⟨(by show 1 ≤ sizeLine; decide), fun pr hpr => ⟨.ref p, rfl, (by show 0 ≤ sizeLine; decide), fun pe hpe => ?_⟩⟩⟩
    have x7 : Ex H3 (upd (upd H3 a6 (.lst [])) pr (.lst [.ref a6])) := (Ex.new h6).trans (Ex.new hpr)
    have q6 : LdAt (Nw H) g30 (upd (upd H3 a6 (.lst [])) pr (.lst [.ref a6])) 2 a6 .nil := .inl ⟨rfl, by rw [upd_ne (ne_of_none upd_same hpr)]; exact upd_same⟩
    have l7 : (upd (upd H3 a6 (.lst [])) pr (.lst [.ref a6])) pr = some (.lst [.ref a6]) := upd_same
    generalize upd (upd H3 a6 (.lst [])) pr (.lst [.ref a6]) = H7 at x7 q6 l7 hpe ⊢
    refine ⟨ks.isEmpty, ⟨p, pe, _, _, rfl, rfl, .inl (.inl ((x7.trans (Ex.new hpe)) _ _ hp)), .inl (.inl upd_same), strs_nil⟩, fun H8 x8 => ?_⟩
    have x78 : Ex H7 H8 := (Ex.new hpe).trans (ex_all x8)
    rw [← hb]
    have l68 := (x7.trans x78) _ _ lp3
    refine .inr ⟨b, rfl, pr, (if b then 1 else 0), [.ref a6], rfl, (by cases b <;> rfl), x78 _ _ l7, (by cases b <;> decide), (by cases b <;> decide), (by cases b; exact (show 1 * 0 ≤ sizeLine by decide); exact (show 1 * 1 ≤ sizeLine by decide)), fun pq hpq => ⟨pl, pq, _, _, rfl, rfl, (Ex.new hpq) _ _ l68, upd_same, (by rw [List.length_map, las]; cases b; exact (show 6 + 0 ≤ sizeLine by decide); exact (show 6 + 1 ≤ sizeLine by decide)), fun pz hpz => ?_⟩⟩
    obtain ⟨bs, hbs⟩ : ∃ bs : List (Addr × D), bs = as ++ if b then [(a6, .nil)] else [] := ⟨_, rfl⟩
    have xz : Ex H8 (upd (upd H8 pq (.lst (List.replicate (if b then 1 else 0 : Int).toNat [V.ref a6]).flatten)) pz (.lst (as.map (fun q => V.ref q.1) ++ (List.replicate (if b then 1 else 0 : Int).toNat [V.ref a6]).flatten))) := (Ex.new hpq).trans (Ex.new hpz)
    have lz : (upd (upd H8 pq (.lst (List.replicate (if b then 1 else 0 : Int).toNat [V.ref a6]).flatten)) pz (.lst (as.map (fun q => V.ref q.1) ++ (List.replicate (if b then 1 else 0 : Int).toNat [V.ref a6]).flatten))) pz = some (.lst (bs.map fun q => V.ref q.1)) := by
      rw [upd_same, hbs, List.map_append]
      cases b <;> rfl
    have db : bs.map (·.2) = pl30 b := by
      rw [hbs, List.map_append, da]
      cases b <;> rfl
    have lb : ∀ q ∈ bs, LdAt (Nw H) g30 H8 2 q.1 q.2 := fun q hq => by
      rw [hbs] at hq
      rcases List.mem_append.mp hq with hq | hq
      · exact (la3 q hq).ex (x7.trans x78)
      · cases b with
        | false => cases hq
        | true =>
          rw [List.mem_singleton.mp hq]
          exact q6.ex x78
    generalize (upd (upd H8 pq (.lst (List.replicate (if b then 1 else 0 : Int).toNat [V.ref a6]).flatten)) pz (.lst (as.map (fun q => V.ref q.1) ++ (List.replicate (if b then 1 else 0 : Int).toNat [V.ref a6]).flatten))) = H9 at xz lz ⊢
    have lb := fun q hq => (lb q hq).ex xz
    have x39 := x7.trans (x78.trans xz)
    clear l7 q6 l68 hbs
    refine ⟨pz, rfl, ⟨_, .inl (.inl lz)⟩, ?_⟩
    refine for_list (K := K) (a := pz) (xs := bs.map fun q => V.ref q.1) (fun j σ H4 => (∃ x4 x5, σ = [some (.ref r1), some (.ref r2), some (.ref pl), some (.ref p), x4, x5]) ∧ Ex H9 H4 ∧ ∀ l, l < j → ∀ d, (pl30 b)[l]? = some d → rowD (nestD ks d) (rs.map (·.2)) = rowD (nestD ks d) (ss.map (·.2))) ⟨⟨_, _, rfl⟩, Ex.refl _, fun j hj => absurd hj (Nat.not_lt_zero _)⟩ (fun i σ H3 _ q => .inl (.inl (q.2.1 _ _ lz))) ?_ ?_
    · rintro j y σ H4 hj ⟨⟨x4, x5, rfl⟩, e4, seen⟩
      obtain ⟨q, hq2, rfl⟩ : ∃ q, bs[j]? = some q ∧ y = .ref q.1 := by
        rw [List.getElem?_map] at hj
        obtain ⟨q, h1, h2⟩ := Option.map_eq_some_iff.mp hj
        exact ⟨q, h1, h2.symm⟩
      have mq := List.mem_of_getElem? hq2
      have hd : (pl30 b)[j]? = some q.2 := by rw [← db, List.getElem?_map, hq2]; rfl
      have e34 := x39.trans e4
      have e04 := e13.trans e34
      have hne : ks = [] → q.2.isNil = false := fun z => by
        have hbf : b = false := by rw [hb, z]; rfl
        rw [hbf] at hd
        exact pl30_nil _ (List.mem_of_getElem? hd)
      refine ⟨.ref p, rfl, .ref q.1, rfl, Nw H, p, q.1, ks, q.2, rfl, e34 _ _ hp, kk, Nat.lt_succ_of_le kl, (lb q mq).ex e4, hne, fun wv H5 e5 hw => ?_⟩
      have e05 := e04.trans e5
      have hw' : Dc (Nw H) g30 H5 5 wv (nestD ks q.2) := (hw.lift (by omega)).imp fun x hx => hx.elim id fun z => fresh_back e04 z
      refine ⟨wv, rfl, .ref r1, rfl, Nw H, (fun x => S1 x ∧ H x ≠ none), wv, _, r1, rs, rfl, hw', e05 _ _ hr1, fun r hr' => (g30_gen ((hrs r hr').alloc.ex e05)).lift (by decide), fun x hx hy => hy.2 hx, fun u H6 e6 hu => ?_⟩
      have e06 := e05.trans e6
      refine ⟨wv, rfl, .ref r2, rfl, Nw H, (fun x => S2 x ∧ H x ≠ none), wv, _, r2, ss, rfl, hw'.ex e6, e06 _ _ hr2', fun r hr' => (g30_gen ((hss r hr').alloc.ex e06)).lift (by decide), fun x hx hy => hy.2 hx, fun u2 H7 e7 hu2 => ?_⟩
      have e07 := e06.trans e7
      refine ⟨_, _, g30, g30, 5, 5, _, _, by decide, hu.ex e7, hu2, _, rfl, ?_⟩
      by_cases c : deq (rowD (nestD ks q.2) (rs.map (·.2))) (rowD (nestD ks q.2) (ss.map (·.2))) = true
      · rw [c]
        refine iteF ⟨⟨_, _, rfl⟩, e4.trans (e5.trans (e6.trans e7)), fun l hl d hd' => ?_⟩
        rcases Nat.lt_succ_iff_lt_or_eq.mp hl with z | z
        · exact seen l z d hd'
        · rw [z, hd] at hd'
          cases hd'
          exact deq_iff.mp c
      · have c' : deq (rowD (nestD ks q.2) (rs.map (·.2))) (rowD (nestD ks q.2) (ss.map (·.2))) = false := by
          cases h : deq (rowD (nestD ks q.2) (rs.map (·.2))) (rowD (nestD ks q.2) (ss.map (·.2))) with
          | true => exact absurd h c
          | false => rfl
        rw [c']
        refine iteT (kq false H7 e07 ⟨fun z => (by cases z), fun z => ?_⟩)
        refine absurd (deq_iff.mpr (z ks (List.mem_of_getElem? hks) q.2 ?_)) c
        rw [← hb]
        exact List.mem_of_getElem? hd
    · rintro σ H4 ⟨⟨x4, x5, rfl⟩, e4, seen⟩
      refine ⟨⟨_, _, _, rfl⟩, e3.trans (x39.trans e4), fun j hj ks' hks' d hd => ?_⟩
      rcases Nat.lt_succ_iff_lt_or_eq.mp hj with z | z
      · exact done j z ks' hks' d hd
      · rw [z, hks] at hks'
        cases hks'
        rw [← hb] at hd
        obtain ⟨l, hl⟩ := List.getElem?_of_mem hd
        refine seen l ?_ d hl
        have : l < (pl30 b).length := (List.getElem?_eq_some_iff.mp hl).1
        rw [List.length_map]
        rw [← db, List.length_map] at this
        exact this
  · rintro σ H3 ⟨⟨x3, x4, x5, rfl⟩, e3, done⟩
    refine kq true H3 (e12.trans e3) ⟨fun _ ks hks p hp => ?_, fun _ => rfl⟩
    obtain ⟨j, hj⟩ := List.getElem?_of_mem hks
    refine done j ?_ ks hj p hp
    have : j < (foundP 3).length := (List.getElem?_eq_some_iff.mp hj).1
    rw [List.length_map]
    rw [← hps, List.length_map] at this
    exact this
end
end TP

namespace TP
open PySem PySem.Spec PyProof.Rows L2
abbrev sSimilar : Stmt := topS 41
/-! ### _law_similar: a row that is much like another -/
def cutG {α : Type} (xs : List α) (lo hi : Option Int) : List α := (xs.drop (HT.sIx xs.length 0 lo)).take (HT.sIx xs.length xs.length hi - HT.sIx xs.length 0 lo)
theorem cut_map {α : Type} (xs : List α) (f : α → V) (lo hi : Option Int) : cutV (xs.map f) lo hi = (cutG xs lo hi).map f := by
  unfold cutV cutG
  rw [List.length_map, List.map_take, List.map_drop]
theorem mem_cutG {α : Type} {xs : List α} {lo hi : Option Int} {x : α} (h : x ∈ cutG xs lo hi) : x ∈ xs := List.mem_of_mem_drop (List.mem_of_mem_take h)
theorem len_cutG {α : Type} {xs : List α} {lo hi : Option Int} : (cutG xs lo hi).length ≤ xs.length := by
  unfold cutG
  rw [List.length_take, List.length_drop]
  omega
/-- a row of few patches -/
structure RowZ (s : Addr) (H : Hp) (q : Addr) (n : Nat) (rs : List (V × D)) : Prop where
  np : q ≠ s
  sq : H q = some (.lst (rs.map (·.1)))
  len : rs.length ≤ n
  dc : ∀ r ∈ rs, Dc (NotS s) g4 H 3 r.1 r.2 ∧ PD r.2 7 ∧ DD r.2 8
section
variable [TabL]
theorem RowZ.ex {s H H' q n rs} (e : Ex H H') (h : RowZ s H q n rs) : RowZ s H' q n rs := ⟨h.np, e _ _ h.sq, h.len, fun r hr => ⟨(h.dc r hr).1.ex e, (h.dc r hr).2⟩⟩
theorem RowZ.mv {s H H' q n rs} (m : Mv s H H') (h : RowZ s H q n rs) : RowZ s H' q n rs := ⟨h.np, m.ex _ _ h.np h.sq, h.len, fun r hr => ⟨(h.dc r hr).1.mv m (fun z => z rfl), (h.dc r hr).2⟩⟩
theorem RowZ.le {s H q n m rs} (l : n ≤ m) (h : RowZ s H q n rs) : RowZ s H q m rs := ⟨h.np, h.sq, Nat.le_trans h.len l, h.dc⟩
theorem RowZ.cut {s H q n rs p lo hi} (st : StAt H s) (hp : H p = none) (h : RowZ s H q n rs) : RowZ s (upd H p (.lst (cutV (rs.map (·.1)) lo hi))) p n (cutG rs lo hi) :=
  ⟨fun z => st.ne (by rw [← z]; exact hp), by rw [upd_same, cut_map], Nat.le_trans len_cutG h.len, fun r hr => let t := h.dc r (mem_cutG hr); ⟨t.1.ex (Ex.new hp), t.2⟩⟩
theorem RowZ.cat {s H q n rs q' n' rs' p} (st : StAt H s) (hp : H p = none) (h : RowZ s H q n rs) (h' : RowZ s H q' n' rs') : RowZ s (upd H p (.lst (rs.map (·.1) ++ rs'.map (·.1)))) p (n + n') (rs ++ rs') :=
  ⟨fun z => st.ne (by rw [← z]; exact hp), by rw [upd_same, List.map_append], by rw [List.length_append]; exact Nat.add_le_add h.len h'.len, fun r hr => (List.mem_append.mp hr).elim (fun hr => ⟨(h.dc r hr).1.ex (Ex.new hp), (h.dc r hr).2⟩) fun hr => ⟨(h'.dc r hr).1.ex (Ex.new hp), (h'.dc r hr).2⟩⟩
theorem RowZ.rev {s H q n rs p} (st : StAt H s) (hp : H p = none) (h : RowZ s H q n rs) : RowZ s (upd H p (.lst (rs.map (·.1)).reverse)) p n rs.reverse :=
  ⟨fun z => st.ne (by rw [← z]; exact hp), by rw [upd_same, List.map_reverse], by rw [List.length_reverse]; exact h.len, fun r hr => let t := h.dc r (List.mem_reverse.mp hr); ⟨t.1.ex (Ex.new hp), t.2⟩⟩
theorem len_rz {s H q n rs} (h : RowZ s H q n rs) (l : n ≤ 100) : (rs.map (fun r : V × D => r.1)).length ≤ 100 := by rw [List.length_map]; exact Nat.le_trans h.len l
end
def spSim [TabL] : Sp := fun vs H Q _ => ∃ (s q : Addr) (rs : List (V × D)), vs = [.ref s, .ref q] ∧ StAt H s ∧ RowZ s H q 5 rs ∧ ∀ p ss H', Mv s H H' → RowZ s H' p 15 ss → Q (.ref p) H'
theorem sz15 {a b : Nat} (ha : a ≤ 100) (hb : b ≤ 100) : a + b ≤ sizeLine := Nat.le_trans (show a + b ≤ 200 by omega) (by decide)
section
variable [TabL] {K : PySem.W.Frag}
theorem t_cut {s q : Addr} {H : Hp} {n : Nat} {rs : List (V × D)} {lo hi : Option Int} {Q : VK} (z : RowZ s H q n rs) (st : StAt H s) (k : ∀ p H', Ex H H' → StAt H' s → RowZ s H' p n (cutG rs lo hi) → Q (.ref p) H') : rSlL K (.ref q) lo hi H Q :=
  ⟨q, _, rfl, .inl (.inl z.sq), fun p hp => k p _ (Ex.new hp) (Mv.of_ex (Ex.new hp) st).st (z.cut st hp)⟩
theorem t_cutN {σ : L2.St} {s q : Addr} {H : Hp} {n : Nat} {rs : List (V × D)} {lo : Option Int} {Q : VK} (z : RowZ s H q n rs) (st : StAt H s) (k : ∀ p H', Ex H H' → StAt H' s → RowZ s H' p n (cutG rs lo none) → Q (.ref p) H') : tNoPart σ H fun u H' => rSlL K (.ref q) lo u H' Q := t_cut z st k
theorem t_cat {s q q' : Addr} {H : Hp} {n n' : Nat} {rs rs' : List (V × D)} {Q : VK} (z : RowZ s H q n rs) (z' : RowZ s H q' n' rs') (st : StAt H s) (l : n ≤ 100) (l' : n' ≤ 100) (k : ∀ p H', Ex H H' → StAt H' s → RowZ s H' p (n + n') (rs ++ rs') → Q (.ref p) H') : rCat (.ref q) (.ref q') H Q :=
  ⟨q, q', _, _, rfl, rfl, z.sq, z'.sq, sz15 (len_rz z l) (len_rz z' l'), fun p hp => k p _ (Ex.new hp) (Mv.of_ex (Ex.new hp) st).st (z.cat st hp z')⟩
theorem t_one {s q p : Addr} {H : Hp} {v : V} {d : D} (st : StAt H s) (hp : H p = none) (h : Dc (NotS s) g4 H 3 v d) (h1 : PD d 7) (h2 : DD d 8) : RowZ s (upd H p (.lst [v])) p 1 [(v, d)] :=
  ⟨fun z => st.ne (by rw [← z]; exact hp), upd_same, Nat.le_refl _, fun r hr => by rw [List.mem_singleton.mp hr]; exact ⟨h.ex (Ex.new hp), h1, h2⟩⟩
end
abbrev nSimilar : List Str := ["_law_s", "_law_row_here", "_law_way", "_law_at", "_law_pair"]
theorem scSimilar : FnScope nSimilar ["_law_s", "_law_row_here"] (defScope sSimilar) := ⟨rfl, rfl, rfl, by decide +kernel, rfl, by decide +kernel, by decide +kernel⟩
section
variable [TabL] {P : Program} {w : World} {K : PySem.W.Frag} {mg : Str → Option Value} {base : Heap}
set_option maxHeartbeats 0 in
theorem ok_sim {k : Nat} {f fg fp : Addr} {fd dg dp : FuncData} (T : Bi mg) (Dd : Df K mg "_law_similar" sSimilar ["_law_s", "_law_row_here"] f fd)
    (Dg : Df K mg "_law_digit" sDigit ["_law_state_here", "_law_base"] fg dg) (Dp : Df K mg "_law_patch" sPatch ["_law_s", "_law_deep"] fp dp)
    (gG : FnOk P w K mg base CX0 k fg dg ["_law_state_here", "_law_base"] spDigit) (gP : FnOk P w K mg base CX0 k fp dp ["_law_s", "_law_deep"] (spDraw 2)) :
    FnOk P w K mg base CX0 (k + 1) f fd ["_law_s", "_law_row_here"] spSim := by
  refine Dd.F.ok scSimilar (fun vs H Q E h => ?_) (fun cdv A outer s H vs Q E hr h => ?_)
  · obtain ⟨a, q, rs, rfl, _⟩ := h
    rfl
  obtain ⟨a, q, rs, rfl, sa, hz, kq⟩ := h
  refine ⟨_, (C8.pss_cut (ps_par (i := 2) (j := 3) rfl scSimilar.nd rfl rfl (by decide) rfl rfl (pa_cons (pe_call gG hr rfl Dg.m Dg.F.kp Dg.b .nil pass0 (pa_cons (pv 0) (pa_cons pe_int pa_nil))) (pa_cons (pe_call gG hr rfl Dg.m Dg.F.kp Dg.b .nil pass0 (pa_cons (pv 0) (pa_cons (pe_op op_add (pe_callB call_len_seq (by rfl) (T.of "len") (by decide +kernel) (pa_cons (pv 1) pa_nil)) pe_int) pa_nil))) pa_nil)) (by rfl))
    (pss_cons (ps_if (pt_cmpR op_eq (pv 2) pe_int (nomark _)) (pss_cons (ps_set (i := 4) scSimilar.nd rfl (Or.inl rfl) (pe_slice sl_list (pv 1) (po_some (pv 3)) (po_some (pe_op op_add (pv 3) pe_int))))
      (pss_one (ps_ret (pe_op op_cat (pe_op op_cat (pe_slice sl_list (pv 1) po_none (po_some (pv 3))) (pe_revL (pv 4))) (pe_slice sl_list (pv 1) (po_some (pe_op op_add (pv 3) pe_int)) po_none))))) pss_nil)
    (pss_cons (ps_if (pt_cmpR op_eq (pv 2) pe_int (nomark _)) (pss_one (ps_ret (pe_op op_cat (pe_slice sl_list (pv 1) po_none (po_some (pv 3))) (pe_slice sl_list (pv 1) (po_some (pe_op op_add (pv 3) pe_int)) po_none)))) pss_nil)
    (pss_cons (ps_if (pt_cmpR op_eq (pv 2) pe_int (nomark _)) (pss_one (ps_ret (pe_op op_cat (pe_op op_cat (pe_slice sl_list (pv 1) po_none (po_some (pv 3))) (pe_lst (pa_cons (pe_call gP hr rfl Dp.m Dp.F.kp Dp.b .nil pass0 (pa_cons (pv 0) (pa_cons pe_int pa_nil))) pa_nil))) (pe_slice sl_list (pv 1) (po_some (pe_op op_add (pv 3) pe_int)) po_none)))) pss_nil)
    (pss_cons (ps_if (pt_cmpR op_eq (pv 2) pe_int (nomark _)) (pss_one (ps_ret (pe_op op_cat (pv 1) (pe_slice sl_list (pv 1) po_none (po_some (pv 3)))))) pss_nil)
    (pss_cons (ps_if (pt_cmpR op_eq (pv 2) pe_int (nomark _)) (pss_one (ps_ret (pe_op op_cat (pe_slice sl_list (pv 1) (po_some (pv 3)) (po_some (pe_op op_add (pv 3) pe_int))) (pv 1)))) pss_nil)
    (pss_one (ps_ret (pe_op op_cat (pe_op op_cat (pe_slice sl_list (pv 1) po_none (po_some (pv 3))) (pe_lst (pa_cons pe_non (pa_cons pe_dnewK pa_nil)))) (pe_slice sl_list (pv 1) (po_some (pv 3)) po_none)))))))))), ?_⟩
  refine ⟨fun σ' H' => ∃ (wy at' : Int), (∃ x, σ' = [some (.ref a), some (.ref q), some (.int wy), some (.int at'), x]) ∧ 0 ≤ at' ∧ at' < 6 ∧ Mv a H H', ?_, ?_⟩
  · refine ⟨.ref a, rfl, a, 6, rfl, sa, by decide, by decide, fun wy H1 _ _ m1 _ => ?_⟩
    have z1 := hz.mv m1
    have l1 := z1.len
    have hl : rs.length ≤ 5 := z1.len
    refine ⟨.ref a, rfl, .ref q, rfl, q, _, rfl, .inl (.inl (.inl z1.sq)), _, _, rfl, rfl, a, _, rfl, m1.st, ?_, ?_, fun t H2 t0 t1 m2 _ => ?_⟩
    · rw [List.length_map]; omega
    · rw [List.length_map]; omega
    rw [List.length_map] at t1
    exact ⟨_, _, rfl, wy, t, ⟨_, rfl⟩, t0, by omega, m1.trans m2⟩
  rintro _ H1 ⟨wy, at', ⟨x, rfl⟩, t0, t1, m1⟩
  have st := m1.st
  have z := hz.mv m1
  have finM : ∀ p ss H', Mv a H1 H' → RowZ a H' p 15 ss → Q (.ref p) H' := fun p ss H' e r => kq p ss H' (m1.trans e) r
  have fin : ∀ p ss H', Ex H1 H' → RowZ a H' p 15 ss → Q (.ref p) H' := fun p ss H' e r => kq p ss H' (m1.trans (.of_ex e st)) r
  clear kq hz sa m1
  refine ⟨_, rfl, rfl, _, rfl, ite2 (fun c => ?_) fun c => ?_⟩
  · refine ⟨.ref q, rfl, .int at', rfl, at', rfl, .int at', rfl, at', 2, rfl, rfl, at' + 2, rfl, t_cut z st fun p1 H2 e2 st2 w1 => ?_⟩
    refine ⟨.ref q, rfl, .int at', rfl, at', rfl, t_cut (z.ex e2) st2 fun p2 H3 e3 st3 w2 => ⟨.ref p1, rfl, p1, _, rfl, .inl (.inl (w1.ex e3).sq), fun p3 h3 => ?_⟩⟩
    have w3 := (w1.ex e3).rev st3 h3
    have e4 := (e2.trans e3).trans (Ex.new h3 (o := .lst (((cutG rs (some at') (some (at' + 2))).map (·.1)).reverse)))
    have st4 := (Mv.of_ex (Ex.new h3 (o := .lst (((cutG rs (some at') (some (at' + 2))).map (·.1)).reverse))) st3).st
    refine t_cat (w2.ex (Ex.new h3)) w3 st4 (by decide) (by decide) fun p4 H4 e5 st5 w4 => ?_
    have e6 := e4.trans e5
    refine ⟨.ref q, rfl, .int at', rfl, at', 2, rfl, rfl, at' + 2, rfl, t_cutN (z.ex e6) st5 fun p5 H5 e7 st6 w5 => ?_⟩
    exact t_cat (w4.ex e7) w5 st6 (by decide) (by decide) fun p6 H6 e8 st7 w6 => fin p6 _ H6 (e6.trans (e7.trans e8)) w6
  refine ⟨_, rfl, rfl, _, rfl, ite2 (fun c1 => ?_) fun c1 => ?_⟩
  · refine ⟨.ref q, rfl, .int at', rfl, at', rfl, t_cut z st fun p1 H2 e2 st2 w1 => ⟨.ref q, rfl, .int at', rfl, at', 1, rfl, rfl, at' + 1, rfl, t_cutN (z.ex e2) st2 fun p2 H3 e3 st3 w2 => ?_⟩⟩
    exact t_cat (w1.ex e3) w2 st3 (by decide) (by decide) fun p6 H6 e8 st7 w6 => fin p6 _ H6 (e2.trans (e3.trans e8)) (w6.le (by decide))
  refine ⟨_, rfl, rfl, _, rfl, ite2 (fun c2 => ?_) fun c2 => ?_⟩
  · refine ⟨.ref q, rfl, .int at', rfl, at', rfl, t_cut z st fun p1 H2 e2 st2 w1 => ⟨.ref a, rfl, a, rfl, st2, fun v d H3 m3 dn => ?_⟩⟩
    refine ⟨(by show 1 ≤ sizeLine; decide), fun p2 h2 => ?_⟩
    have st3 := m3.st
    have dn4 : Dc (NotS a) g4 H3 3 v d := (dn.dc.lift (by decide)).imp fun x hx z => st2.ne (by rw [← z]; exact hx.1)
    have w2 := t_one (q := q) st3 h2 dn4 dn.pd (dn.dd.mono (by decide))
    have m4 : Mv a H1 (upd H3 p2 (.lst [v])) := ((Mv.of_ex e2 st).trans m3).trans (.of_ex (Ex.new h2) st3)
    refine t_cat ((w1.mv m3).ex (Ex.new h2)) w2 m4.st (by decide) (by decide) fun p4 H4 e5 st5 w4 => ?_
    refine ⟨.ref q, rfl, .int at', rfl, at', 1, rfl, rfl, at' + 1, rfl, t_cutN ((z.mv m4).ex e5) st5 fun p5 H5 e7 st6 w5 => ?_⟩
    exact t_cat (w4.ex e7) w5 st6 (by decide) (by decide) fun p6 H6 e8 st7 w6 => finM p6 _ H6 (m4.trans (.of_ex (e5.trans (e7.trans e8)) m4.st)) (w6.le (by decide))
  refine ⟨_, rfl, rfl, _, rfl, ite2 (fun c3 => ?_) fun c3 => ?_⟩
  · refine ⟨.ref q, rfl, .ref q, rfl, .int at', rfl, at', rfl, t_cut z st fun p1 H2 e2 st2 w1 => ?_⟩
    exact t_cat (z.ex e2) w1 st2 (by decide) (by decide) fun p6 H6 e8 st7 w6 => fin p6 _ H6 (e2.trans e8) (w6.le (by decide))
  refine ⟨_, rfl, rfl, _, rfl, ite2 (fun c4 => ?_) fun c4 => ?_⟩
  · refine ⟨.ref q, rfl, .int at', rfl, at', rfl, .int at', rfl, at', 1, rfl, rfl, at' + 1, rfl, t_cut z st fun p1 H2 e2 st2 w1 => ⟨.ref q, rfl, ?_⟩⟩
    exact t_cat w1 (z.ex e2) st2 (by decide) (by decide) fun p6 H6 e8 st7 w6 => fin p6 _ H6 (e2.trans e8) (w6.le (by decide))
  refine ⟨.ref q, rfl, .int at', rfl, at', rfl, t_cut z st fun p1 H2 e2 st2 w1 => fun o ho => ⟨(by show 2 ≤ sizeLine; decide), fun p2 h2 => ?_⟩⟩
  have no : o ≠ a := fun z => st2.ne (by rw [← z]; exact ho)
  have e3 : Ex H2 (upd (upd H2 o (.dK [])) p2 (.lst [.non, .ref o])) := (Ex.new ho).trans (Ex.new h2)
  have w2 : RowZ a (upd (upd H2 o (.dK [])) p2 (.lst [.non, .ref o])) p2 2 [(.non, .sc .non), (.ref o, .ob fun _ => .nil)] := by
    refine ⟨fun z => (Mv.of_ex (Ex.new ho (o := .dK [])) st2).st.ne (by rw [← z]; exact h2), upd_same, Nat.le_refl _, fun r hr => ?_⟩
    simp only [List.mem_cons, List.not_mem_nil, or_false] at hr
    rcases hr with rfl | rfl
    · exact ⟨Dc.sc (by decide +kernel), (by show 1 ≤ 7; decide), trivial⟩
    · exact ⟨Dc.ob (ms := []) (n := 2) no (by rw [upd_ne (ne_of_none upd_same h2)]; exact upd_same) Mem.nil, ⟨[], fun _ => 0, (fun _ z => nomatch z), fun _ => trivial, by decide⟩, by decide, fun _ => trivial⟩
  generalize (upd (upd H2 o (.dK [])) p2 (.lst [.non, .ref o])) = H3 at e3 w2 ⊢
  have st3 := (Mv.of_ex e3 st2).st
  refine t_cat (w1.ex e3) w2 st3 (by decide) (by decide) fun p4 H4 e5 st5 w4 => ?_
  have e6 := e2.trans (e3.trans e5)
  refine ⟨.ref q, rfl, .int at', rfl, at', rfl, t_cutN (z.ex e6) st5 fun p5 H5 e7 st6 w5 => ?_⟩
  exact t_cat (w4.ex e7) w5 st6 (by decide) (by decide) fun p6 H6 e8 st7 w6 => fin p6 _ H6 (e6.trans (e7.trans e8)) (w6.le (by decide))
end
end TP

namespace TP
open PySem PySem.Spec PyProof.Rows L2
abbrev sSame : Stmt := topS 27
/-! ### same, and what decides it -/
abbrev sev (rs : List (V × D)) : List (V × D × Nat) := rs.map fun r => (r.1, r.2, 7)
theorem sev2 (rs : List (V × D)) : (sev rs).map (·.2.1) = rs.map (·.2) := by rw [List.map_map]; rfl
theorem sev1 (rs : List (V × D)) : (sev rs).map (·.1) = rs.map (·.1) := by rw [List.map_map]; rfl
theorem row_at7 {S : Addr → Prop} {H : Hp} {a : Addr} {rs : List (V × D)} (sq : H a = some (.lst (rs.map (·.1))) ∨ H a = some (.tup (rs.map (·.1)))) (b : ∀ q ∈ rs, Dc S g4 H 3 q.1 q.2 ∧ PD q.2 7 ∧ DD q.2 8) (hl : rs.length ≤ 25) : RowAt S g4 H 3 a (sev rs) := by
  refine ⟨by rw [sev1]; exact sq, fun r hr => ?_, ?_, by rw [List.length_map]; omega⟩
  · obtain ⟨q, hq, rfl⟩ := List.mem_map.mp hr
    obtain ⟨h1, h2, h3⟩ := b q hq
    exact ⟨h1, h2, h2.mono (by decide), h3⟩
  · rw [List.map_map, show ((fun r : V × D × Nat => r.2.2) ∘ fun r : V × D => (r.1, r.2, 7)) = fun _ => 7 from rfl, List.map_const', List.sum_replicate_nat]
    omega
theorem allS_iff {r s : List D} (w1 : WfE g4 3 (rowE r)) (w2 : WfE g4 3 (rowE s)) (n1 : ∀ d ∈ r, d.isNil = false) (n2 : ∀ d ∈ s, d.isNil = false) : AllS r s ↔ rowE r = rowE s := by
  constructor
  · intro h
    refine sep (G := g4) (n := 3) (by decide +kernel) w1 w2 (BK_row _ n1 _ trivial) (BK_row _ n2 _ trivial) (mok_row _) (mok_row _) (drop_row _ _ rfl) (drop_row _ _ rfl) (fun p hp => ?_) fun ks hne hl hks p hp => ?_
    · rw [row_on, row_on]
      refine h [] (mem_foundP.mpr ⟨Nat.zero_le _, fun k hk => nomatch hk⟩) p ?_
      show p ∈ pl30 false
      simp only [plsD, pl30, Bool.false_eq_true, if_false, List.append_nil, List.mem_cons, List.not_mem_nil, or_false] at hp ⊢
      rcases hp with rfl | rfl | rfl | rfl | rfl <;> simp
    · rw [row_on, row_on]
      refine h ks (mem_foundP.mpr ⟨hl, fun k hk => ?_⟩) p ?_
      · have := hks k hk
        have : k ∈ (["a", "b", "c"] : List Str) := this
        show k ∈ (["a", "b", "c", "unused"] : List Str)
        simp only [List.mem_cons, List.not_mem_nil, or_false] at this ⊢
        rcases this with h | h | h <;> simp [h]
      · have : (!ks.isEmpty) = true := by cases ks with
          | nil => exact absurd rfl hne
          | cons => rfl
        rw [this]
        simp only [plsD, pl30, if_true, List.mem_append, List.mem_cons, List.not_mem_nil, or_false] at hp ⊢
        rcases hp with (rfl | rfl | rfl | rfl | rfl) | rfl <;> simp
  · intro h ks _ p _
    rw [← row_on, ← row_on, h]
def spSame [TabL] (C Pt : Addr) : Sp := fun vs H Q _ => ∃ (S S' : Addr → Prop) (a b : Addr) (rs ss : List (V × D)), vs = [.ref a, .ref b] ∧ RowAt S g4 H 3 a (sev rs) ∧ RowAt S' g4 H 3 b (sev ss) ∧ LamX.TabS H Pt qLam ∧
  ∀ r H', Ex H H' → (r = true ↔ rowE (rs.map (·.2)) = rowE (ss.map (·.2))) → WfE g4 3 (rowE (rs.map (·.2))) → WfE g4 3 (rowE (ss.map (·.2))) → Q (.bl r) H'
abbrev nSame : List Str := ["row", "other"]
theorem scSame : FnScope nSame ["row", "other"] (defScope sSame) := ⟨rfl, rfl, rfl, by decide +kernel, rfl, by decide +kernel, by decide +kernel⟩
section
variable [TabL] {P : Program} {w : World} {K : PySem.W.Frag} {mg : Str → Option Value} {base : Heap}
theorem ok_same {C Pt f fe fq : Addr} {fd de fdq : FuncData} {k : Nat} (hk : 11 ≤ k) (hR : TabL.R Pt qLam) (Dd : Df K mg "same" sSame ["row", "other"] f fd) (De : Df K mg "effect" sEffect ["row"] fe de)
    (bq : Binds K fdq ["self", "other"] []) (he : PySem.W.findIn K (.ref C) "__eq__" = some (some (.ref fq))) (hf : PySem.W.isFn K (.ref fq) = true)
    (gE : FnOk P w K mg base CX0 k fe de ["row"] (spEff C Pt g4 2)) (gQ : FnOk P w K mg base CX0 10 fq fdq ["self", "other"] (spEqB (eqRB C g4 3))) :
    FnOk P w K mg base CX0 (k + 1) f fd ["row", "other"] (spSame C Pt) := by
  refine Dd.F.ok scSame (fun vs H Q E h => ?_) (fun cdv A outer s H vs Q E hr h => ?_)
  · obtain ⟨_, _, a, b, rs, ss, rfl, _⟩ := h
    rfl
  obtain ⟨S, S', a, b, rs, ss, rfl, ha, hb, tb, kq⟩ := h
  have hrQ : Room 10 _ := hr.mono (by omega)
  refine ⟨_, (pss_one (ps_ret (pe_cmpR (op_eqB (rcB_ins (E := E0) gQ he hf bq pass0) hrQ) (pe_call gE hr rfl De.m De.F.kp De.b .nil pass0 (pa_cons (pv 0) pa_nil)) (pe_call gE hr rfl De.m De.F.kp De.b .nil pass0 (pa_cons (pv 1) pa_nil)) (nomark _)))), ?_⟩
  refine ⟨.ref a, rfl, S, a, sev rs, rfl, ha, tb, fun v1 H1 e1 h1 => ⟨.ref b, rfl, S', b, sev ss, rfl, hb.ex e1, e1.tab _ _ hR tb, fun v2 H2 e2 h2 => ?_⟩⟩
  rw [sev2] at h1 h2
  have h1 := h1.ex e2
  classical
  exact ⟨decide (rowE (rs.map (·.2)) = rowE (ss.map (·.2))), dins h1 h2 decide_eq_true_iff, fun H3 x3 => kq _ H3 (e1.trans (e2.trans (ex_all x3))) decide_eq_true_iff h1.wf h2.wf⟩
end
end TP

namespace TP
open PySem PySem.Spec PyProof.Rows L2
abbrev sLaw : Stmt := topS 42
/-! ### the law of rows that do the same -/
theorem RowZ.at7 {s : Addr} {H : Hp} {q n} {rs : List (V × D)} (h : RowZ s H q n rs) (l : n ≤ 25) : RowAt (NotS s) g4 H 3 q (sev rs) := row_at7 (.inl h.sq) h.dc (Nat.le_trans h.len l)
theorem RowZ.nn {s : Addr} {H : Hp} {q n} {rs : List (V × D)} (h : RowZ s H q n rs) : ∀ d ∈ rs.map (·.2), d.isNil = false := fun d hd => by
  obtain ⟨r, hr, rfl⟩ := List.mem_map.mp hd
  exact (h.dc r hr).1.ne_nil
abbrev nLaw : List Str := ["_law_script", "_law_number", "_law_s", "_law_row_here", "_law_other", "_law_due", "_law_told"]
theorem scLaw : FnScope nLaw ["_law_script"] (defScope sLaw) := ⟨rfl, rfl, rfl, by decide +kernel, rfl, by decide +kernel, by decide +kernel⟩

def spLaw (K : PySem.W.Frag) (Pt : Addr) : Sp := fun vs H Q _ => ∃ (a : Addr) (ns : List Int), vs = [.ref a] ∧ ScrAt K H a (ns.map V.int) ∧ ns.length ≤ 63 ∧ LamX.TabS H Pt qLam ∧ ∀ H', Q (.bl true) H'
section
variable [TabL] {P : Program} {w : World} {K : PySem.W.Frag} {mg : Str → Option Value} {base : Heap}
set_option maxHeartbeats 0 in
theorem ok_law {C Pt : Addr} {f f1 f5 fi fl fs fe fq : Addr} {fd d1 d5 di dl ds de fdq : FuncData} (T : Bi mg) (hR : TabL.R Pt qLam)
    (Dl : Df K mg "law" sLaw ["_law_script"] f fd)
    (D1 : Df K mg "_law_state" sState ["_law_source"] f1 d1) (D5 : Df K mg "_law_row" sLRow ["_law_s", "_law_most", "_law_deep"] f5 d5)
    (Di : Df K mg "_law_similar" sSimilar ["_law_s", "_law_row_here"] fi di) (Da : Df K mg "_law_all_same" sAllSame ["_law_row_here", "_law_other"] fl dl)
    (Ds : Df K mg "same" sSame ["row", "other"] fs ds) (De : Df K mg "effect" sEffect ["row"] fe de)
    (bq : Binds K fdq ["self", "other"] []) (he : PySem.W.findIn K (.ref C) "__eq__" = some (some (.ref fq))) (hf : PySem.W.isFn K (.ref fq) = true)
    (gS : FnOk P w K mg base CX0 30 f1 d1 ["_law_source"] spState) (gR : FnOk P w K mg base CX0 30 f5 d5 ["_law_s", "_law_most", "_law_deep"] (spLRow 2))
    (gI : FnOk P w K mg base CX0 30 fi di ["_law_s", "_law_row_here"] spSim) (gA : FnOk P w K mg base CX0 30 fl dl ["_law_row_here", "_law_other"] spAllS)
    (gM : FnOk P w K mg base CX0 30 fs ds ["row", "other"] (spSame C Pt)) (gE : FnOk P w K mg base CX0 30 fe de ["row"] (spEff C Pt g4 2)) (gQ : FnOk P w K mg base CX0 10 fq fdq ["self", "other"] (spEqB (eqRB C g4 3))) :
    FnOkG P w K mg base CX0 31 f fd ["_law_script"] (spLaw K Pt) := by
  refine okG Dl.F scLaw (fun vs H Q E h => ?_) (fun cdv A outer s0 H vs Q E hg hr h => ?_)
  · obtain ⟨a, ns, rfl, _⟩ := h
    rfl
  obtain ⟨a, ns, rfl, hS, hlen, tb0, k⟩ := h
  have hrQ : Room 10 _ := hr.mono (by decide)
  refine ⟨_, (pss_cons (ps_for PassesOwn.never rfl (pi_list (pe_slice sl_list (pe_op op_catScr (pv 0) (pe_lst (pa_cons pe_int pa_nil))) po_none (po_some pe_int))) (pg_name (i := 1) scLaw.nd rfl (Or.inl rfl)) (pss_cons (ps_set (i := 2) scLaw.nd rfl (Or.inl rfl) (pe_call gS hr rfl D1.m D1.F.kp D1.b .nil pass0 (pa_cons (pv 1) pa_nil)))
      (C8.pss_cut (ps_set (i := 3) scLaw.nd rfl (Or.inl rfl) (pe_call gR hr rfl D5.m D5.F.kp D5.b .nil pass0 (pa_cons (pv 2) (pa_cons pe_int (pa_cons pe_int pa_nil)))))
      (C8.pss_cut (ps_set (i := 4) scLaw.nd rfl (Or.inl rfl) (pe_call gI hr rfl Di.m Di.F.kp Di.b .nil pass0 (pa_cons (pv 2) (pa_cons (pv 3) pa_nil))))
      (C8.pss_cut (ps_set (i := 5) scLaw.nd rfl (Or.inl rfl) (pe_call gA hr rfl Da.m Da.F.kp Da.b .nil pass0 (pa_cons (pv 3) (pa_cons (pv 4) pa_nil))))
      (C8.pss_cut (ps_set (i := 6) scLaw.nd rfl (Or.inl rfl) (pe_call gM hr rfl Ds.m Ds.F.kp Ds.b .nil pass0 (pa_cons (pv 3) (pa_cons (pv 4) pa_nil))))
      (C8.pss_cut (ps_if (PW.pt (pw_or (pt_not (pt_val (pe_callB (id := "isinstance") (r := rIsi K) call_isi (by rfl) (T.of "isinstance") (by decide +kernel) (pa_cons (pv 6) (pa_cons (pe_bltn (v := .ty "bool") (by rfl) (T.of "bool") (by decide +kernel) rfl) pa_nil))))) (pw_or (pt_cmpR op_ne (pv 6) (pv 5) (nomark _)) (pw_or1 (pt_cmpR op_ne (pe_call gM hr rfl Ds.m Ds.F.kp Ds.b .nil pass0 (pa_cons (pe_callTy call_tuple_of (by rfl) (T.of "tuple") (by decide +kernel) (pa_cons (pv 4) pa_nil)) (pa_cons (pv 3) pa_nil))) (pv 5) (nomark _)))))) (pss_one (ps_ret pe_bl)) pss_nil)
      (C8.pss_cut (ps_if (pt_cmpR op_ne (pe_cmpR (op_eqB (rcB_ins (E := E0) gQ he hf bq pass0) hrQ) (pe_call gE hr rfl De.m De.F.kp De.b .nil pass0 (pa_cons (pv 3) pa_nil)) (pe_call gE hr rfl De.m De.F.kp De.b .nil pass0 (pa_cons (pv 4) pa_nil)) (nomark _)) (pv 5) (nomark _)) (pss_one (ps_ret pe_bl)) pss_nil)
      (pss_one (ps_if (PW.pt (pw_or (pt_not (pt_val (pe_call gM hr rfl Ds.m Ds.F.kp Ds.b .nil pass0 (pa_cons (pv 3) (pa_cons (pe_op op_cat (pv 3) (pv 3)) pa_nil))))) (pw_or1 (pt_not (pt_val (pe_call gM hr rfl Ds.m Ds.F.kp Ds.b .nil pass0 (pa_cons (pe_op op_cat (pe_op op_cat (pv 3) (pv 4)) (pv 3)) (pa_cons (pe_op op_cat (pv 4) (pv 3)) pa_nil)))))))) (pss_one (ps_ret pe_bl)) pss_nil))))))))))
    (pss_one (ps_ret pe_bl))), ?_⟩
  refine ⟨_, rfl, (by show 1 ≤ sizeLine; decide), fun p0 h0 => ?_⟩
  refine ⟨a, p0, ns.map V.int, [.int 0], rfl, rfl, hS.ex (Ex.new h0), upd_same, (by show 1 ≤ 1000; decide), fun p1 h1 => ?_⟩
  refine ⟨3, rfl, p1, _, rfl, .inl (.inl upd_same), fun pL hL => ?_⟩
  refine ⟨pL, rfl, ⟨_, .inl (.inl upd_same)⟩, ?_⟩
  have tb1 : LamX.TabS (upd (upd (upd H p0 (.lst [.int 0])) p1 (.lst (ns.map V.int ++ [.int 0]))) pL (.lst (cutV (ns.map V.int ++ [.int 0]) none (some 3)))) Pt qLam := (Ex.new hL).tab _ _ hR ((Ex.new h1).tab _ _ hR ((Ex.new h0).tab _ _ hR tb0))
  have lL : (upd (upd (upd H p0 (.lst [.int 0])) p1 (.lst (ns.map V.int ++ [.int 0]))) pL (.lst (cutV (ns.map V.int ++ [.int 0]) none (some 3)))) pL = some (.lst (cutV (ns.map V.int ++ [.int 0]) none (some 3))) := upd_same
  generalize (upd (upd (upd H p0 (.lst [.int 0])) p1 (.lst (ns.map V.int ++ [.int 0]))) pL (.lst (cutV (ns.map V.int ++ [.int 0]) none (some 3)))) = H1 at tb1 lL ⊢
  refine for_list (K := K) (a := pL) (xs := cutV (ns.map V.int ++ [.int 0]) none (some 3)) (fun i σ H3 => (∃ y1 y2 y3 y4 y5 y6, σ = [some (.ref a), y1, y2, y3, y4, y5, y6]) ∧ Ex H1 H3) ⟨⟨_, _, _, _, _, _, rfl⟩, Ex.refl _⟩ (fun i σ H3 _ q => .inl (.inl (q.2 pL _ lL))) ?_ ?_
  · rintro i x σ H3 hi ⟨⟨y1, y2, y3, y4, y5, y6, rfl⟩, e13⟩
    obtain ⟨num, rfl⟩ : ∃ z, x = V.int z := by
      have := mem_cutV (List.mem_of_getElem? hi)
      rcases List.mem_append.mp this with z | z
      · obtain ⟨z, _, e⟩ := List.mem_map.mp z
        exact ⟨z, e.symm⟩
      · exact ⟨0, List.mem_singleton.mp z⟩
    refine ⟨_, rfl, num, rfl, fun p H4 np e4 st4 _ => ?_⟩
    have e14 : Ex H1 H4 := e13.trans e4
    have np1 : H1 p = none := fresh_back e13 np
    have tb4 := e14.tab _ _ hR tb1
    clear np e13 e4
    -- the row
    refine ⟨fun σ' H' => ∃ q rs, (∃ z4 z5 z6, σ' = [some (.ref a), some (.int num), some (.ref p), some (.ref q), z4, z5, z6]) ∧ Mv p H4 H' ∧ RowZ p H' q 5 rs, ?_, ?_⟩
    · refine ⟨.ref p, rfl, p, 6, rfl, st4, by decide, by decide, fun qa rs H8 m8 nq nsq hqa hlq hrs => ?_⟩
      refine ⟨qa, rs, ⟨_, _, _, rfl⟩, m8, fun z => st4.ne (by rw [← z]; exact nq), hqa, by omega, fun r hr' => ?_⟩
      have dn := hrs r hr'
      exact ⟨dn.dc.imp fun x hx z => st4.ne (by rw [← z]; exact hx.1.1), dn.pd, dn.dd.mono (by decide)⟩
    rintro _ H5 ⟨q, rs, ⟨z4, z5, z6, rfl⟩, m5, w5⟩
    have e15 : Ex H1 H5 := mv_ex e14 np1 m5
    have st5 := m5.st
    have tb5 := m5.tab _ _ hR tb4
    clear m5 tb4 st4 e14
    -- the other one
    refine ⟨fun σ' H' => ∃ o ss, (∃ z5 z6, σ' = [some (.ref a), some (.int num), some (.ref p), some (.ref q), some (.ref o), z5, z6]) ∧ Mv p H5 H' ∧ RowZ p H' o 15 ss, ?_, ?_⟩
    · exact ⟨.ref p, rfl, .ref q, rfl, p, q, rs, rfl, st5, w5, fun o ss H' m w => ⟨o, ss, ⟨_, _, rfl⟩, m, w⟩⟩
    rintro _ H6 ⟨o, ss, ⟨z5, z6, rfl⟩, m6, u6⟩
    have w6 := w5.mv m6
    have e16 : Ex H1 H6 := mv_ex e15 np1 m6
    have tb6 := m6.tab _ _ hR tb5
    have st6 := m6.st
    clear m6 w5 st5 tb5 e15
    -- what is due
    refine ⟨fun σ' H' => ∃ b, (∃ z6, σ' = [some (.ref a), some (.int num), some (.ref p), some (.ref q), some (.ref o), some (.bl b), z6]) ∧ Ex H6 H' ∧ (b = true ↔ AllS (rs.map (·.2)) (ss.map (·.2))), ?_, ?_⟩
    · exact ⟨.ref q, rfl, .ref o, rfl, NotS p, NotS p, q, o, rs, ss, rfl, w6.sq, u6.sq, fun r hr' => (w6.dc r hr').1.lift (by decide), fun r hr' => (u6.dc r hr').1.lift (by decide), fun b H' e hb => ⟨b, ⟨_, rfl⟩, e, hb⟩⟩
    rintro _ H7 ⟨b, ⟨z6, rfl⟩, x7, hb⟩
    -- what is told
    refine ⟨fun σ' H' => (∃ r, σ' = [some (.ref a), some (.int num), some (.ref p), some (.ref q), some (.ref o), some (.bl b), some (.bl r)] ∧ r = b) ∧ Ex H6 H' ∧ (b = true ↔ rowE (rs.map (·.2)) = rowE (ss.map (·.2))), ?_, ?_⟩
    · refine ⟨.ref q, rfl, .ref o, rfl, NotS p, NotS p, q, o, rs, ss, rfl, (w6.ex x7).at7 (by decide), (u6.ex x7).at7 (by decide), x7.tab _ _ hR tb6, fun r H' e hr' f1 f2 => ⟨⟨r, rfl, ?_⟩, x7.trans e, ?_⟩⟩
      · exact Bool.eq_iff_iff.mpr (hr'.trans ((allS_iff f1 f2 w6.nn u6.nn).symm.trans hb.symm))
      · exact hb.trans (allS_iff f1 f2 w6.nn u6.nn)
    rintro _ H8 ⟨⟨r, rfl, rfl⟩, x8, hd⟩
    clear hb x7
    -- it is a bool, it is what is due, and so is the other way
    refine ⟨fun σ' H' => σ' = [some (.ref a), some (.int num), some (.ref p), some (.ref q), some (.ref o), some (.bl r), some (.bl r)] ∧ Ex H6 H', ?_, ?_⟩
    · refine ⟨.bl r, rfl, .bl r, .ty "bool", _, _, _, rfl, .ty _, .base (.bl _), kit_ty (r := true) (by decide +kernel), _, rfl, iteF ?_⟩
      refine ⟨.bl r, rfl, .bl r, rfl, rfl, _, rfl, ?_⟩
      rw [decide_eq_true (rfl : V.bl r = V.bl r)]
      refine iteF ⟨.ref o, rfl, o, _, rfl, .inl ⟨.inl (.inl (u6.ex x8).sq), fun l hl => ⟨.ref q, rfl, ?_⟩⟩⟩
      have x9 : Ex H6 (upd H8 l (.tup (ss.map (·.1)))) := x8.trans (Ex.new hl)
      refine ⟨NotS p, NotS p, l, q, ss, rs, rfl, row_at7 (.inr upd_same) (u6.ex x9).dc (by have := u6.len; omega), (w6.ex x9).at7 (by decide), x9.tab _ _ hR tb6, fun r' H' e hr' _ _ => ?_⟩
      obtain rfl : r' = r := Bool.eq_iff_iff.mpr (hr'.trans (eq_comm.trans hd.symm))
      refine ⟨.bl r', rfl, rfl, _, rfl, ?_⟩
      rw [decide_eq_true (rfl : V.bl r' = V.bl r')]
      exact iteF ⟨rfl, x9.trans e⟩
    rintro _ H9 ⟨rfl, x9⟩
    clear x8
    -- so are the effects
    refine ⟨fun σ' H' => σ' = [some (.ref a), some (.int num), some (.ref p), some (.ref q), some (.ref o), some (.bl r), some (.bl r)] ∧ Ex H6 H', ?_, ?_⟩
    · refine ⟨.ref q, rfl, NotS p, q, sev rs, rfl, (w6.ex x9).at7 (by decide), x9.tab _ _ hR tb6, fun v1 H10 e1 h1 => ⟨.ref o, rfl, NotS p, o, sev ss, rfl, (u6.ex (x9.trans e1)).at7 (by decide), (x9.trans e1).tab _ _ hR tb6, fun v2 H11 e2 h2 => ?_⟩⟩
      rw [sev2] at h1 h2
      refine ⟨r, dins (h1.ex e2) h2 hd, fun H12 x12 => ⟨.bl r, rfl, rfl, _, rfl, ?_⟩⟩
      rw [decide_eq_true (rfl : V.bl r = V.bl r)]
      exact iteF ⟨rfl, x9.trans (e1.trans (e2.trans (ex_all x12)))⟩
    rintro _ H10 ⟨rfl, x10⟩
    clear x9
    have w10 := w6.ex x10
    have u10 := u6.ex x10
    have st10 := (Mv.of_ex x10 st6).st
    have tb10 := x10.tab _ _ hR tb6
    have e1_10 := e16.trans x10
    -- once more, and there and back
    refine ⟨.ref q, rfl, .ref q, rfl, .ref q, rfl, t_cat w10 w10 st10 (by decide) (by decide) fun p1 H11 e11 st11 w11 => ?_⟩
    refine ⟨NotS p, NotS p, q, p1, rs, rs ++ rs, rfl, (w10.ex e11).at7 (by decide), w11.at7 (by decide), e11.tab _ _ hR tb10, fun b1 H12 e12 hb1 _ _ => ?_⟩
    obtain rfl : b1 = true := hb1.mpr (by rw [List.map_append, row_sum, fol_self])
    refine ⟨_, rfl, iteF ?_⟩
    have e1012 := e11.trans e12
    have st12 := (Mv.of_ex e12 st11).st
    refine ⟨.ref q, rfl, .ref o, rfl, t_cat (w10.ex e1012) (u10.ex e1012) st12 (by decide) (by decide) fun p2 H13 e13 st13 w13 => ⟨.ref q, rfl, t_cat w13 (w10.ex (e1012.trans e13)) st13 (by decide) (by decide) fun p3 H14 e14 st14 w14 => ?_⟩⟩
    have e1014 := e1012.trans (e13.trans e14)
    refine ⟨.ref o, rfl, .ref q, rfl, t_cat (u10.ex e1014) (w10.ex e1014) st14 (by decide) (by decide) fun p4 H15 e15 st15 w15 => ?_⟩
    have e1015 := e1014.trans e15
    refine ⟨NotS p, NotS p, p3, p4, rs ++ ss ++ rs, ss ++ rs, rfl, (w14.ex e15).at7 (by decide), w15.at7 (by decide), e1015.tab _ _ hR tb10, fun b2 H16 e16' hb2 _ _ => ?_⟩
    obtain rfl : b2 = true := hb2.mpr (by rw [List.map_append, List.map_append, List.map_append, row_sum, row_sum, row_sum, fol_aba])
    exact ⟨_, rfl, iteF ⟨⟨_, _, _, _, _, _, rfl⟩, e1_10.trans (e1015.trans e16')⟩⟩
  · rintro σ H3 ⟨⟨y1, y2, y3, y4, y5, y6, rfl⟩, e13⟩
    exact k H3
end
end TP

namespace TP
open PySem PySem.Spec PyProof.Rows L2
instance : TabL := ⟨fun _ q => q = qLam, fun _ _ _ h h' => h.trans h'.symm⟩
theorem all_mk {l : PySem.W.OpenLaw} {w : World} {K : PySem.W.Frag} {h : Heap} {mg : Str → Option Value} {fa f0 f1 f2 f3 f4 f5 f6 f7 f8 f9 f10 f11 f12 f13 f14 f15 f16 f17 f18 f19 f20 f21 f22 f23 f24 f25 f26 f27 f28 C cX Pt Nn fI fA fE : Addr} (X : K.In h) (G : h.Ns mainGlobals mg) (hfa : mg "law" = some (.ref fa))
    {od0 an0 od1 an1 od2 an2 od3 an3 od4 an4 od5 an5 od6 an6 od7 an7 od8 an8 od9 an9 od10 an10 od11 an11 od12 an12 od13 an13 od14 an14 od15 an15 od16 an16 od17 an17 od18 an18 od19 an19 od20 an20 od21 an21 od22 an22 od23 an23 od24 an24 od25 an25 od26 an26 od27 an27 od28 an28 odI anI odA anA odE anE : Option Addr} {sl0 sl1 sl2 sl3 sl4 sl5 sl6 sl7 sl8 sl9 sl10 sl11 sl12 sl13 sl14 sl15 sl16 sl17 sl18 sl19 sl20 sl21 sl22 sl23 sl24 sl25 sl26 sl27 sl28 slI slA slE : Array (Option Value)} {oc0 kV0 dc0 pm0 cd0 ct0 oc1 kV1 dc1 pm1 cd1 ct1 oc2 kV2 dc2 pm2 cd2 ct2 oc3 kV3 dc3 pm3 cd3 ct3 oc4 kV4 dc4 pm4 cd4 ct4 oc5 kV5 dc5 pm5 cd5 ct5 oc6 kV6 dc6 pm6 cd6 ct6 oc7 kV7 dc7 pm7 cd7 ct7 oc8 kV8 dc8 pm8 cd8 ct8 oc9 kV9 dc9 pm9 cd9 ct9 oc10 kV10 dc10 pm10 cd10 ct10 oc11 kV11 dc11 pm11 cd11 ct11 oc12 kV12 dc12 pm12 cd12 ct12 oc13 kV13 dc13 pm13 cd13 ct13 oc14 kV14 dc14 pm14 cd14 ct14 oc15 kV15 dc15 pm15 cd15 ct15 oc16 kV16 dc16 pm16 cd16 ct16 oc17 kV17 dc17 pm17 cd17 ct17 oc18 kV18 dc18 pm18 cd18 ct18 oc19 kV19 dc19 pm19 cd19 ct19 oc20 kV20 dc20 pm20 cd20 ct20 oc21 kV21 dc21 pm21 cd21 ct21 oc22 kV22 dc22 pm22 cd22 ct22 oc23 kV23 dc23 pm23 cd23 ct23 oc24 kV24 dc24 pm24 cd24 ct24 oc25 kV25 dc25 pm25 cd25 ct25 oc26 kV26 dc26 pm26 cd26 ct26 oc27 kV27 dc27 pm27 cd27 ct27 oc28 kV28 dc28 pm28 cd28 ct28 ocI kVI dcI pmI cdI ctI ocA kVA dcA pmA cdA ctA ocE kVE dcE pmE cdE ctE : Value} {tk0 tk1 : Tok}
    {nmE qE : Str} {bsE subE : List Value} {snE : List Str} {hdctE abE : Bool} {colE : Option Bool} {ddE dNE : Option Addr} {k0E k1E k2E k3E k5E : Option Value} {newIdE : String} {cNE : Value} {esE : Array DictEntry} {epE : Nat} {slNE : Array (Option Value)}
    (a0 : PySem.W.nsIn K mainGlobals "check" = some (some (.ref f0))) (l0 : K.lookup f0 = some ⟨oc0, od0, .func (PySem.W.fnOf "check" "check" (defArgs sCheck) (defBody sCheck) (defScope sCheck) .none kV0 dc0 pm0 an0 cd0 ct0), sl0⟩) (c0 : PySem.W.codeIn K cd0 "check" = true) (k0 : PySem.W.keepIn K (.ref f0) = true)
    (a1 : PySem.W.nsIn K mainGlobals "wrong_path" = some (some (.ref f1))) (l1 : K.lookup f1 = some ⟨oc1, od1, .func (PySem.W.fnOf "wrong_path" "wrong_path" (defArgs sWrong) (defBody sWrong) (defScope sWrong) .none kV1 dc1 pm1 an1 cd1 ct1), sl1⟩) (c1 : PySem.W.codeIn K cd1 "wrong_path" = true) (k1 : PySem.W.keepIn K (.ref f1) = true)
    (a2 : PySem.W.nsIn K mainGlobals "is_atom" = some (some (.ref f2))) (l2 : K.lookup f2 = some ⟨oc2, od2, .func (PySem.W.fnOf "is_atom" "is_atom" (defArgs sIsAtom) (defBody sIsAtom) (defScope sIsAtom) .none kV2 dc2 pm2 an2 cd2 ct2), sl2⟩) (c2 : PySem.W.codeIn K cd2 "is_atom" = true) (k2 : PySem.W.keepIn K (.ref f2) = true)
    (a3 : PySem.W.nsIn K mainGlobals "is_element" = some (some (.ref f3))) (l3 : K.lookup f3 = some ⟨oc3, od3, .func (PySem.W.fnOf "is_element" "is_element" (defArgs sIsElem) (defBody sIsElem) (defScope sIsElem) .none kV3 dc3 pm3 an3 cd3 ct3), sl3⟩) (c3 : PySem.W.codeIn K cd3 "is_element" = true) (k3 : PySem.W.keepIn K (.ref f3) = true)
    (a4 : PySem.W.nsIn K mainGlobals "depth" = some (some (.ref f4))) (l4 : K.lookup f4 = some ⟨oc4, od4, .func (PySem.W.fnOf "depth" "depth" (defArgs sDepth) (defBody sDepth) (defScope sDepth) .none kV4 dc4 pm4 an4 cd4 ct4), sl4⟩) (c4 : PySem.W.codeIn K cd4 "depth" = true) (k4 : PySem.W.keepIn K (.ref f4) = true)
    (a5 : PySem.W.nsIn K mainGlobals "parts" = some (some (.ref f5))) (l5 : K.lookup f5 = some ⟨oc5, od5, .func (PySem.W.fnOf "parts" "parts" (defArgs sParts) (defBody sParts) (defScope sParts) .none kV5 dc5 pm5 an5 cd5 ct5), sl5⟩) (c5 : PySem.W.codeIn K cd5 "parts" = true) (k5 : PySem.W.keepIn K (.ref f5) = true)
    (a6 : PySem.W.nsIn K mainGlobals "copied" = some (some (.ref f6))) (l6 : K.lookup f6 = some ⟨oc6, od6, .func (PySem.W.fnOf "copied" "copied" (defArgs sCopied) (defBody sCopied) (defScope sCopied) .none kV6 dc6 pm6 an6 cd6 ct6), sl6⟩) (c6 : PySem.W.codeIn K cd6 "copied" = true) (k6 : PySem.W.keepIn K (.ref f6) = true)
    (a7 : PySem.W.nsIn K mainGlobals "check_row" = some (some (.ref f7))) (l7 : K.lookup f7 = some ⟨oc7, od7, .func (PySem.W.fnOf "check_row" "check_row" (defArgs sCheckRow) (defBody sCheckRow) (defScope sCheckRow) .none kV7 dc7 pm7 an7 cd7 ct7), sl7⟩) (c7 : PySem.W.codeIn K cd7 "check_row" = true) (k7 : PySem.W.keepIn K (.ref f7) = true)
    (a8 : PySem.W.nsIn K mainGlobals "effect" = some (some (.ref f8))) (l8 : K.lookup f8 = some ⟨oc8, od8, .func (PySem.W.fnOf "effect" "effect" (defArgs sEffect) (defBody sEffect) (defScope sEffect) .none kV8 dc8 pm8 an8 cd8 ct8), sl8⟩) (c8 : PySem.W.codeIn K cd8 "effect" = true) (k8 : PySem.W.keepIn K (.ref f8) = true)
    (a9 : PySem.W.nsIn K mainGlobals "row_effect" = some (some (.ref f9))) (l9 : K.lookup f9 = some ⟨oc9, od9, .func (PySem.W.fnOf "row_effect" "row_effect" (defArgs sRowEffect) (defBody sRowEffect) (defScope sRowEffect) .none kV9 dc9 pm9 an9 cd9 ct9), sl9⟩) (c9 : PySem.W.codeIn K cd9 "row_effect" = true) (k9 : PySem.W.keepIn K (.ref f9) = true)
    (a10 : PySem.W.nsIn K mainGlobals "patch_effect" = some (some (.ref f10))) (l10 : K.lookup f10 = some ⟨oc10, od10, .func (PySem.W.fnOf "patch_effect" "patch_effect" (defArgs sPE) (defBody sPE) (defScope sPE) .none kV10 dc10 pm10 an10 cd10 ct10), sl10⟩) (c10 : PySem.W.codeIn K cd10 "patch_effect" = true) (k10 : PySem.W.keepIn K (.ref f10) = true)
    (a11 : PySem.W.nsIn K mainGlobals "member_effect" = some (some (.ref f11))) (l11 : K.lookup f11 = some ⟨oc11, od11, .func (PySem.W.fnOf "member_effect" "member_effect" (defArgs sME) (defBody sME) (defScope sME) .none kV11 dc11 pm11 an11 cd11 ct11), sl11⟩) (c11 : PySem.W.codeIn K cd11 "member_effect" = true) (k11 : PySem.W.keepIn K (.ref f11) = true)
    (a12 : PySem.W.nsIn K mainGlobals "following" = some (some (.ref f12))) (l12 : K.lookup f12 = some ⟨oc12, od12, .func (PySem.W.fnOf "following" "following" (defArgs sFol) (defBody sFol) (defScope sFol) .none kV12 dc12 pm12 an12 cd12 ct12), sl12⟩) (c12 : PySem.W.codeIn K cd12 "following" = true) (k12 : PySem.W.keepIn K (.ref f12) = true)
    (a13 : PySem.W.nsIn K mainGlobals "merged" = some (some (.ref f13))) (l13 : K.lookup f13 = some ⟨oc13, od13, .func (PySem.W.fnOf "merged" "merged" (defArgs sMerged) (defBody sMerged) (defScope sMerged) .none kV13 dc13 pm13 an13 cd13 ct13), sl13⟩) (c13 : PySem.W.codeIn K cd13 "merged" = true) (k13 : PySem.W.keepIn K (.ref f13) = true)
    (a14 : PySem.W.nsIn K mainGlobals "built" = some (some (.ref f14))) (l14 : K.lookup f14 = some ⟨oc14, od14, .func (PySem.W.fnOf "built" "built" (defArgs sBuilt) (defBody sBuilt) (defScope sBuilt) .none kV14 dc14 pm14 an14 cd14 ct14), sl14⟩) (c14 : PySem.W.codeIn K cd14 "built" = true) (k14 : PySem.W.keepIn K (.ref f14) = true)
    (a15 : PySem.W.nsIn K mainGlobals "_law_state" = some (some (.ref f15))) (l15 : K.lookup f15 = some ⟨oc15, od15, .func (PySem.W.fnOf "_law_state" "_law_state" (defArgs sState) (defBody sState) (defScope sState) .none kV15 dc15 pm15 an15 cd15 ct15), sl15⟩) (c15 : PySem.W.codeIn K cd15 "_law_state" = true) (k15 : PySem.W.keepIn K (.ref f15) = true)
    (a16 : PySem.W.nsIn K mainGlobals "_law_digit" = some (some (.ref f16))) (l16 : K.lookup f16 = some ⟨oc16, od16, .func (PySem.W.fnOf "_law_digit" "_law_digit" (defArgs sDigit) (defBody sDigit) (defScope sDigit) .none kV16 dc16 pm16 an16 cd16 ct16), sl16⟩) (c16 : PySem.W.codeIn K cd16 "_law_digit" = true) (k16 : PySem.W.keepIn K (.ref f16) = true)
    (a17 : PySem.W.nsIn K mainGlobals "_law_atom" = some (some (.ref f17))) (l17 : K.lookup f17 = some ⟨oc17, od17, .func (PySem.W.fnOf "_law_atom" "_law_atom" (defArgs sAtom') (defBody sAtom') (defScope sAtom') .none kV17 dc17 pm17 an17 cd17 ct17), sl17⟩) (c17 : PySem.W.codeIn K cd17 "_law_atom" = true) (k17 : PySem.W.keepIn K (.ref f17) = true)
    (a18 : PySem.W.nsIn K mainGlobals "_law_patch" = some (some (.ref f18))) (l18 : K.lookup f18 = some ⟨oc18, od18, .func (PySem.W.fnOf "_law_patch" "_law_patch" (defArgs sPatch) (defBody sPatch) (defScope sPatch) .none kV18 dc18 pm18 an18 cd18 ct18), sl18⟩) (c18 : PySem.W.codeIn K cd18 "_law_patch" = true) (k18 : PySem.W.keepIn K (.ref f18) = true)
    (a19 : PySem.W.nsIn K mainGlobals "_law_row" = some (some (.ref f19))) (l19 : K.lookup f19 = some ⟨oc19, od19, .func (PySem.W.fnOf "_law_row" "_law_row" (defArgs sLRow) (defBody sLRow) (defScope sLRow) .none kV19 dc19 pm19 an19 cd19 ct19), sl19⟩) (c19 : PySem.W.codeIn K cd19 "_law_row" = true) (k19 : PySem.W.keepIn K (.ref f19) = true)
    (a20 : PySem.W.nsIn K mainGlobals "_law_copied" = some (some (.ref f20))) (l20 : K.lookup f20 = some ⟨oc20, od20, .func (PySem.W.fnOf "_law_copied" "_law_copied" (defArgs sLCopied) (defBody sLCopied) (defScope sLCopied) .none kV20 dc20 pm20 an20 cd20 ct20), sl20⟩) (c20 : PySem.W.codeIn K cd20 "_law_copied" = true) (k20 : PySem.W.keepIn K (.ref f20) = true)
    (a21 : PySem.W.nsIn K mainGlobals "_law_after" = some (some (.ref f21))) (l21 : K.lookup f21 = some ⟨oc21, od21, .func (PySem.W.fnOf "_law_after" "_law_after" (defArgs sLAfter) (defBody sLAfter) (defScope sLAfter) .none kV21 dc21 pm21 an21 cd21 ct21), sl21⟩) (c21 : PySem.W.codeIn K cd21 "_law_after" = true) (k21 : PySem.W.keepIn K (.ref f21) = true)
    (a22 : PySem.W.nsIn K mainGlobals "_law_run" = some (some (.ref f22))) (l22 : K.lookup f22 = some ⟨oc22, od22, .func (PySem.W.fnOf "_law_run" "_law_run" (defArgs sLRun) (defBody sLRun) (defScope sLRun) .none kV22 dc22 pm22 an22 cd22 ct22), sl22⟩) (c22 : PySem.W.codeIn K cd22 "_law_run" = true) (k22 : PySem.W.keepIn K (.ref f22) = true)
    (a23 : PySem.W.nsIn K mainGlobals "_law_wrapped" = some (some (.ref f23))) (l23 : K.lookup f23 = some ⟨oc23, od23, .func (PySem.W.fnOf "_law_wrapped" "_law_wrapped" (defArgs sWrap) (defBody sWrap) (defScope sWrap) .none kV23 dc23 pm23 an23 cd23 ct23), sl23⟩) (c23 : PySem.W.codeIn K cd23 "_law_wrapped" = true) (k23 : PySem.W.keepIn K (.ref f23) = true)
    (a24 : PySem.W.nsIn K mainGlobals "_law_paths" = some (some (.ref f24))) (l24 : K.lookup f24 = some ⟨oc24, od24, .func (PySem.W.fnOf "_law_paths" "_law_paths" (defArgs sPaths) (defBody sPaths) (defScope sPaths) .none kV24 dc24 pm24 an24 cd24 ct24), sl24⟩) (c24 : PySem.W.codeIn K cd24 "_law_paths" = true) (k24 : PySem.W.keepIn K (.ref f24) = true)
    (a25 : PySem.W.nsIn K mainGlobals "_law_all_same" = some (some (.ref f25))) (l25 : K.lookup f25 = some ⟨oc25, od25, .func (PySem.W.fnOf "_law_all_same" "_law_all_same" (defArgs sAllSame) (defBody sAllSame) (defScope sAllSame) .none kV25 dc25 pm25 an25 cd25 ct25), sl25⟩) (c25 : PySem.W.codeIn K cd25 "_law_all_same" = true) (k25 : PySem.W.keepIn K (.ref f25) = true)
    (a26 : PySem.W.nsIn K mainGlobals "_law_similar" = some (some (.ref f26))) (l26 : K.lookup f26 = some ⟨oc26, od26, .func (PySem.W.fnOf "_law_similar" "_law_similar" (defArgs sSimilar) (defBody sSimilar) (defScope sSimilar) .none kV26 dc26 pm26 an26 cd26 ct26), sl26⟩) (c26 : PySem.W.codeIn K cd26 "_law_similar" = true) (k26 : PySem.W.keepIn K (.ref f26) = true)
    (a27 : PySem.W.nsIn K mainGlobals "same" = some (some (.ref f27))) (l27 : K.lookup f27 = some ⟨oc27, od27, .func (PySem.W.fnOf "same" "same" (defArgs sSame) (defBody sSame) (defScope sSame) .none kV27 dc27 pm27 an27 cd27 ct27), sl27⟩) (c27 : PySem.W.codeIn K cd27 "same" = true) (k27 : PySem.W.keepIn K (.ref f27) = true)
    (a28 : PySem.W.nsIn K mainGlobals "law" = some (some (.ref f28))) (l28 : K.lookup f28 = some ⟨oc28, od28, .func (PySem.W.fnOf "law" "law" (defArgs sLaw) (defBody sLaw) (defScope sLaw) .none kV28 dc28 pm28 an28 cd28 ct28), sl28⟩) (c28 : PySem.W.codeIn K cd28 "law" = true) (k28 : PySem.W.keepIn K (.ref f28) = true)
    (q0 : PySem.W.nsIn K mainGlobals "MOST_DEPTH" = some (some (.int 8 tk0)))
    (q1 : PySem.W.nsIn K mainGlobals "MOST_PARTS" = some (some (.int 200 tk1)))
    (z0 : PySem.W.nsIn K mainGlobals "isinstance" = some none)
    (z1 : PySem.W.nsIn K mainGlobals "dict" = some none)
    (z2 : PySem.W.nsIn K mainGlobals "list" = some none)
    (z3 : PySem.W.nsIn K mainGlobals "int" = some none)
    (z4 : PySem.W.nsIn K mainGlobals "str" = some none)
    (z5 : PySem.W.nsIn K mainGlobals "bool" = some none)
    (z6 : PySem.W.nsIn K mainGlobals "sorted" = some none)
    (z7 : PySem.W.nsIn K mainGlobals "sum" = some none)
    (z8 : PySem.W.nsIn K mainGlobals "max" = some none)
    (z9 : PySem.W.nsIn K mainGlobals "all" = some none)
    (z10 : PySem.W.nsIn K mainGlobals "len" = some none)
    (z11 : PySem.W.nsIn K mainGlobals "range" = some none)
    (z12 : PySem.W.nsIn K mainGlobals "abs" = some none)
    (z13 : PySem.W.nsIn K mainGlobals "repr" = some none)
    (z14 : PySem.W.nsIn K mainGlobals "tuple" = some none)
    (aC : PySem.W.nsIn K mainGlobals "Effect" = some (some (.ref C)))
    (lI : K.lookup fI = some ⟨ocI, odI, .func (PySem.W.fnOf "__init__" "Effect.__init__" (defArgs sInit) (defBody sInit) (defScope sInit) .none kVI dcI pmI anI (.ref cX) ctI), slI⟩) (cI : PySem.W.codeIn K (.ref cX) "Effect.__init__" = true) (kI : PySem.W.keepIn K (.ref fI) = true)
    (lA : K.lookup fA = some ⟨ocA, odA, .func (PySem.W.fnOf "__add__" "Effect.__add__" (defArgs sAdd) (defBody sAdd) (defScope sAdd) .none kVA dcA pmA anA cdA ctA), slA⟩) (cA : PySem.W.codeIn K cdA "Effect.__add__" = true) (kA : PySem.W.keepIn K (.ref fA) = true)
    (lE : K.lookup fE = some ⟨ocE, odE, .func (PySem.W.fnOf "__eq__" "Effect.__eq__" (defArgs sEqE) (defBody sEqE) (defScope sEqE) .none kVE dcE pmE anE cdE ctE), slE⟩) (cE : PySem.W.codeIn K cdE "Effect.__eq__" = true) (kE : PySem.W.keepIn K (.ref fE) = true)
    (pgE : PySem.W.plainGet K C Str.empty = true) (hdE : PySem.W.hasDictIn K C = true) (poE : PySem.W.plainOver K C = true) (saE : PySem.W.findIn K (.ref C) "__setattr__" = some (some (.builtin "object.__setattr__")))
    (nK : PySem.W.findIn K (.ref C) "kind" = some none) (nA : PySem.W.findIn K (.ref C) "atom" = some none) (nM : PySem.W.findIn K (.ref C) "members" = some none)
    (mkE : PySem.W.makesIn K C = true) (inE : PySem.W.findIn K (.ref C) "__init__" = some (some (.ref fI))) (fnI : PySem.W.isFn K (.ref fI) = true) (kpC : PySem.W.keepIn K (.ref C) = true)
    (sf : PySem.W.selfFirst K C = true) (hfA : PySem.W.findIn K (.ref C) (PySem.dunder "add") = some (some (.ref fA))) (fnA : PySem.W.isFn K (.ref fA) = true)
    (hfE : PySem.W.findIn K (.ref C) "__eq__" = some (some (.ref fE))) (fnE : PySem.W.isFn K (.ref fE) = true)
    (icA : PySem.W.findIn K (.ref C) "__class__" = some (some (.builtin "object.__class__"))) (icN : PySem.W.specialIn K (.builtin "object.__class__") "__get__" = some (some (.builtin "getset_descriptor.__get__"))) (icT : PySem.W.takesIn K (.builtin "object.__class__") = some true) (icM : PySem.W.mroIn K C (.type "object") = some true) (icE : PySem.W.kitOne K (.ref C) (.ref C) = some true)
    (lCl : K.lookup C = some (excClassObj nmE qE C Nn bsE [.type "object"] hdctE snE subE abE colE ddE k0E k1E k2E k3E k5E newIdE)) (lNs : K.lookup Nn = some ⟨cNE, dNE, .dict esE epE, slNE⟩) (skE : (esE.toList.all fun e => isStrV e.key) = true) (nsE : nsFind esE "__eq__" = some (.ref fE)) (cfE : ocE = .type "function") (nsN : nsFind esE "__ne__" = none)
    : ∃ fd : FuncData, (∀ (s : Shared) (v : Value), BindsTo s fd ⟨[v], []⟩ [("_law_script", v)]) ∧ ∀ base : Heap, K.In base → base.Ns mainGlobals mg → LamX.TabB base mg cX Pt → FnOkG l.prog w K mg base CX0 31 fa fd ["_law_script"] (spLaw K Pt) := by
  have e := hfa.symm.trans (PySem.W.mg_of X G a28)
  cases e
  have B : Bi mg := fun x hx => by
    simp only [List.mem_cons, List.not_mem_nil, or_false] at hx
    rcases hx with rfl | rfl | rfl | rfl | rfl | rfl | rfl | rfl | rfl | rfl | rfl | rfl | rfl | rfl | rfl
    · exact PySem.W.mg_none_of X G z0
    · exact PySem.W.mg_none_of X G z1
    · exact PySem.W.mg_none_of X G z2
    · exact PySem.W.mg_none_of X G z3
    · exact PySem.W.mg_none_of X G z4
    · exact PySem.W.mg_none_of X G z5
    · exact PySem.W.mg_none_of X G z6
    · exact PySem.W.mg_none_of X G z7
    · exact PySem.W.mg_none_of X G z8
    · exact PySem.W.mg_none_of X G z9
    · exact PySem.W.mg_none_of X G z10
    · exact PySem.W.mg_none_of X G z11
    · exact PySem.W.mg_none_of X G z12
    · exact PySem.W.mg_none_of X G z13
    · exact PySem.W.mg_none_of X G z14
  have F0 := fun_mk (st := sCheck) l0 c0 k0
  have D0 : Df K mg "check" sCheck ["value"] _ _ := ⟨F0, PySem.W.mg_of X G a0, F0.binds (ps := ["value"]) fun _ _ _ _ _ _ us hl => match us, hl with | [_], _ => rfl⟩
  have F1 := fun_mk (st := sWrong) l1 c1 k1
  have D1 : Df K mg "wrong_path" sWrong ["value"] _ _ := ⟨F1, PySem.W.mg_of X G a1, F1.binds (ps := ["value"]) fun _ _ _ _ _ _ us hl => match us, hl with | [_], _ => rfl⟩
  have F2 := fun_mk (st := sIsAtom) l2 c2 k2
  have D2 : Df K mg "is_atom" sIsAtom ["value"] _ _ := ⟨F2, PySem.W.mg_of X G a2, F2.binds (ps := ["value"]) fun _ _ _ _ _ _ us hl => match us, hl with | [_], _ => rfl⟩
  have F3 := fun_mk (st := sIsElem) l3 c3 k3
  have D3 : Df K mg "is_element" sIsElem ["value"] _ _ := ⟨F3, PySem.W.mg_of X G a3, F3.binds (ps := ["value"]) fun _ _ _ _ _ _ us hl => match us, hl with | [_], _ => rfl⟩
  have F4 := fun_mk (st := sDepth) l4 c4 k4
  have D4 : Df K mg "depth" sDepth ["document"] _ _ := ⟨F4, PySem.W.mg_of X G a4, F4.binds (ps := ["document"]) fun _ _ _ _ _ _ us hl => match us, hl with | [_], _ => rfl⟩
  have F5 := fun_mk (st := sParts) l5 c5 k5
  have D5 : Df K mg "parts" sParts ["document"] _ _ := ⟨F5, PySem.W.mg_of X G a5, F5.binds (ps := ["document"]) fun _ _ _ _ _ _ us hl => match us, hl with | [_], _ => rfl⟩
  have F6 := fun_mk (st := sCopied) l6 c6 k6
  have D6 : Df K mg "copied" sCopied ["document"] _ _ := ⟨F6, PySem.W.mg_of X G a6, F6.binds (ps := ["document"]) fun _ _ _ _ _ _ us hl => match us, hl with | [_], _ => rfl⟩
  have F7 := fun_mk (st := sCheckRow) l7 c7 k7
  have D7 : Df K mg "check_row" sCheckRow ["row"] _ _ := ⟨F7, PySem.W.mg_of X G a7, F7.binds (ps := ["row"]) fun _ _ _ _ _ _ us hl => match us, hl with | [_], _ => rfl⟩
  have F8 := fun_mk (st := sEffect) l8 c8 k8
  have D8 : Df K mg "effect" sEffect ["row"] _ _ := ⟨F8, PySem.W.mg_of X G a8, F8.binds (ps := ["row"]) fun _ _ _ _ _ _ us hl => match us, hl with | [_], _ => rfl⟩
  have F9 := fun_mk (st := sRowEffect) l9 c9 k9
  have D9 : Df K mg "row_effect" sRowEffect ["row"] _ _ := ⟨F9, PySem.W.mg_of X G a9, F9.binds (ps := ["row"]) fun _ _ _ _ _ _ us hl => match us, hl with | [_], _ => rfl⟩
  have F10 := fun_mk (st := sPE) l10 c10 k10
  have D10 : Df K mg "patch_effect" sPE ["patch"] _ _ := ⟨F10, PySem.W.mg_of X G a10, F10.binds (ps := ["patch"]) fun _ _ _ _ _ _ us hl => match us, hl with | [_], _ => rfl⟩
  have F11 := fun_mk (st := sME) l11 c11 k11
  have D11 : Df K mg "member_effect" sME ["patch"] _ _ := ⟨F11, PySem.W.mg_of X G a11, F11.binds (ps := ["patch"]) fun _ _ _ _ _ _ us hl => match us, hl with | [_], _ => rfl⟩
  have F12 := fun_mk (st := sFol) l12 c12 k12
  have D12 : Df K mg "following" sFol ["one", "other"] _ _ := ⟨F12, PySem.W.mg_of X G a12, F12.binds (ps := ["one", "other"]) fun _ _ _ _ _ _ us hl => match us, hl with | [_, _], _ => rfl⟩
  have F13 := fun_mk (st := sMerged) l13 c13 k13
  have D13 : Df K mg "merged" sMerged ["one", "other"] _ _ := ⟨F13, PySem.W.mg_of X G a13, F13.binds (ps := ["one", "other"]) fun _ _ _ _ _ _ us hl => match us, hl with | [_, _], _ => rfl⟩
  have F14 := fun_mk (st := sBuilt) l14 c14 k14
  have D14 : Df K mg "built" sBuilt ["one", "other"] _ _ := ⟨F14, PySem.W.mg_of X G a14, F14.binds (ps := ["one", "other"]) fun _ _ _ _ _ _ us hl => match us, hl with | [_, _], _ => rfl⟩
  have F15 := fun_mk (st := sState) l15 c15 k15
  have D15 : Df K mg "_law_state" sState ["_law_source"] _ _ := ⟨F15, PySem.W.mg_of X G a15, F15.binds (ps := ["_law_source"]) fun _ _ _ _ _ _ us hl => match us, hl with | [_], _ => rfl⟩
  have F16 := fun_mk (st := sDigit) l16 c16 k16
  have D16 : Df K mg "_law_digit" sDigit ["_law_state_here", "_law_base"] _ _ := ⟨F16, PySem.W.mg_of X G a16, F16.binds (ps := ["_law_state_here", "_law_base"]) fun _ _ _ _ _ _ us hl => match us, hl with | [_, _], _ => rfl⟩
  have F17 := fun_mk (st := sAtom') l17 c17 k17
  have D17 : Df K mg "_law_atom" sAtom' ["_law_s"] _ _ := ⟨F17, PySem.W.mg_of X G a17, F17.binds (ps := ["_law_s"]) fun _ _ _ _ _ _ us hl => match us, hl with | [_], _ => rfl⟩
  have F18 := fun_mk (st := sPatch) l18 c18 k18
  have D18 : Df K mg "_law_patch" sPatch ["_law_s", "_law_deep"] _ _ := ⟨F18, PySem.W.mg_of X G a18, F18.binds (ps := ["_law_s", "_law_deep"]) fun _ _ _ _ _ _ us hl => match us, hl with | [_, _], _ => rfl⟩
  have F19 := fun_mk (st := sLRow) l19 c19 k19
  have D19 : Df K mg "_law_row" sLRow ["_law_s", "_law_most", "_law_deep"] _ _ := ⟨F19, PySem.W.mg_of X G a19, F19.binds (ps := ["_law_s", "_law_most", "_law_deep"]) fun _ _ _ _ _ _ us hl => match us, hl with | [_, _, _], _ => rfl⟩
  have F20 := fun_mk (st := sLCopied) l20 c20 k20
  have D20 : Df K mg "_law_copied" sLCopied ["_law_value"] _ _ := ⟨F20, PySem.W.mg_of X G a20, F20.binds (ps := ["_law_value"]) fun _ _ _ _ _ _ us hl => match us, hl with | [_], _ => rfl⟩
  have F21 := fun_mk (st := sLAfter) l21 c21 k21
  have D21 : Df K mg "_law_after" sLAfter ["_law_document", "_law_patch_here"] _ _ := ⟨F21, PySem.W.mg_of X G a21, F21.binds (ps := ["_law_document", "_law_patch_here"]) fun _ _ _ _ _ _ us hl => match us, hl with | [_, _], _ => rfl⟩
  have F22 := fun_mk (st := sLRun) l22 c22 k22
  have D22 : Df K mg "_law_run" sLRun ["_law_document", "_law_row_here"] _ _ := ⟨F22, PySem.W.mg_of X G a22, F22.binds (ps := ["_law_document", "_law_row_here"]) fun _ _ _ _ _ _ us hl => match us, hl with | [_, _], _ => rfl⟩
  have F23 := fun_mk (st := sWrap) l23 c23 k23
  have D23 : Df K mg "_law_wrapped" sWrap ["_law_path", "_law_place"] _ _ := ⟨F23, PySem.W.mg_of X G a23, F23.binds (ps := ["_law_path", "_law_place"]) fun _ _ _ _ _ _ us hl => match us, hl with | [_, _], _ => rfl⟩
  have F24 := fun_mk (st := sPaths) l24 c24 k24
  have D24 : Df K mg "_law_paths" sPaths [] _ _ := ⟨F24, PySem.W.mg_of X G a24, F24.binds (ps := []) fun _ _ _ _ _ _ us hl => match us, hl with | [], _ => rfl⟩
  have F25 := fun_mk (st := sAllSame) l25 c25 k25
  have D25 : Df K mg "_law_all_same" sAllSame ["_law_row_here", "_law_other"] _ _ := ⟨F25, PySem.W.mg_of X G a25, F25.binds (ps := ["_law_row_here", "_law_other"]) fun _ _ _ _ _ _ us hl => match us, hl with | [_, _], _ => rfl⟩
  have F26 := fun_mk (st := sSimilar) l26 c26 k26
  have D26 : Df K mg "_law_similar" sSimilar ["_law_s", "_law_row_here"] _ _ := ⟨F26, PySem.W.mg_of X G a26, F26.binds (ps := ["_law_s", "_law_row_here"]) fun _ _ _ _ _ _ us hl => match us, hl with | [_, _], _ => rfl⟩
  have F27 := fun_mk (st := sSame) l27 c27 k27
  have D27 : Df K mg "same" sSame ["row", "other"] _ _ := ⟨F27, PySem.W.mg_of X G a27, F27.binds (ps := ["row", "other"]) fun _ _ _ _ _ _ us hl => match us, hl with | [_, _], _ => rfl⟩
  have F28 := fun_mk (st := sLaw) l28 c28 k28
  have D28 : Df K mg "law" sLaw ["_law_script"] _ _ := ⟨F28, PySem.W.mg_of X G a28, F28.binds (ps := ["_law_script"]) fun _ _ _ _ _ _ us hl => match us, hl with | [_], _ => rfl⟩
  have FI := fun_mk (st := sInit) lI cI kI
  have bI := FI.binds (ps := ["self", "kind", "atom", "members"]) fun _ _ _ _ _ _ us hl => match us, hl with | [_, _, _, _], _ => rfl
  have FA := fun_mk (st := sAdd) lA cA kA
  have bA := FA.binds (ps := ["self", "other"]) fun _ _ _ _ _ _ us hl => match us, hl with | [_, _], _ => rfl
  have FE := fun_mk (st := sEqE) lE cE kE
  have bE := FE.binds (ps := ["self", "other"]) fun _ _ _ _ _ _ us hl => match us, hl with | [_, _], _ => rfl
  refine ⟨PySem.W.fnOf "law" "law" (defArgs sLaw) (defBody sLaw) (defScope sLaw) .none kV28 dc28 pm28 an28 cd28 ct28, fun s v => .of_eq rfl, fun base _ _ TB => ?_⟩
  have cl : Cls K C := ⟨pgE, hdE, poE, saE⟩
  have IC : C8.InsC K C := ⟨cl, icA, icN, icT, icM, icE⟩
  have hNe : ∀ h : Heap, K.In h → ClsNe h C fE := fun h Y => clsNe_of Y lCl lNs skE nsE lE cfE nsN
  have Z : EFacts K mg base C Pt fI _ := ⟨cl, nK, nA, nM, PySem.W.mg_of X G aC, ⟨mkE, inE, fnI, kpC⟩, bI, rfl⟩
  have gI : FnOk l.prog w K mg base CX0 2 fI _ ["self", "kind", "atom", "members"] (spInit C Pt g4) := ok_init lI cI B cl nK nA nM TB rfl
  have hN : g4.C .non = true := by decide +kernel
  have hN2 : g30.C .non = true := by decide +kernel
  have hG : g4.KS.length ≤ 5000 := by decide
  have R : Prog K mg _ _ _ _ _ _ _ _ _ _ _ _ _ _ := ⟨D0, D1, D2, D3, D4, D5, D6, ⟨_, PySem.W.mg_of X G q0⟩, ⟨_, PySem.W.mg_of X G q1⟩⟩
  have gFol := ok_fol' (P := l.prog) (w := w) hG Z gI hN B D12 D13 D14 3
  have gAdd := ok_add FA D12 gFol
  have gPE := ok_pe hG Z gI hN B D10 D11 3
  have gRE := ok_reff (n := 2) (k := 11) (by decide) Z gI hN B D9 D10 (gPE.mono (by decide)) gAdd bA sf hfA fnA
  have gRow := ok_row (P := l.prog) (w := w) (base := base) R B (G := g4) (by decide) (by decide) 3 D7
  have gE := ok_effect rfl D8 D7 (gRow.mono (by decide)) D9 gRE
  have gDr := ok_draw (P := l.prog) (w := w) (base := base) D18 D16 D17 B
  have gQ := ok_eqB (P := l.prog) (w := w) (G := g4) Z IC B FE bE hfE fnE 3
  have gR := ok_lrow (n := 2) (k := 28) D19 D16 D18 B ((gDr 2).mono (by decide))
  have gRun := ok_lrun (P := l.prog) (w := w) (base := base) (k := 20) D22 D21 ((ok_lafter (G := g30) D21 D20 B (by decide) hN2 5).mono (by decide))
  have gW := ok_wrap (P := l.prog) (w := w) (base := base) (G := g30) (m := 2) (by decide) D23 B 4
  have gP := ok_paths (P := l.prog) (w := w) (base := base) B D24
  have gA := ok_allS (k := 22) (by decide) B D25 D24 D23 D22 (gP.mono (by decide)) (gW.mono (by decide)) (gRun.mono (by decide))
  have gS := ok_sim (k := 22) B D26 D16 D18 ((ok_digit B D16).mono (by decide)) ((gDr 2).mono (by decide))
  have gM := ok_same (k := 22) (by decide) rfl D27 D8 bE hfE fnE (gE.mono (by decide)) gQ
  exact ok_law B rfl D28 D15 D19 D26 D25 D27 D8 bE hfE fnE
    ((ok_state D15 B).mono (by decide)) (gR.mono (by decide)) (gS.mono (by decide)) (gA.mono (by decide)) (gM.mono (by decide)) (gE.mono (by decide)) gQ
end TP
open PySem PySem.W PyProof.Rows
set_option maxHeartbeats 0 in
theorem PySem.Challenge.cw_twopatches_k30_rows_that_do_the_same_holds : PySem.Challenge.rw_twopatches_k30_rows_that_do_the_same.Holds := by
  w_on; o_law; k_head; (case hw => w_witness2)
  k_fill
  refine TP.walk_GT (l := PySem.Challenge.rw_twopatches_k30_rows_that_do_the_same) (n := 63) (k := 31) (x := "_law_script") (sp := TP.spLaw) rfl (by decide) rfl ⟨rfl, by decide, by decide⟩ (fun w h Y => Y.1) ?F (fun K H a Pt ns hl hT hS => ⟨a, ns, rfl, hS, hl, TP.tabs0 hT, fun _ => rfl⟩)
  case F =>
    intro w mg fa h Y KX G hmg
    refine' ⟨_, _, Y.2 _ (List.mem_singleton.mpr rfl), ?hK, ?hcd, TP.all_mk KX G hmg ?a0 ?l0 ?c0 ?k0 ?a1 ?l1 ?c1 ?k1 ?a2 ?l2 ?c2 ?k2 ?a3 ?l3 ?c3 ?k3 ?a4 ?l4 ?c4 ?k4 ?a5 ?l5 ?c5 ?k5 ?a6 ?l6 ?c6 ?k6 ?a7 ?l7 ?c7 ?k7 ?a8 ?l8 ?c8 ?k8 ?a9 ?l9 ?c9 ?k9 ?a10 ?l10 ?c10 ?k10 ?a11 ?l11 ?c11 ?k11 ?a12 ?l12 ?c12 ?k12 ?a13 ?l13 ?c13 ?k13 ?a14 ?l14 ?c14 ?k14 ?a15 ?l15 ?c15 ?k15 ?a16 ?l16 ?c16 ?k16 ?a17 ?l17 ?c17 ?k17 ?a18 ?l18 ?c18 ?k18 ?a19 ?l19 ?c19 ?k19 ?a20 ?l20 ?c20 ?k20 ?a21 ?l21 ?c21 ?k21 ?a22 ?l22 ?c22 ?k22 ?a23 ?l23 ?c23 ?k23 ?a24 ?l24 ?c24 ?k24 ?a25 ?l25 ?c25 ?k25 ?a26 ?l26 ?c26 ?k26 ?a27 ?l27 ?c27 ?k27 ?a28 ?l28 ?c28 ?k28 ?q0 ?q1 ?z0 ?z1 ?z2 ?z3 ?z4 ?z5 ?z6 ?z7 ?z8 ?z9 ?z10 ?z11 ?z12 ?z13 ?z14 ?aC ?lI ?cI ?kI ?lA ?cA ?kA ?lE ?cE ?kE ?pgE ?hdE ?poE ?saE ?nK ?nA ?nM ?mkE ?inE ?fnI ?kpC ?sf ?hfA ?fnA ?hfE ?fnE ?icA ?icN ?icT ?icM ?icE ?lCl ?lNs ?skE ?nsE ?cfE ?nsN⟩
    (case hK => rfl)
    (case a0 => k_is)
    (case l0 => k_is)
    (case c0 => k_is)
    (case k0 => k_is)
    (case a1 => k_is)
    (case l1 => k_is)
    (case c1 => k_is)
    (case k1 => k_is)
    (case a2 => k_is)
    (case l2 => k_is)
    (case c2 => k_is)
    (case k2 => k_is)
    (case a3 => k_is)
    (case l3 => k_is)
    (case c3 => k_is)
    (case k3 => k_is)
    (case a4 => k_is)
    (case l4 => k_is)
    (case c4 => k_is)
    (case k4 => k_is)
    (case a5 => k_is)
    (case l5 => k_is)
    (case c5 => k_is)
    (case k5 => k_is)
    (case a6 => k_is)
    (case l6 => k_is)
    (case c6 => k_is)
    (case k6 => k_is)
    (case a7 => k_is)
    (case l7 => k_is)
    (case c7 => k_is)
    (case k7 => k_is)
    (case a8 => k_is)
    (case l8 => k_is)
    (case c8 => k_is)
    (case k8 => k_is)
    (case a9 => k_is)
    (case l9 => k_is)
    (case c9 => k_is)
    (case k9 => k_is)
    (case a10 => k_is)
    (case l10 => k_is)
    (case c10 => k_is)
    (case k10 => k_is)
    (case a11 => k_is)
    (case l11 => k_is)
    (case c11 => k_is)
    (case k11 => k_is)
    (case a12 => k_is)
    (case l12 => k_is)
    (case c12 => k_is)
    (case k12 => k_is)
    (case a13 => k_is)
    (case l13 => k_is)
    (case c13 => k_is)
    (case k13 => k_is)
    (case a14 => k_is)
    (case l14 => k_is)
    (case c14 => k_is)
    (case k14 => k_is)
    (case a15 => k_is)
    (case l15 => k_is)
    (case c15 => k_is)
    (case k15 => k_is)
    (case a16 => k_is)
    (case l16 => k_is)
    (case c16 => k_is)
    (case k16 => k_is)
    (case a17 => k_is)
    (case l17 => k_is)
    (case c17 => k_is)
    (case k17 => k_is)
    (case a18 => k_is)
    (case l18 => k_is)
    (case c18 => k_is)
    (case k18 => k_is)
    (case a19 => k_is)
    (case l19 => k_is)
    (case c19 => k_is)
    (case k19 => k_is)
    (case a20 => k_is)
    (case l20 => k_is)
    (case c20 => k_is)
    (case k20 => k_is)
    (case a21 => k_is)
    (case l21 => k_is)
    (case c21 => k_is)
    (case k21 => k_is)
    (case a22 => k_is)
    (case l22 => k_is)
    (case c22 => k_is)
    (case k22 => k_is)
    (case a23 => k_is)
    (case l23 => k_is)
    (case c23 => k_is)
    (case k23 => k_is)
    (case a24 => k_is)
    (case l24 => k_is)
    (case c24 => k_is)
    (case k24 => k_is)
    (case a25 => k_is)
    (case l25 => k_is)
    (case c25 => k_is)
    (case k25 => k_is)
    (case a26 => k_is)
    (case l26 => k_is)
    (case c26 => k_is)
    (case k26 => k_is)
    (case a27 => k_is)
    (case l27 => k_is)
    (case c27 => k_is)
    (case k27 => k_is)
    (case a28 => k_is)
    (case l28 => k_is)
    (case c28 => k_is)
    (case k28 => k_is)
    (case q0 => k_is)
    (case q1 => k_is)
    (case z0 => k_is)
    (case z1 => k_is)
    (case z2 => k_is)
    (case z3 => k_is)
    (case z4 => k_is)
    (case z5 => k_is)
    (case z6 => k_is)
    (case z7 => k_is)
    (case z8 => k_is)
    (case z9 => k_is)
    (case z10 => k_is)
    (case z11 => k_is)
    (case z12 => k_is)
    (case z13 => k_is)
    (case z14 => k_is)
    (case aC => k_is)
    (case pgE => k_is)
    (case hdE => k_is)
    (case poE => k_is)
    (case saE => k_is)
    (case nK => k_is)
    (case nA => k_is)
    (case nM => k_is)
    (case mkE => k_is)
    (case inE => k_is)
    (case fnI => k_is)
    (case kpC => k_is)
    (case sf => k_is)
    (case hfA => k_is)
    (case fnA => k_is)
    (case hfE => k_is)
    (case fnE => k_is)
    (case icA => k_is)
    (case icN => k_is)
    (case icT => k_is)
    (case icM => k_is)
    (case icE => first | rfl | decide)
    (case lI => k_is)
    (case cI => k_is)
    (case kI => k_is)
    (case lA => k_is)
    (case cA => k_is)
    (case kA => k_is)
    (case lE => k_is)
    (case cE => k_is)
    (case kE => k_is)
    (case lCl => k_is)
    (case lNs => k_is)
    (case skE => rfl)
    (case nsE => rfl)
    (case cfE => rfl)
    (case nsN => rfl)
    (case hcd => exact TP.code_hd KX (by k_is) rfl rfl rfl rfl rfl rfl (by decide))
    all_goals exact PySem.Value.none
